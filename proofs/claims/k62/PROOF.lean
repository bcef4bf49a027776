import PyProof.Rows.All
import Wide.All
import OpenK.AllK
import Wide.FinOn
import Lean
import PyProof.EqAt
import PyProof.EqKinds
import PyProof.TupleCall
import PyProof.ReprLen
import PyProof.ReprRoads
import PyProof.P3Eq
import PyProof.SetRoads
import PyProof.IsRules
import PyProof.ListRange
import PyProof.ConsumeWalk
import PyProof.NeKinds
import PyProof.DictTable
import PyProof.Draws
import PyProof.EnumMake
import KE.BitLaws
import KE.KIntText
import KE.KRevIter
import PyProof.Rows.SumAny
import PyProof.StrLawsRepr
import PyProof.Rows.SortStrRead
import PyProof.DictCompW
import PyProof.StrOps2
import PyProof.DictWalks
import OpenK.KOwn
import PyProof.NsDelKeeps
import PyProof.RulesAs
import KE.KIsAll
import PyProof.ExcArgsOwn
import PyProof.ExcAttrAll.ValueError
import PyProof.TupleKey
import PyProof.DictRoadsH
import KE.KSortTup
import KE.KDictSum
import PyProof.Rows.TupDisplay
import PyProof.ZipIter
import PyProof.FactsAll.tuple_1
import PyProof.Dict
import PyProof.FactsAll.tuple_2
import PyProof.FactsAll.tuple_3
import PyProof.MeetsSeq
import PyProof.Rows.FStr
import PyProof.Rows.RuleM_int
import PyProof.Rows.SetFrom
import PyProof.Rows.StrFirst
import PyProof.Rows.StrItems
import PyProof.Rows.StrNews2
import PyProof.StrLawsTight
import PyProof.StrWalks
import PyProof.WalksMore
import PySem.Challenge.RW_opencells_k62_no_machines_written
set_option Elab.async false
set_option maxHeartbeats 4000000
set_option maxRecDepth 100000
set_option linter.unusedSimpArgs false
set_option linter.unusedVariables false
noncomputable section
theorem qwb {α β:Type}{M:PySem.Model}{A:PySem.Around}{E:PySem.Value->PySem.Shared->Prop}{s:PySem.Shared}{m:PySem.Sem α}{f:α->PySem.Sem β}{Q:β->PySem.Shared->Prop}(h:PySem.wpAny M A m (λa s'=>PySem.wpAny M A (f a) Q E s') E s):PySem.wpAny M A (m >>= f) Q E s:=PySem.wpAny_bind h
theorem qwp {α:Type}{M:PySem.Model}{A:PySem.Around}{E:PySem.Value->PySem.Shared->Prop}{s:PySem.Shared}{a:α}{Q:α->PySem.Shared->Prop}(h:Q a s):PySem.wpAny M A (pure a) Q E s:=PySem.wpAny_pure h
theorem qbf:(false=true)=False:=Bool.false_eq_true
theorem qme {α:Type _}{l:List α}{i:Nat}{a:α}(h:l[i]? = some a):∃h:i<l.length,l[i]=a:=List.getElem?_eq_some_iff.mp h
theorem qge {α:Type _}{l:List α}{i:Nat}(h:i<l.length):l[i]? = some l[i]:=List.getElem?_eq_getElem h
abbrev QFg:=PySem.W.Frag
theorem qps {h:PySem.Heap}{a:PySem.Addr}{o1:PySem.Obj}(o:PySem.Obj) (e:h.get? a=some o1):(h.push o).get? a=some o1:=PySem.Heap.get?_push_of_some o e
theorem qlm {α β:Type _}{as:List α}(f:α->β):(as.map f).length=as.length:=List.length_map f
theorem qgm {α β:Type _}{f:α->β}{l:List α}{i:Nat}:(l.map f)[i]? = l[i]?.map f:=List.getElem?_map
theorem qoi {α:Type _}{a b:α}(h:some a=some b):a=b:=Option.some.inj h
theorem qmg {α:Type _}{l:List α}{i:Nat}{a:α}(e:l[i]? = some a):a∈l:=List.mem_of_getElem? e
theorem qlr (n:Nat):n<=n:=Nat.le_refl n
theorem qla {α:Type _}{as bs:List α}:(as++bs).length=as.length+bs.length:=List.length_append
namespace TS
open PySem PySem.SetTable
noncomputable def F:Nat->Nat->Nat
 | 0,x=>x
 | n+1,x=>5*F n x+1
noncomputable def adv (mask:Nat) (p:Probe):Probe :=
 if p.more > 0 then { p with j:=p.j+1,more:=p.more-1 } else
 let (i,perturb):=leap mask p.i p.perturb
 { p with j:=i,more:=runEnd mask i-i,i,perturb }
noncomputable def st0 (mask:Nat) (h:Int):Probe:={ j:=bits h % (mask+1),more:=runEnd mask (bits h % (mask+1))-bits h % (mask+1),i:=bits h % (mask+1),perturb:=bits h,dummy:=none }
noncomputable def pn (mask:Nat) (h:Int):Nat->Probe
 | 0=>st0 mask h
 | n+1=>adv mask (pn mask h n)
noncomputable def bl (mask:Nat) (h:Int):Nat->Nat × Nat
 | 0=>(bits h % (mask+1),bits h)
 | n+1=>leap mask (bl mask h n).1 (bl mask h n).2
def Ris (xs:Array Nat):Prop:=∀i j,i<j->j<xs.size->xs.getD i 0<xs.getD j 0
def In (t:SetTable) (j:Nat):Prop:=∃i:Nat,t.place[i]? = some j
structure TOk (t:SetTable) (es:Array (Int × Value)):Prop where
 dm:t.dummies = #[]
 sz:t.place.size=es.size
 pw:∃k,t.mask+1=2 ^ k/\3<=k
 ris:Ris t.place
 le:∀j,In t j->j<=t.mask
 ro:es.size*5<t.mask*3
 sm:t.mask<8192
 pr:∀(i:Nat) (h:Int) (v:Value),es[i]? = some (h,v)->∃n,t.place[i]? = some (pn t.mask h n).j/\∀m,m<n->In t (pn t.mask h m).j
def Occ (ow:Array (Option Nat)) (j:Nat):Prop:=∃i,ow[j]? = some (some i)
instance (ow:Array (Option Nat)):DecidablePred (Occ ow):=λj=>match h:ow[j]? with
 | some (some i)=>.isTrue ⟨i,h⟩
 | some none=>.isFalse λhx1_=>by obtain ⟨i,z⟩:=hx1_;rw [h] at z;cases z
 | none=>.isFalse λhx2_=>by obtain ⟨i,z⟩:=hx2_;rw [h] at z;cases z
noncomputable def zo1 (ks:List Int):Int:=reduceHash (Builtin.Tuple.tupleHashOf (ks.map hashInt))
section
variable {prog:Program}{w:World}{A:Around}{E:Value->Shared->Prop}{s:Shared}
structure Els (es:Array (Int × Value)) (xs:List (List Int × Addr)):Prop where
 sub:∀e∈es.toList,∃p∈xs,e=(zo1 p.1,.ref p.2)
 sup:∀p∈xs,(zo1 p.1,Value.ref p.2)∈es.toList
 len:es.size=xs.length
end
def zvs (o:Obj) (xs:List (List Int × Addr)):Prop:=o.ExactSet/\∃es ep t,o.data=.set es ep t/\TOk t es/\Els es xs
def TSet (a:Addr) (xs:List (List Int × Addr)) (h:Heap):Prop:=∃o,h.get? a=some o/\zvs o xs
section
variable {prog:Program}{w:World}{A:Around}{E:Value->Shared->Prop}{s:Shared}{a x:Addr}{k:List Int}{xs:List (List Int × Addr)}
end
end TS
namespace BF
def lx:List Nat->List Nat->Prop
 | a :: u,b :: v=>a<b\/(a=b/\lx u v)
 | _,_=>False
def sl (u v:List Nat):Prop:=u.length<v.length\/(u.length=v.length/\lx u v)
def le (u v:List Nat):Prop:=sl u v\/u=v
abbrev P:=Nat × Nat
section
variable (A:Nat) (step:P->Nat->Option P) (fail:P->Nat->Bool)
noncomputable def walk:P->List Nat->Option P
 | p,[]=>some p
 | p,a :: w=>(step p a).bind λq=>walk q w
def zvt (p:P) (w:List Nat):Prop:=∃u b q,w=u++[b]/\b<A/\(∀a∈u,a<A)/\walk step p u=some q/\fail q b=true
end
section
variable {A:Nat}{step:P->Nat->Option P}{fail:P->Nat->Bool}
section
variable {p0 q q':P}{ps:List P}{ws:List (List Nat)}{w:List Nat}{i c:Nat}
end
def Fn (A:Nat) (step:P->Nat->Option P) (fail:P->Nat->Bool) (n:Nat) (p:P):Prop:=∃w,zvt A step fail p w/\w.length=n
end
end BF
namespace SP
open PySem PySem.W PyProof.Rows
inductive Ok (lt:Nat->Nat->Bool) (n:Nat) {α:Type} (G:α->Prop):KasT α->Prop where
 | ret {a:α} (h:G a):Ok lt n G (.ret a)
 | ask {i j:Nat} {k:Bool->KasT α} (hi:i<n) (hj:j<n) (h:Ok lt n G (k (lt i j))):Ok lt n G (.ask i j k)
section
variable {r:Nat->Int}{n:Nat}
noncomputable def lt (r:Nat->Int) (i j:Nat):Bool:=decide (r i<r j)
noncomputable def at' (r:Nat->Int) (p:Array Nat) (k:Nat):Int:=r (p.getD k 0)
end
open PySem.Calls
section
variable {prog:Program}{w:World}{A:Around}{E:Value->Shared->Prop}{s:Shared}
end
section
variable {prog:Program}{w:World}{A:Around}{E:Value->Shared->Prop}{s:Shared}
end
end SP
namespace L2
open PySem PySem.Spec PyProof.Rows
abbrev Key:=Sum Int Str
noncomputable def zo2:Key->Value->Bool
 | .inl k,v=>Value.isInt k v
 | .inr x,v=>Value.isStrOf x v
noncomputable def zvu (w:World):Key->Int
 | .inl k=>hashInt k
 | .inr x=>hashStr w x
theorem zg4:∀{k:Key}{v:Value},zo2 k v=true->(∃i t,k=Sum.inl i/\v=Value.int i t)\/(∃x t,k=Sum.inr x/\v=Value.str x t)
 | .inl i,v,h=>by
  obtain ⟨t,e⟩:=Value.isInt_shape (k:=i) (v:=v) h
  exact .inl ⟨i,t,rfl,e⟩
 | .inr x,v,h=>by
  obtain ⟨t,e⟩:=Value.isStrOf_shape (x:=x) (v:=v) h
  exact .inr ⟨x,t,rfl,e⟩
theorem zvv (a b:Int):decide ((Sum.inl a:Key)=Sum.inl b)=(a == b):=by
 by_cases e:a=b
 ·subst e;simp
 ·have h:¬(Sum.inl a:Key)=Sum.inl b:=λq=>e (Sum.inl.inj q)
  rw [decide_eq_false h]
  exact (beq_eq_false_iff_ne.mpr e).symm
theorem zvw (a b:Str):decide ((Sum.inr a:Key)=Sum.inr b)=decide (a=b):=by
 by_cases e:a=b
 ·subst e;simp
 ·have h:¬(Sum.inr a:Key)=Sum.inr b:=λq=>e (Sum.inr.inj q)
  rw [decide_eq_false h,decide_eq_false e]
theorem zvx (a:Int) (b:Str):decide ((Sum.inl a:Key)=Sum.inr b)=false:=decide_eq_false (λq=>nomatch q)
theorem zvy (a:Str) (b:Int):decide ((Sum.inr a:Key)=Sum.inl b)=false:=decide_eq_false (λq=>nomatch q)
noncomputable def zo3 (prog:Program) (w:World):PySem.KeyKind prog w Key where
 is:=zo2
 hash:=zvu w
 inj:=λv a b ha hb=>by
  rcases zg4 ha with ⟨i,t,rfl,rfl⟩|⟨x,t,rfl,rfl⟩
  ·rcases zg4 hb with ⟨j,u,rfl,e⟩|⟨y,u,rfl,e⟩
   ·injection e with e1 _;rw [e1]
   ·exact nomatch e
  ·rcases zg4 hb with ⟨j,u,rfl,e⟩|⟨y,u,rfl,e⟩
   ·exact nomatch e
   ·injection e with e1 _;rw [e1]
 byValue:=λk v h=>by
  rcases zg4 h with ⟨i,t,rfl,rfl⟩|⟨x,t,rfl,rfl⟩ <;> rfl
 pyHash:=λhv h=>by
  rcases zg4 hv with ⟨i,t,rfl,rfl⟩|⟨x,t,rfl,rfl⟩
  ·exact wpAny_pyHash_int h
  ·exact wpAny_pyHash_str h
 eqBool:=λhu hv h=>by
  rcases zg4 hu with ⟨i,t,rfl,rfl⟩|⟨x,t,rfl,rfl⟩
  ·rcases zg4 hv with ⟨j,u,rfl,rfl⟩|⟨y,u,rfl,rfl⟩
   ·rw [zvv] at h;exact wpAny_eqBool_int h
   ·rw [zvx] at h;exact SeqAt.EqAt.int_str i t y u _ _ _ _ h
  ·rcases zg4 hv with ⟨j,u,rfl,rfl⟩|⟨y,u,rfl,rfl⟩
   ·rw [zvy] at h;exact SeqAt.EqAt.str_int x t j u _ _ _ _ h
   ·rw [zvw] at h;exact wpAny_eqBool_str h
 «strs»:=λk x t v h=>by
  rcases zg4 h with ⟨i,u,rfl,e⟩|⟨y,u,rfl,e⟩
  ·exact nomatch e
  ·injection e with e1 _
   subst e1
   cases v <;> rfl
inductive V where
 | non|bl (b:Bool)|int (i:Int)|str (x:Str)|byt (b:Array UInt8)|flt (b:UInt64)|ref (a:Addr)|ty (n:String)
 deriving DecidableEq
def RelV:V->Value->Prop
 | .non,u=>u=Value.none
 | .bl b,u=>u=Value.bool b
 | .int i,u=>∃t,u=Value.int i t
 | .str x,u=>∃t,u=Value.str x t
 | .byt b,u=>∃t,u=Value.bytes b t
 | .flt b,u=>∃t,u=Value.float b t
 | .ref a,u=>u=Value.ref a
 | .ty n,u=>u=Value.type n
abbrev Vals:List V->List Value->Prop:=Paired RelV
theorem Vals.length {xs:List V}{us:List Value}(r:Vals xs us):xs.length=us.length:=Paired.length r
theorem Vals.get:∀{xs:List V}{us:List Value}{i:Nat}{x:V},Vals xs us->xs[i]? = some x->∃u,us[i]? = some u/\RelV x u
 | _,_,_,_,.nil,e=>by simp at e
 | _,_,0,_,.cons r _,e=>by simp at e;subst e;exact ⟨_,rfl,r⟩
 | _,_,i+1,x,.cons _ t,e=>by
  obtain ⟨u,h1,h2⟩:=Vals.get (i:=i) (x:=x) t (by simpa using e)
  exact ⟨u,by simpa using h1,h2⟩
theorem Vals.set {x:V}{u:Value}(r:RelV x u):∀{xs:List V}{us:List Value}(i:Nat),Vals xs us->Vals (xs.set i x) (us.set i u)
 | _,_,_,.nil=>.nil
 | _,_,0,.cons _ t=>.cons r t
 | _,_,i+1,.cons q t=>.cons q (Vals.set r i t)
theorem Vals.append:∀{xs ys:List V}{us ws:List Value},Vals xs us->Vals ys ws->Vals (xs++ys) (us++ws)
 | _,_,_,_,.nil,s=>s
 | _,_,_,_,.cons r t,s=>.cons r (Vals.append t s)
theorem Vals.take:∀{xs:List V}{us:List Value}(n:Nat),Vals xs us->Vals (xs.take n) (us.take n)
 | _,_,0,_=>.nil
 | _,_,_+1,.nil=>.nil
 | _,_,n+1,.cons r t=>.cons r (Vals.take n t)
theorem Vals.drop:∀{xs:List V}{us:List Value}(n:Nat),Vals xs us->Vals (xs.drop n) (us.drop n)
 | _,_,0,r=>r
 | _,_,_+1,.nil=>.nil
 | _,_,n+1,.cons _ t=>Vals.drop n t
def zmi:Option V->Option Value->Prop
 | some v,some u=>RelV v u
 | none,none=>True
 | _,_=>False
def KV {κ:Type}:List (κ × V)->List (κ × Value)->Prop:=Paired λ(p:κ × V) (q:κ × Value)=>p.1=q.1/\RelV p.2 q.2
noncomputable def kV:Key->V
 | .inl i=>.int i
 | .inr x=>.str x
inductive HO where
 | lst (xs:List V)
 | tup (xs:List V)
 | dK (kvs:List (Key × V))|dT (kvs:List (List Key × V))
 | set (S:Int->Bool) (n:Nat)
 | ins (C dx:Addr) (fs:List (Str × V))
 | own (x:Addr)
 | xd (fs:List (Str × V))
 | met (f x:Addr)
 | rng (lo hi:Int)
 | frz (o:Obj) (u:HO)
 | tbl (ps:Array Value)
 | ext (φ:Heap->Prop)
abbrev Hp:=Addr->Option HO
noncomputable def upd (H:Hp) (a:Addr) (o:HO):Hp:=λb=>if b=a then some o else H b
theorem zfj {H:Hp}{a:Addr}{o:HO}:upd H a o a=some o:=by unfold upd;rw [if_pos rfl]
theorem za9 {H:Hp}{a b:Addr}{o:HO}(h:b≠a):upd H a o b=H b:=by unfold upd;rw [if_neg h]
theorem zhy {H:Hp}{a b:Addr}{o u:HO}(h:H a=some o) (h':H b=some u) (d:o≠u):a≠b:=by
 intro e;subst e;rw [h] at h';exact d (qoi h')
theorem zdo {H:Hp}{a b:Addr}{o:HO}(h:H a=some o) (h':H b=none):a≠b:=by
 intro e;subst e;rw [h] at h';cases h'
def IsTD (h:Heap) (a:Addr) (items:Array Value):Prop:=∃o,h.get? a=some o/\o.cls=.type "tuple"/\∃n,o.data=.seq items n/\o.dict=none
theorem IsTD.tup {h:Heap}{a:Addr}{items:Array Value}(x:IsTD h a items):IsTup h a items:=by
 obtain ⟨o,e,c,n,d,_⟩:=x
 exact ⟨o,e,c,n,d⟩
theorem IsTD.new (h:Heap) (items:Array Value):IsTD (h.push { cls:=.type "tuple",data:=.seq items }) h.objs.size items:=⟨_,Heap.get?_push_size _ rfl,rfl,_,rfl,rfl⟩
section
variable (P:Program) (w:World)
def ObjOk (H:Hp) (h:Heap) (a:Addr):HO->Prop
 | .lst xs=>xs.length<=sizeLine/\∃(its:List Value) (n:Nat),Vals xs its/\h.get? a=some { cls:=.type "list",data:=.seq its.toArray n }
 | .tup xs=>xs.length<=sizeLine/\∃its:List Value,Vals xs its/\IsTD h a its.toArray
 | .dK kvs=>kvs.length<=sizeLine/\(a == sysModules)=false/\∃vs,KV kvs vs/\h.DictOf (zo3 P w) a vs
 | .dT kvs=>kvs.length<=sizeLine/\(a == sysModules)=false/\∃xs:List (List Key × Addr × Value),
   Paired (λ(p:List Key × V) (q:List Key × Addr × Value)=>p.1=q.1/\H q.2.1=some (.tup (p.1.map kV))/\RelV p.2 q.2.2) kvs xs /\
   ∃o es ep,h.get? a=some o/\o.ExactDict/\o.data=.dict es ep/\es.toList=xs.map (entryOfKey (tupleKind (zo3 P w)))/\(xs.map (·.1)).Nodup
 | .set S n=>h.SetOf (intKind P w) a S n
 | .ins C dx fs=>H dx=some (.own a)/\fs.length<=1000/\dx≠a/\h.get? a=some (PySem.W.instObj C dx) /\
   ∃mA,h.Ns1 dx mA/\(∀f,zmi (fs.lookup f) (mA f))/\PySem.Within mA (fs.map (·.1))
 | .own _=>∃o,h.get? a=some o
 | .xd fs=>∃mA,h.Ns1 a mA/\∀f,zmi (fs.lookup f) (mA f)
 | .rng lo hi=>∃t u v,h.get? a=some { cls:=.type "range",data:=.fields #[.int lo t,.int hi u,.int 1 v] }
 | .frz o u=>h.get? a=some o/\ObjOk H h a u
 | .tbl ps=>h.get? a=some { cls:=.none,data:=.fields ps }
 | .met f x=>h.get? a=some (PySem.W.methodObj (.ref f) (.ref x))
 | .ext φ=>φ h/\(∃o,h.get? a=some o)/\∀h1 h2:Heap,φ h1->(∀o,h1.get? a=some o->h2.get? a=some o)->φ h2
def HOk (H:Hp) (h:Heap):Prop:=∀a o,H a=some o->ObjOk P w H h a o
end
section
variable {P:Program}{w:World}{H H':Hp}{h h':Heap}{a:Addr}{o:HO}
theorem ObjOk.lt (x:ObjOk P w H h a o):a<h.objs.size:=by
 cases o with
 | lst xs=>obtain ⟨_,_,_,_,e⟩:=x;exact Heap.lt_size e
 | tup xs=>obtain ⟨_,_,_,p⟩:=x;exact p.tup.lt
 | dK kvs=>obtain ⟨_,_,_,_,o,_,_,e,_⟩:=x;exact Heap.lt_size e
 | dT kvs=>obtain ⟨_,_,_,_,o,_,_,e,_⟩:=x;exact Heap.lt_size e
 | set S n=>obtain ⟨o,_,_,_,e,_⟩:=x;exact Heap.lt_size e
 | ins C dx fs=>obtain ⟨_,_,_,e,_⟩:=x;exact Heap.lt_size e
 | own y=>obtain ⟨_,e⟩:=x;exact Heap.lt_size e
 | xd fs=>obtain ⟨_,⟨_,_,_,e,_⟩,_⟩:=x;exact Heap.lt_size e
 | rng lo hi=>obtain ⟨_,_,_,e⟩:=x;exact Heap.lt_size e
 | frz ob u=>obtain ⟨e,_⟩:=x;exact Heap.lt_size e
 | tbl ps=>exact Heap.lt_size (show h.get? a=some _ from x)
 | met f y=>exact Heap.lt_size (show h.get? a=some _ from x)
 | ext φ=>obtain ⟨_,⟨_,e⟩,_⟩:=x;exact Heap.lt_size e
theorem Paired.mapP {α β:Type}{F G:α->β->Prop}:∀{l₁:List α}{l₂:List β},Paired F l₁ l₂->(∀a b,F a b->G a b)->Paired G l₁ l₂
 | _,_,.nil,_=>.nil
 | _,_,.cons r t,f=>.cons (f _ _ r) (Paired.mapP t f)
theorem ObjOk.stay (x:ObjOk P w H h a o) (k:∀b u,(b=a\/H b=some (.own a))->h.get? b=some u->h'.get? b=some u)
  (ho:∀b,H b=some (.own a)->H' b=some (.own a)) (ht:∀b xs,H b=some (.tup xs)->H' b=some (.tup xs)):ObjOk P w H' h' a o:=by
 induction o with
 | lst xs=>obtain ⟨z,its,n,r,e⟩:=x;exact ⟨z,its,n,r,k _ _ (.inl rfl) e⟩
 | tup xs=>obtain ⟨z,its,r,ob,e,c⟩:=x;exact ⟨z,its,r,ob,k _ _ (.inl rfl) e,c⟩
 | dK kvs=>obtain ⟨z,y,vs,r,ob,es,ep,e,c⟩:=x;exact ⟨z,y,vs,r,ob,es,ep,k _ _ (.inl rfl) e,c⟩
 | dT kvs =>
  obtain ⟨z,y,xs,r,ob,es,ep,e,c⟩:=x
  exact ⟨z,y,xs,Paired.mapP r λp q z=>⟨z.1,ht _ _ z.2.1,z.2.2⟩,ob,es,ep,k _ _ (.inl rfl) e,c⟩
 | set S n=>obtain ⟨ob,es,ep,t,e,c⟩:=x;exact ⟨ob,es,ep,t,k _ _ (.inl rfl) e,c⟩
 | ins C dx fs =>
  obtain ⟨d,z,ne,e,mA,⟨od,es,ep,e2,c⟩,r⟩:=x
  exact ⟨ho _ d,z,ne,k _ _ (.inl rfl) e,mA,⟨od,es,ep,k _ _ (.inr d) e2,c⟩,r⟩
 | own y=>obtain ⟨ob,e⟩:=x;exact ⟨ob,k _ _ (.inl rfl) e⟩
 | xd fs=>obtain ⟨mA,⟨od,es,ep,e,c⟩,r⟩:=x;exact ⟨mA,⟨od,es,ep,k _ _ (.inl rfl) e,c⟩,r⟩
 | rng lo hi=>obtain ⟨t,u,v,e⟩:=x;exact ⟨t,u,v,k _ _ (.inl rfl) e⟩
 | frz ob u ih=>obtain ⟨e,q⟩:=x;exact ⟨k _ _ (.inl rfl) e,ih q⟩
 | tbl ps =>
  have e:h.get? a=some { cls:=.none,data:=.fields ps }:=x
  show h'.get? a=some { cls:=.none,data:=.fields ps }
  exact k a _ (.inl rfl) e
 | met f y =>
  have e:h.get? a=some (PySem.W.methodObj (.ref f) (.ref y)):=x
  show h'.get? a=some (PySem.W.methodObj (.ref f) (.ref y))
  exact k a _ (.inl rfl) e
 | ext φ=>obtain ⟨p,⟨o,e⟩,st⟩:=x;exact ⟨st _ _ p λo q=>k _ _ (.inl rfl) q,⟨o,k _ _ (.inl rfl) e⟩,st⟩
theorem HOk.lt (x:HOk P w H h) (e:H a=some o):a<h.objs.size:=(x a o e).lt
theorem HOk.fresh (x:HOk P w H h) (e:h.objs.size<=a):H a=none:=by
 cases q:H a with
 | none=>rfl
 | some u=>exact absurd (Nat.lt_of_lt_of_le (x.lt q) e) (Nat.lt_irrefl _)
theorem HOk.kept (x:HOk P w H h) (k:∀b u,h.get? b=some u->h'.get? b=some u):HOk P w H h':=λa o e =>
 (x a o e).stay (λb u _ q=>k b u q) (λ_ q=>q) λ_ _ q=>q
theorem HOk.laid (x:HOk P w H h) (k:∀b u,h.get? b=some u->h'.get? b=some u) (hp:h.objs.size<=a) (new:ObjOk P w (upd H a o) h' a o):HOk P w (upd H a o) h':=λb u e=>by
 have hn:=x.fresh hp
 by_cases hb:b=a
 ·subst hb;rw [zfj] at e;cases e;exact new
 ·rw [za9 hb] at e
  exact (x b u e).stay (λc v _ q=>k c v q) (λc q=>by rw [za9 (zdo q hn)];exact q) λc xs q=>by rw [za9 (zdo q hn)];exact q
end
def Rd (H:Hp) (a:Addr) (u:HO):Prop:=H a=some u\/∃o,H a=some (.frz o u)
theorem Rd.ok {P:Program}{w:World}{H:Hp}{h:Heap}{a:Addr}{u:HO}(r:Rd H a u) (x:HOk P w H h):ObjOk P w H h a u:=by
 rcases r with r|⟨o,r⟩
 ·exact x a u r
 ·obtain ⟨_,q⟩:=x a _ r
  exact q
def Mut:Option HO->Prop
 | some (.lst _)=>True
 | some (.dK _)=>True
 | some (.dT _)=>True
 | some (.set _ _)=>True
 | some (.ins _ _ _)=>True
 | some (.ext _)=>True
 | _=>False
section
variable {P:Program}{w:World}{H:Hp}{h h':Heap}{x e:Addr}{o':HO}
theorem HOk.write (ok:HOk P w H h) (mu:Mut (H x)) (he:e=x\/H e=some (.own x)) (k:∀b u,b≠e->h.get? b=some u->h'.get? b=some u) (heo:∃u,h'.get? e=some u)
  (new:ObjOk P w (upd H x o') h' x o'):HOk P w (upd H x o') h':=λb u q=>by
 have nown:∀c y,H c=some (.own y)->c≠x:=λc y r z=>by subst z;rw [r] at mu;exact mu
 have ntup:∀c xs,H c=some (.tup xs)->c≠x:=λc xs r z=>by subst z;rw [r] at mu;exact mu
 by_cases hb:b=x
 ·subst hb;rw [zfj] at q;cases q;exact new
 ·rw [za9 hb] at q
  by_cases hbe:b=e
  ·have q':H b=some (.own x):=by
    rcases he with z|z
    ·exact absurd (hbe.trans z) hb
    ·rw [hbe];exact z
   rw [q] at q';cases q'
   obtain ⟨v,hv⟩:=heo
   exact ⟨v,by rw [hbe];exact hv⟩
  ·refine (ok b u q).stay (λc v hc r=>k c v ?_ r) (λc r=>by rw [za9 (nown c b r)];exact r) λc xs r=>by rw [za9 (ntup c xs r)];exact r
   rcases hc with rfl|hc
   ·exact hbe
   ·rintro rfl
    rcases he with z|z
    ·exact nown c b hc z
    ·rw [hc] at z;cases z;exact hb rfl
end
structure Un (fs ex:List Addr) (H H':Hp) (h h':Heap):Prop where
 keep:∀b o,h.get? b=some o->H b=none->b ∉ fs->b ∉ ex->h'.get? b=some o
 slot:∀b o,h.get? b=some o->H b=none->b∈fs->b ∉ ex->∃sl,h'.get? b=some { o with slots:=sl }
 free:∀b o,h.get? b=some o->H b=none->b ∉ ex->H' b=none
 there:∀b o,h.get? b=some o->b ∉ ex->∃o',h'.get? b=some o'
 tups:∀b xs,H b=some (.tup xs)->H' b=some (.tup xs)
 frzs:∀b o u,H b=some (.frz o u)->H' b=some (.frz o u)
 tbls:∀b ps,H b=some (.tbl ps)->∃more,H' b=some (.tbl (ps++more))
section
variable {fs fs' ex ex':List Addr}{H H1 H2:Hp}{h h1 h2 h':Heap}{a x e:Addr}{o:HO}
theorem Un.any (u:Un fs ex H H1 h h1) {b:Addr}{ob:Obj}(q:h.get? b=some ob) (n:H b=none) (hx:b ∉ ex):∃sl,h1.get? b=some { ob with slots:=sl }:=by
 by_cases hb:b∈fs
 ·exact u.slot b ob q n hb hx
 ·exact ⟨ob.slots,u.keep b ob q n hb hx⟩
theorem Un.kept (k:∀b u,h.get? b=some u->h'.get? b=some u):Un fs ex H H h h' :=
 ⟨λb ob q _ _ _=>k b ob q,λb ob q _ _ _=>⟨ob.slots,k b ob q⟩,λ_ _ _ n _=>n,λb ob q _=>⟨ob,k b ob q⟩,λ_ _ q=>q,λ_ _ _ q=>q,λ_ ps q=>⟨#[],by rw [q];simp⟩⟩
theorem Un.refl:Un fs ex H H h h:=Un.kept λ_ _ q=>q
theorem Un.laid (k:∀b u,h.get? b=some u->h'.get? b=some u) (hp:h.objs.size<=a) (hn:H a=none):Un fs ex H (upd H a o) h h' where
 keep:=λb u q _ _ _=>k b u q
 slot:=λb u q _ _ _=>⟨u.slots,k b u q⟩
 free:=λb u q n _=>by rw [za9 (Nat.ne_of_lt (Nat.lt_of_lt_of_le (Heap.lt_size q) hp))];exact n
 there:=λb u q _=>⟨u,k b u q⟩
 tups:=λb xs q=>by rw [za9 (zdo q hn)];exact q
 frzs:=λb u xs q=>by rw [za9 (zdo q hn)];exact q
 tbls:=λb ps q=>⟨#[],by rw [za9 (zdo q hn),q];simp⟩
theorem Un.write (mu:Mut (H x)) (he:e=x\/H e=some (.own x)) (k:∀b u,b≠e->h.get? b=some u->h'.get? b=some u) (heo:∃u,h'.get? e=some u):Un fs ex H (upd H x o) h h':=by
 have hx:∀b,H b=none->b≠x:=λb n z=>by subst z;rw [n] at mu;exact mu
 have hb:∀b,H b=none->b≠e:=λb n z=>by
  subst z
  rcases he with r|r
  ·exact hx b n r
  ·rw [n] at r;cases r
 have hm:∀b u,H b=some u->¬Mut (some u)->b≠x:=λb u q nm z=>by subst z;rw [q] at mu;exact nm mu
 refine ⟨λb u q n _ _=>k b u (hb b n) q,λb u q n _ _=>⟨u.slots,k b u (hb b n) q⟩,λb u q n _=>by rw [za9 (hx b n)];exact n,λb u q _=>?_,
  λb xs q=>by rw [za9 (hm b _ q λz=>z)];exact q,λb u xs q=>by rw [za9 (hm b _ q λz=>z)];exact q,λb ps q=>⟨#[],by rw [za9 (hm b _ q λz=>z),q];simp⟩⟩
 by_cases hbe:b=e
 ·subst hbe;exact heo
 ·exact ⟨u,k b u hbe q⟩
end
noncomputable def trk (h:Heap) (H:Hp):List Addr:=(List.range h.objs.size).filter λa=>(H a).isSome
noncomputable def zg5 (h:Heap) (H:Hp):Heap:=PySem.W.hideAll h (trk h H)
theorem zvz (h:Heap) (H:Hp):(zg5 h H).objs.size=h.objs.size:=PySem.W.hideAll_size _ _
theorem zv0 {h:Heap}{H:Hp}{b:Addr}{o:Obj}(e:h.get? b=some o) (n:H b=none):(zg5 h H).get? b=some o :=
 PySem.W.hideAll_get _ e λhm=>by
  have q:(H b).isSome=true:=(List.mem_filter.mp hm).2
  rw [n] at q;simp at q
theorem zv1 {h:Heap}{H:Hp}{b:Addr}{o:Obj}(e:(zg5 h H).get? b=some o):h.get? b=some o/\H b=none:=by
 have e':h.get? b=some o:=PySem.W.of_hideAll (trk h H) e
 refine ⟨e',?_⟩
 cases q:H b with
 | none=>rfl
 | some x =>
  have hm:b∈trk h H:=List.mem_filter.mpr ⟨List.mem_range.mpr (Heap.lt_size e'),by simp [q]⟩
  have z:(zg5 h H).get? b=none:=PySem.W.hideAll_none (trk h H) hm
  rw [z] at e;cases e
noncomputable def zv2 (g h:Heap) (L:Addr):List (Addr × Obj):=(List.range h.objs.size).filterMap λa=>if a=L\/(g.get? a).isSome=true then none else (h.get? a).map λo=>(a,o)
noncomputable def rest (g h:Heap) (L d:Addr):List (Addr × Obj):=(zv2 g h L).filter λp=>decide (p.1≠d)
structure Mod (K:QFg) (mg:Str->Option Value) (base:Heap):Prop where
 kin:K.In base
 glob:base.Ns mainGlobals mg
 blt:∃mb,base.Ns builtinsNs mb/\∀x:Str,x≠"__name__"->mb x=bootBuiltins x
 nolimit:base.NoLimit
structure Cx where
 prog:Program
 w:World
 K:QFg
 mg:Str->Option Value
 base:Heap
 A:Around
 N:List Str
 s₀:Shared
 H₀:Hp
 env:Env
 outer:List Env
 stack:List Env
 ex:List Addr
 fn:Str->Bool
 calm:Bool
 pn:List (Addr × Obj)
 xe:Value->Shared->Prop
noncomputable def frs (l:List Env):List Addr:=l.filterMap (·.frame)
noncomputable abbrev Cx.fs (X:Cx):List Addr:=frs X.outer
def Vis (sc:Scope) (x:Str):Prop:=sc.names.lookup x=some .local\/sc.names.lookup x=some .cell\/sc.names.lookup x=some .free
def Loc (sc:Scope) (x:Str):Prop:=sc.names.lookup x=some .local\/sc.names.lookup x=some .cell
def zv3 (env:Env) (h:Heap) (m:Str->Option Value) (x:Str) (u:Value):Prop :=
 (env.kindOf x=some .local/\m x=some u)\/((env.kindOf x=some .cell\/env.kindOf x=some .free)/\∃c,env.cells.lookup x=some c/\h.IsCell c (some u))
structure Cx.Ok (X:Cx):Prop where
 mod:Mod X.K X.mg X.base
 kind:X.env.scope.kind=.function
 glob:X.env.globals=mainGlobals
 blt:X.env.builtins=builtinsNs
 above:X.s₀.heap.objs.size<=X.env.locals
 inj:∀x y c,X.env.cells.lookup x=some c->X.env.cells.lookup y=some c->x=y
 has:∀x,(X.env.kindOf x=some .cell\/X.env.kindOf x=some .free)->∃c,X.env.cells.lookup x=some c
 cab:∀x c,X.fn x=true->X.env.cells.lookup x=some c->X.s₀.heap.objs.size<=c
 hd:X.calm=true->X.A.handled=none
 frames:X.A.frames=some X.stack
 stk:X.stack=X.outer\/(X.stack=X.env :: X.outer/\X.env.frame=some X.env.locals)
 exf:∀b∈X.ex,b≠X.env.locals/\∀x c,X.env.cells.lookup x=some c->c≠b
 bs:∀b o,X.base.get? b=some o->X.s₀.heap.get? b=some o/\X.H₀ b=none
 bsz:X.base.objs.size<=X.s₀.heap.objs.size
 noex:∀b o,X.base.get? b=some o->b ∉ X.ex
 exfs:∀b∈X.ex,b ∉ X.fs
 funs:X.s₀.heap.FunFrames X.base X.outer
 frf:∀b∈X.fs,X.H₀ b=none
structure Inv (X:Cx) (pins:List (Addr × Obj)) (σ:List (Option V)) (H:Hp) (s:Shared):Prop where
 ok:X.Ok
 os:s.os=X.s₀.os
 bare:AllBare s.gens
 base:Un X.fs X.ex X.H₀ H X.s₀.heap s.heap
 loc:∃m,s.heap.Ns X.env.locals m/\∀(i:Nat) (x:Str) (v:V),X.N[i]? = some x->σ[i]? = some (some v)->Vis X.env.scope x->∃u,RelV v u/\zv3 X.env s.heap m x u
 cell:∀x c,X.env.cells.lookup x=some c->∃v,s.heap.IsCell c v
 free:H X.env.locals=none
 freeC:∀x c,X.env.cells.lookup x=some c->H c=none
 pin:∀p∈X.pn++pins,s.heap.get? p.1=some p.2/\H p.1=none/\p.1≠X.env.locals/\p.1 ∉ X.fs/\∀v,p.2.data≠.cell v
 hok:HOk X.prog X.w H s.heap
 len:σ.length=X.N.length
section
variable {X:Cx}{pins:List (Addr × Obj)}{σ:List (Option V)}{H H':Hp}{s:Shared}{h':Heap}
theorem Cx.Ok.nofr (ok:X.Ok) {b:Addr}{o:Obj}(e:X.base.get? b=some o):b ∉ X.fs:=λhb=>by
 have:=(ok.funs.mem hb).1
 rw [e] at this;cases this
theorem Inv.bs (I:Inv X pins σ H s):∀b o,X.base.get? b=some o->s.heap.get? b=some o/\H b=none:=λb o e =>
 ⟨I.base.keep b o (I.ok.bs b o e).1 (I.ok.bs b o e).2 (I.ok.nofr e) (I.ok.noex b o e),I.base.free b o (I.ok.bs b o e).1 (I.ok.bs b o e).2 (I.ok.noex b o e)⟩
theorem Inv.bk (I:Inv X pins σ H s):∀b o,X.base.get? b=some o->s.heap.get? b=some o:=λb o e=>(I.bs b o e).1
theorem Inv.mod (I:Inv X pins σ H s):Mod X.K X.mg X.base:=I.ok.mod
theorem Inv.kIn (I:Inv X pins σ H s):X.K.In s.heap:=I.ok.mod.kin.keeps I.bk
theorem Inv.lt (I:Inv X pins σ H s):X.env.locals<s.heap.objs.size:=let ⟨_,hn,_⟩:=I.loc;hn.lt
theorem Inv.sz (I:Inv X pins σ H s):X.s₀.heap.objs.size<=s.heap.objs.size:=Nat.le_trans I.ok.above (Nat.le_of_lt I.lt)
theorem Inv.nofs (I:Inv X pins σ H s) {a:Addr}(h:s.heap.objs.size<=a):a ∉ X.fs:=λhb=>by
 obtain ⟨_,o,ho,_⟩:=I.ok.funs.mem hb
 exact absurd (Nat.lt_of_lt_of_le (Heap.lt_size ho) (Nat.le_trans I.sz h)) (Nat.lt_irrefl _)
theorem Inv.cne (I:Inv X pins σ H s):∀x c,X.env.cells.lookup x=some c->c≠X.env.locals:=λx c e z=>by
 obtain ⟨v,o,ho,hd⟩:=I.cell x c e
 obtain ⟨m,⟨o',es,ep,ho',hd',_⟩,_⟩:=I.loc
 rw [z,ho'] at ho;cases ho;rw [hd'] at hd;cases hd
theorem Inv.funs (I:Inv X pins σ H s):s.heap.FunFrames X.base X.outer:=by
 have all:∀(l:List Env),(∀b∈frs l,b∈X.fs)->X.s₀.heap.FunFrames X.base l->s.heap.FunFrames X.base l:=by
  intro l
  induction l with
  | nil=>intro _ _;trivial
  | cons env r ih =>
   intro hs hl
   obtain ⟨hk,⟨L,o,hf,hn,ho,hd⟩,hr⟩:=hl
   have hL:L∈X.fs:=hs L (by unfold frs;rw [List.filterMap_cons,hf];exact List.mem_cons_self)
   obtain ⟨sl,e⟩:=I.base.slot L o ho (I.ok.frf L hL) hL λz=>I.ok.exfs L z hL
   exact ⟨hk,⟨L,_,hf,hn,e,hd⟩,ih (λb hb=>hs b (by unfold frs;rw [List.filterMap_cons,hf];exact List.mem_cons_of_mem _ hb)) hr⟩
 exact all X.outer (λ_ hb=>hb) I.ok.funs
theorem Inv.stack (I:Inv X pins σ H s):s.heap.FunFrames X.base X.stack:=by
 rcases I.ok.stk with e|⟨e,hf⟩
 ·rw [e];exact I.funs
 ·rw [e]
  obtain ⟨m,hn,_⟩:=I.loc
  refine .cons (by rw [I.ok.kind];decide) hf hn ?_ I.funs
  exact Heap.get?_none_of_le (Nat.le_trans I.ok.bsz I.ok.above)
theorem Inv.stkSub (I:Inv X pins σ H s):∀b∈frs X.stack,b∈X.env.locals :: X.fs:=λb hb=>by
 rcases I.ok.stk with e|⟨e,hf⟩
 ·rw [e] at hb;exact List.mem_cons_of_mem _ hb
 ·rw [e] at hb
  unfold frs at hb
  rw [List.filterMap_cons,hf] at hb
  exact hb
theorem Inv.stkFree (I:Inv X pins σ H s):∀b∈frs X.stack,H b=none:=λb hb=>by
 rcases List.mem_cons.mp (I.stkSub b hb) with e|hb
 ·rw [e];exact I.free
 ·obtain ⟨_,o,ho,_⟩:=I.ok.funs.mem hb
  exact I.base.free b o ho (I.ok.frf b hb) λz=>I.ok.exfs b z hb
theorem Inv.step {g':Array GenState}{t':Nat}{d':Drawn}{ch:List Addr}(I:Inv X pins σ H s)
  (hch:∀b∈ch,(b∈X.ex\/X.s₀.heap.objs.size<=b)/\b≠X.env.locals/\(∀x c,X.env.cells.lookup x=some c->c≠b)/\∀p∈X.pn++pins,p.1≠b)
  (keep:∀b o,b≠X.env.locals->b ∉ X.fs->b ∉ ch->s.heap.get? b=some o->H b=none->h'.get? b=some o)
  (slot:∀b o,b≠X.env.locals->b∈X.fs->b ∉ ch->s.heap.get? b=some o->H b=none->∃sl,h'.get? b=some { o with slots:=sl }) (free:∀b o,b ∉ ch->s.heap.get? b=some o->H b=none->H' b=none)
  (there:∀b o,b ∉ ch->s.heap.get? b=some o->∃o',h'.get? b=some o')
  (tups:∀b xs,H b=some (.tup xs)->H' b=some (.tup xs)) (frzs:∀b o u,H b=some (.frz o u)->H' b=some (.frz o u)) (tbls:∀b ps,H b=some (.tbl ps)->∃more,H' b=some (.tbl (ps++more)))
  (ns:∀m,s.heap.Ns X.env.locals m->h'.Ns X.env.locals m) (hok:HOk X.prog X.w H' h') (hg:AllBare g') :
  Inv X pins σ H' { s with heap:=h',gens:=g',drawn:=d',toks:=t' }:=by
 have neL:∀b o,X.s₀.heap.get? b=some o->b≠X.env.locals:=λb o e=>Nat.ne_of_lt (Nat.lt_of_lt_of_le (Heap.lt_size e) I.ok.above)
 have neC:∀b o,X.s₀.heap.get? b=some o->b ∉ X.ex->b ∉ ch:=λb o e hx hb=>by
  rcases (hch b hb).1 with z|z
  ·exact hx z
  ·exact absurd (Nat.lt_of_lt_of_le (Heap.lt_size e) z) (Nat.lt_irrefl _)
 have cellK:∀x c,X.env.cells.lookup x=some c->∀v,s.heap.IsCell c v->h'.IsCell c v:=λx c e v hx1_=>by
  obtain ⟨o,ho,hd⟩:=hx1_
  have nch:c ∉ ch:=λz=>(hch c z).2.2.1 x c e rfl
  by_cases hc:c∈X.fs
  ·obtain ⟨sl,q⟩:=slot c o (I.cne x c e) hc nch ho (I.freeC x c e)
   exact ⟨_,q,hd⟩
  ·exact ⟨o,keep c o (I.cne x c e) hc nch ho (I.freeC x c e),hd⟩
 refine ⟨I.ok,I.os,hg,⟨λb o e n hb hx=>?_,λb o e n hb hx=>?_,λb o e n hx=>?_,λb o e hx=>?_,λb xs e=>tups b xs (I.base.tups b xs e),λb o xs e=>frzs b o xs (I.base.frzs b o xs e),λb ps e=>?_⟩,?_,λx c e=>?_,?_,λx c e=>?_,λp hp=>?_,hok,I.len⟩
 ·exact keep b o (neL b o e) hb (neC b o e hx) (I.base.keep b o e n hb hx) (I.base.free b o e n hx)
 ·obtain ⟨sl,e1⟩:=I.base.slot b o e n hb hx
  obtain ⟨sl',e2⟩:=slot b _ (neL b o e) hb (neC b o e hx) e1 (I.base.free b o e n hx)
  exact ⟨sl',e2⟩
 ·obtain ⟨o',e1⟩:=I.base.there b o e hx
  exact free b o' (neC b o e hx) e1 (I.base.free b o e n hx)
 ·obtain ⟨o',e1⟩:=I.base.there b o e hx
  exact there b o' (neC b o e hx) e1
 ·obtain ⟨m1,e1⟩:=I.base.tbls b ps e
  obtain ⟨m2,e2⟩:=tbls b _ e1
  exact ⟨m1++m2,by rw [e2,Array.append_assoc]⟩
 ·obtain ⟨m,hn,hl⟩:=I.loc
  refine ⟨m,ns m hn,λi x v e1 e2 e3=>?_⟩
  obtain ⟨u,r,l⟩:=hl i x v e1 e2 e3
  refine ⟨u,r,?_⟩
  rcases l with l|⟨k,c,e,z⟩
  ·exact .inl l
  ·exact .inr ⟨k,c,e,cellK x c e _ z⟩
 ·obtain ⟨v,z⟩:=I.cell x c e
  exact ⟨v,cellK x c e v z⟩
 ·obtain ⟨m,⟨o,_,_,ho,_⟩,_⟩:=I.loc
  exact free _ o (λz=>(hch _ z).2.1 rfl) ho I.free
 ·obtain ⟨v,o,ho,hd⟩:=I.cell x c e
  exact free c o (λz=>(hch c z).2.2.1 x c e rfl) ho (I.freeC x c e)
 ·obtain ⟨e,n,ne,nf,d⟩:=I.pin p hp
  have nch:p.1 ∉ ch:=λz=>(hch p.1 z).2.2.2 p hp rfl
  exact ⟨keep p.1 p.2 ne nf nch e n,free p.1 p.2 nch e n,ne,nf,d⟩
theorem Inv.un {t':Nat}(I:Inv X pins σ H s) (u:Un X.fs [] H H' s.heap h') (hok:HOk X.prog X.w H' h'):Inv X pins σ H' { s with heap:=h',toks:=t' }:=by
 obtain ⟨m,⟨o,es,ep,ho,r⟩,_⟩:=id I.loc
 obtain ⟨sl,hL⟩:=u.any ho I.free (by simp)
 exact I.step (g':=s.gens) (d':=s.drawn) (ch:=[]) (λ_ z=>nomatch z) (λb o _ hb _ e n=>u.keep b o e n hb (by simp)) (λb o _ hb _ e n=>u.slot b o e n hb (by simp)) (λb o _ e n=>u.free b o e n (by simp)) (λb o _ e=>u.there b o e (by simp)) u.tups u.frzs u.tbls (λm' hm=>by
  obtain ⟨o',es',ep',ho',r'⟩:=hm
  rw [ho] at ho';cases ho'
  exact ⟨_,es',ep',hL,r'⟩) hok I.bare
theorem Inv.call {g':Array GenState}{t':Nat}{d':Drawn}{ch:List Addr}(I:Inv X pins σ H s) (u:Un (frs X.stack) ch H H' s.heap h') (hok:HOk X.prog X.w H' h') (hg:AllBare g')
  (hch:∀b∈ch,(b∈X.ex\/X.s₀.heap.objs.size<=b)/\b≠X.env.locals/\(∀x c,X.env.cells.lookup x=some c->c≠b)/\∀p∈X.pn++pins,p.1≠b) :
  Inv X pins σ H' { s with heap:=h',gens:=g',drawn:=d',toks:=t' }:=by
 obtain ⟨m,⟨o,es,ep,ho,r⟩,_⟩:=id I.loc
 obtain ⟨sl,hL⟩:=u.any ho I.free λz=>(hch _ z).2.1 rfl
 exact I.step (ch:=ch) hch (λb o hL hb hc e n=>u.keep b o e n (λz=>(List.mem_cons.mp (I.stkSub b z)).elim hL hb) hc) (λb o _ _ hc e n=>u.any e n hc) (λb o hc e n=>u.free b o e n hc) (λb o hc e=>u.there b o e hc) u.tups u.frzs u.tbls (λm' hm=>by
  obtain ⟨o',es',ep',ho',r'⟩:=hm
  rw [ho] at ho';cases ho'
  exact ⟨_,es',ep',hL,r'⟩) hok hg
theorem Inv.turned {t':Nat}{it:Addr}(I:Inv X pins σ H s) (k:∀b o,b≠it->s.heap.get? b=some o->h'.get? b=some o) (hn:H it=none) (hL:it≠X.env.locals)
  (h1:it∈X.ex\/X.s₀.heap.objs.size<=it) (h2:∀x c,X.env.cells.lookup x=some c->c≠it) (h3:∀p∈X.pn++pins,p.1≠it):Inv X pins σ H { s with heap:=h',toks:=t' }:=by
 have nit:∀b u,H b=some u->b≠it:=λb u e z=>by rw [z,hn] at e;cases e
 refine I.step (g':=s.gens) (d':=s.drawn) (ch:=[it]) (λb hb=>?_) (λb o _ _ hc e _=>k b o (λz=>hc (by simp [z])) e) (λb o _ _ hc e _=>⟨o.slots,k b o (λz=>hc (by simp [z])) e⟩) (λ_ _ _ _ n=>n)
  (λb o hc e=>⟨o,k b o (λz=>hc (by simp [z])) e⟩) (λ_ _ e=>e) (λ_ _ _ e=>e) (λb ps e=>⟨#[],by rw [e];simp⟩) (λm hm=>?_) (λb u e=>?_) I.bare
 ·have e:b=it:=by simpa using hb
  subst e
  exact ⟨h1,hL,h2,h3⟩
 ·obtain ⟨o,es,ep,ho,r⟩:=hm
  exact ⟨o,es,ep,k _ o (Ne.symm hL) ho,r⟩
 ·refine (I.hok b u e).stay (λc v hc q=>k c v ?_ q) (λ_ q=>q) λ_ _ q=>q
  rcases hc with z|z
  ·rw [z];exact nit b u e
  ·exact nit c _ z
theorem Inv.tok (I:Inv X pins σ H s) (t:Nat):Inv X pins σ H { s with toks:=t }:=I.un (h':=s.heap) (t':=t) Un.refl I.hok
theorem Inv.kept {t':Nat}(I:Inv X pins σ H s) (k:∀b u,s.heap.get? b=some u->h'.get? b=some u):Inv X pins σ H { s with heap:=h',toks:=t' }:=I.un (Un.kept k) (I.hok.kept k)
theorem Inv.laid {a:Addr}{o:HO}{t':Nat}(I:Inv X pins σ H s) (k:∀b u,s.heap.get? b=some u->h'.get? b=some u) (hp:s.heap.objs.size<=a) (new:ObjOk X.prog X.w (upd H a o) h' a o) :
  Inv X pins σ (upd H a o) { s with heap:=h',toks:=t' }:=I.un (Un.laid k hp (I.hok.fresh hp)) (I.hok.laid k hp new)
theorem Inv.write {x e:Addr}{o:HO}{t':Nat}(I:Inv X pins σ H s) (mu:Mut (H x)) (he:e=x\/H e=some (.own x)) (k:∀b u,b≠e->s.heap.get? b=some u->h'.get? b=some u) (heo:∃u,h'.get? e=some u)
  (new:ObjOk X.prog X.w (upd H x o) h' x o):Inv X pins σ (upd H x o) { s with heap:=h',toks:=t' }:=I.un (Un.write mu he k heo) (I.hok.write mu he k heo new)
theorem Inv.pins_of {pins':List (Addr × Obj)}(I:Inv X pins σ H s) (h:∀p∈pins',s.heap.get? p.1=some p.2/\H p.1=none/\p.1≠X.env.locals/\p.1 ∉ X.fs/\∀v,p.2.data≠.cell v):Inv X pins' σ H s :=
 ⟨I.ok,I.os,I.bare,I.base,I.loc,I.cell,I.free,I.freeC,λp hp=>(List.mem_append.mp hp).elim (λz=>I.pin p (List.mem_append_left _ z)) (h p),I.hok,I.len⟩
theorem zmj {N:List Str}(hN:N.Nodup) {i j:Nat}{x:Str}(a:N[i]? = some x) (b:N[j]? = some x):i=j:=by
 obtain ⟨h1,e1⟩:=qme a
 obtain ⟨h2,e2⟩:=qme b
 exact (List.getElem_inj hN).mp (e1.trans e2.symm)
theorem zmk {M:Model}{A:Around}{E:Value->Shared->Prop}{i:Nat}{x:Str}{v:V}{u:Value}{Q:Unit->Shared->Prop}(I:Inv X pins σ H s) (hN:X.N.Nodup) (hi:X.N[i]? = some x) (hx:Loc X.env.scope x) (r:RelV v u)
  (h:∀s',Inv X pins (σ.set i (some v)) H s'->(∃a,Heap.SameBut a s.heap s'.heap/\(a=X.env.locals\/X.env.cells.lookup x=some a))->Q () s') (hf:X.fn x=true\/X.env.scope.names.lookup x=some .local:=by first|exact .inl rfl|exact .inr rfl|assumption):wpAny M A (storeName X.env x u) Q E s:=by
 obtain ⟨m,hn,hl⟩:=id I.loc
 have hcls:(X.env.scope.kind == .class || (X.env.scope.kind == .module && X.env.locals != X.env.globals))=false:=by rw [I.ok.kind];rfl
 have hiσ:i<σ.length:=by rw [I.len];exact (qme hi).1
 have cne:=I.cne
 have tracked:∀{a:Addr} {h':Heap},(∃o,s.heap.get? a=some o/\H a=none)->Heap.SameBut a s.heap h'->HOk X.prog X.w H h':=λ{a h'} ha hs b ob e=>by
  obtain ⟨_,_,hfree⟩:=ha
  refine (I.hok b ob e).stay (λc w' hc q=>(hs.2 c ?_).trans q) (λ_ q=>q) λ_ _ q=>q
  rintro rfl
  rcases hc with rfl|hc
  ·rw [hfree] at e;cases e
  ·rw [hfree] at hc;cases hc
 rcases hx with hk|hk
 ·refine wpAny_storeName_local hk hn (λh' hn' hs=>?_) hcls
  obtain ⟨oL,_,_,hoL,_⟩:=id hn
  refine h _ ⟨I.ok,I.os,I.bare,⟨λb o e n hb hx=>?_,λb o e n hb hx=>?_,I.base.free,λb o e hx=>?_,I.base.tups,I.base.frzs,I.base.tbls⟩,⟨_,hn',λj y v' e1 e2 e3=>?_⟩,λy c e=>?_,I.free,I.freeC,λp hp=>?_,tracked ⟨oL,hoL,I.free⟩ hs,by simpa using I.len⟩ ⟨_,hs,.inl rfl⟩
  ·exact (hs.2 b (Nat.ne_of_lt (Nat.lt_of_lt_of_le (Heap.lt_size e) I.ok.above))).trans (I.base.keep b o e n hb hx)
  ·obtain ⟨sl,e1⟩:=I.base.slot b o e n hb hx
   exact ⟨sl,(hs.2 b (Nat.ne_of_lt (Nat.lt_of_lt_of_le (Heap.lt_size e) I.ok.above))).trans e1⟩
  ·obtain ⟨o',e1⟩:=I.base.there b o e hx
   exact ⟨o',(hs.2 b (Nat.ne_of_lt (Nat.lt_of_lt_of_le (Heap.lt_size e) I.ok.above))).trans e1⟩
  ·by_cases hj:j=i
   ·subst hj
    rw [hi] at e1;cases e1
    rw [List.getElem?_set_self hiσ] at e2
    cases e2
    exact ⟨u,r,.inl ⟨hk,by simp⟩⟩
   ·rw [List.getElem?_set_ne (Ne.symm hj)] at e2
    obtain ⟨u',r',q⟩:=hl j y v' e1 e2 e3
    refine ⟨u',r',?_⟩
    rcases q with ⟨k,e⟩|⟨k,c,e,z⟩
    ·refine .inl ⟨k,?_⟩
     have:y≠x:=λe=>hj (zmj hN e1 (e ▸ hi))
     simp [this,e]
    ·exact .inr ⟨k,c,e,z.sameBut hs (cne y c e)⟩
  ·obtain ⟨w',z⟩:=I.cell y c e
   exact ⟨w',z.sameBut hs (cne y c e)⟩
  ·obtain ⟨e,n,ne,nf,d⟩:=I.pin p hp
   exact ⟨(hs.2 p.1 ne).trans e,n,ne,nf,d⟩
 ·have hfn:X.fn x=true:=by
   rcases hf with z|z
   ·exact z
   ·rw [z] at hk;cases hk
  obtain ⟨c,hc⟩:=I.ok.has x (.inl hk)
  obtain ⟨w',z⟩:=I.cell x c hc
  refine wpAny_storeName_cell I.ok.kind hk hc z (λh' hc' hs=>?_)
  obtain ⟨oc,hoc,hocd⟩:=id z
  refine h { s with heap:=h' } ⟨I.ok,I.os,I.bare,⟨λb o e n hb hx=>?_,λb o e n hb hx=>?_,I.base.free,λb o e hx=>?_,I.base.tups,I.base.frzs,I.base.tbls⟩,⟨m,hn.sameBut hs (Ne.symm (cne x c hc)),λj y v' e1 e2 e3=>?_⟩,λy c' e=>?_,I.free,I.freeC,λp hp=>?_,tracked ⟨oc,hoc,I.freeC x c hc⟩ hs,by simpa using I.len⟩ ⟨c,hs,.inr hc⟩
  ·exact (hs.2 b (Nat.ne_of_lt (Nat.lt_of_lt_of_le (Heap.lt_size e) (I.ok.cab x c hfn hc)))).trans (I.base.keep b o e n hb hx)
  ·obtain ⟨sl,e1⟩:=I.base.slot b o e n hb hx
   exact ⟨sl,(hs.2 b (Nat.ne_of_lt (Nat.lt_of_lt_of_le (Heap.lt_size e) (I.ok.cab x c hfn hc)))).trans e1⟩
  ·obtain ⟨o',e1⟩:=I.base.there b o e hx
   exact ⟨o',(hs.2 b (Nat.ne_of_lt (Nat.lt_of_lt_of_le (Heap.lt_size e) (I.ok.cab x c hfn hc)))).trans e1⟩
  ·by_cases hj:j=i
   ·subst hj
    rw [hi] at e1;cases e1
    rw [List.getElem?_set_self hiσ] at e2
    cases e2
    exact ⟨u,r,.inr ⟨.inl hk,c,hc,hc'⟩⟩
   ·rw [List.getElem?_set_ne (Ne.symm hj)] at e2
    obtain ⟨u',r',q⟩:=hl j y v' e1 e2 e3
    refine ⟨u',r',?_⟩
    rcases q with q|⟨k,c',e,z'⟩
    ·exact .inl q
    ·refine .inr ⟨k,c',e,z'.sameBut hs ?_⟩
     rintro rfl
     exact hj (zmj hN e1 (I.ok.inj _ _ _ e hc ▸ hi))
  ·by_cases hcc:c' = c
   ·subst hcc;exact ⟨_,hc'⟩
   ·obtain ⟨w2,z2⟩:=I.cell y c' e
    exact ⟨w2,z2.sameBut hs hcc⟩
  ·obtain ⟨e,n,ne,nf,d⟩:=I.pin p hp
   refine ⟨(hs.2 p.1 ?_).trans e,n,ne,nf,d⟩
   intro q
   rw [q,hoc] at e
   have q':oc=p.2:=qoi e
   exact d w' (by rw [<-q'];exact hocd)
theorem zml {M:Model}{A:Around}{E:Value->Shared->Prop}{i:Nat}{x:Str}{v:V}{u:Value}{Q:Unit->Shared->Prop}(I:Inv X pins σ H s) (hN:X.N.Nodup) (hi:X.N[i]? = some x) (hx:Loc X.env.scope x) (r:RelV v u)
  (h:∀s',Inv X pins (σ.set i (some v)) H s'->Q () s') (hf:X.fn x=true\/X.env.scope.names.lookup x=some .local:=by first|exact .inl rfl|exact .inr rfl|assumption):wpAny M A (storeName X.env x u) Q E s :=
 zmk I hN hi hx r (λs' I' _=>h s' I') hf
theorem Inv.call' {s':Shared}{ch:List Addr}(I:Inv X pins σ H s) (ho:s'.os=s.os) (u:Un (frs X.stack) ch H H' s.heap s'.heap) (hok:HOk X.prog X.w H' s'.heap) (hg:AllBare s'.gens)
  (hch:∀b∈ch,(b∈X.ex\/X.s₀.heap.objs.size<=b)/\b≠X.env.locals/\(∀x c,X.env.cells.lookup x=some c->c≠b)/\∀p∈X.pn++pins,p.1≠b):Inv X pins σ H' s':=by
 obtain ⟨h',g',d',t',o'⟩:=s'
 have e:o' = s.os:=ho
 subst e
 exact I.call (g':=g') (t':=t') (d':=d') u hok hg hch
end
abbrev XK:=Value->Option Addr->Hp->Prop
abbrev St:=List (Option V)
abbrev VK:=V->Hp->Prop
abbrev TE:=St->Hp->VK->Prop
abbrev TT:=St->Hp->(Bool->Hp->Prop)->Prop
abbrev TA:=St->Hp->(List V->Hp->Prop)->Prop
structure Ends where
 nx:St->Hp->Prop
 rt:VK
 bk:St->Hp->Prop:=λ_ _=>False
 ct:St->Hp->Prop:=λ_ _=>False
abbrev TS:=Ends->St->Hp->Prop
def EP (X:Cx) (pins:List (Addr × Obj)) (σ:St) (Q:VK) (u:Value) (s':Shared):Prop:=∃v H',Inv X pins σ H' s'/\RelV v u/\Q v H'
def TP (X:Cx) (pins:List (Addr × Obj)) (σ:St) (Q:Bool->Hp->Prop) (b:Bool) (s':Shared):Prop:=∃H',Inv X pins σ H' s'/\Q b H'
def AP (X:Cx) (pins:List (Addr × Obj)) (σ:St) (Q:List V->Hp->Prop) (us:List Value) (s':Shared):Prop:=∃vs H',Inv X pins σ H' s'/\Vals vs us/\Q vs H'
def SP (X:Cx) (pins:List (Addr × Obj)) (D:Ends) (f:Flow) (s':Shared):Prop :=
 match f with
 | .next=>∃σ' H',Inv X pins σ' H' s'/\D.nx σ' H'
 | .brk=>∃σ' H',Inv X pins σ' H' s'/\D.bk σ' H'
 | .cont=>∃σ' H',Inv X pins σ' H' s'/\D.ct σ' H'
 | .ret u=>∃v σ' H',Inv X pins σ' H' s'/\RelV v u/\D.rt v H'
def PE (X:Cx) (e:Expr) (t:TE):Prop :=
 ∀(pins:List (Addr × Obj)) (s:Shared) (σ:St) (H:Hp) (Q:VK),Inv X pins σ H s->t σ H Q->wpAny (model X.prog X.w) X.A (eval e X.env) (EP X pins σ Q) X.xe s
def PT (X:Cx) (e:Expr) (t:TT):Prop :=
 ∀(pins:List (Addr × Obj)) (s:Shared) (σ:St) (H:Hp) (Q:Bool->Hp->Prop),Inv X pins σ H s->t σ H Q->wpAny (model X.prog X.w) X.A (isTrue e X.env (eval e X.env)) (TP X pins σ Q) X.xe s
def PW (X:Cx) (e:Expr) (t:TT):Prop :=
 ∀(whole:Sem Value) (pins:List (Addr × Obj)) (s:Shared) (σ:St) (H:Hp) (Q:Bool->Hp->Prop),Inv X pins σ H s->t σ H Q->wpAny (model X.prog X.w) X.A (isTrue e X.env whole) (TP X pins σ Q) X.xe s
theorem PW.pt {X:Cx}{e:Expr}{t:TT}(h:PW X e t):PT X e t:=h _
def PA (X:Cx) (es:List Expr) (t:TA):Prop :=
 ∀(pos:Pos) (pins:List (Addr × Obj)) (s:Shared) (σ:St) (H:Hp) (Q:List V->Hp->Prop),Inv X pins σ H s->t σ H Q->wpAny (model X.prog X.w) X.A (spliced (backTo pos (starEach es X.env))) (AP X pins σ Q) X.xe s
def PS (X:Cx) (st:Stmt) (t:TS):Prop :=
 ∀(pins:List (Addr × Obj)) (s:Shared) (σ:St) (H:Hp) (D:Ends),Inv X pins σ H s->t D σ H->wpAny (model X.prog X.w) X.A (exec st X.env) (SP X pins D) X.xe s
def PSs (X:Cx) (st:List Stmt) (t:TS):Prop :=
 ∀(pins:List (Addr × Obj)) (s:Shared) (σ:St) (H:Hp) (D:Ends),Inv X pins σ H s->t D σ H->wpAny (model X.prog X.w) X.A (execs st X.env) (SP X pins D) X.xe s
theorem thn {α:Type}{t:Sem α}{Q Q':α->Shared->Prop}{M:Model}{A:Around}{E:Value->Shared->Prop}{s:Shared}(h:wpAny M A t Q E s) (hQ:∀a s,Q a s->Q' a s):wpAny M A t Q' E s:=wpAny_mono h hQ λ_ _ x=>x
section
variable {X:Cx}
def zv4 (i:Nat):TE:=λσ H Q=>∃v,σ[i]? = some (some v)/\Q v H
def tC (v:V):TE:=λ_ H Q=>Q v H
theorem zv5 {i:Nat}{x:Str}{pos:Pos}(hN:X.N[i]? = some x) (hv:Vis X.env.scope x) (hd:(x == ("__debug__":Str))=false:=by decide) (hcd:(x == ("__classdict__":Str))=false:=by decide):PE X (.Name x pos) (zv4 i):=by
 intro pins s σ H Q I h
 obtain ⟨v,e,h⟩:=h
 obtain ⟨m,hn,hl⟩:=I.loc
 obtain ⟨u,r,l⟩:=hl i x v hN e hv
 have fin:EP X pins σ Q u s:=⟨v,H,I,r,h⟩
 rcases l with ⟨hk,hm⟩|⟨hk,c,hc,hcell⟩
 ·exact wpAny_Name (wpAny_loadName_local I.ok.kind hk hn hm fin) hd
 ·rcases hk with hk|hk
  ·exact wpAny_Name (wpAny_loadName_cell I.ok.kind hk hc hcell fin) hd
  ·exact wpAny_Name (wpAny_loadName_free I.ok.kind hk hc hcell fin hcd) hd
theorem zv6 {i j pos}:PE X (.Constant (.int i) j pos) (tC (.int i)):=λ_ _ _ H _ I h=>wpAny_Constant_int ⟨.int i,H,I.tok _,⟨_,rfl⟩,h⟩
theorem zv7 {b j pos}:PE X (.Constant (.bool b) j pos) (tC (.bl b)):=λ_ _ _ H _ I h=>Constant_bool ⟨.bl b,H,I,rfl,h⟩
theorem zv8 {j pos}:PE X (.Constant .none j pos) (tC .non):=λ_ _ _ H _ I h=>Constant_none ⟨.non,H,I,rfl,h⟩
theorem zo4 {x j pos}:PE X (.Constant (.str x) j pos) (tC (.str x)):=λ_ _ _ H _ I h=>Calls.Constant_str ⟨.str x,H,I.tok _,⟨_,rfl⟩,h⟩
def Gl (X:Cx) (x:Str):Prop:=X.env.kindOf x=some .globalImplicit
theorem zii {E:Value->Shared->Prop}{pins:List (Addr × Obj)}{s:Shared}{σ:St}{H:Hp}{x:Str}{u:Value}{pos:Pos}{Q:Value->Shared->Prop}(I:Inv X pins σ H s) (hg:Gl X x) (hm:X.mg x=some u) (h:Q u s)
  (hd:(x == ("__debug__":Str))=false:=by decide):wpAny (model X.prog X.w) X.A (eval (.Name x pos) X.env) Q E s :=
 Calls.Name_function_global I.ok.kind hg (Calls.loadGlobal_global (by rw [I.ok.glob];exact I.mod.glob.keeps I.bk) hm h) hd
theorem zkx {E:Value->Shared->Prop}{pins:List (Addr × Obj)}{s:Shared}{σ:St}{H:Hp}{x:Str}{u:Value}{pos:Pos}{Q:Value->Shared->Prop}(I:Inv X pins σ H s) (hg:Gl X x) (hm:X.mg x=none) (hv:bootBuiltins x=some u) (h:Q u s)
  (hn:x≠"__name__":=by decide) (hd:(x == ("__debug__":Str))=false:=by decide):wpAny (model X.prog X.w) X.A (eval (.Name x pos) X.env) Q E s:=by
 obtain ⟨mb,h1,h2⟩:=I.mod.blt
 exact Calls.Name_function_global I.ok.kind hg (Calls.loadGlobal_builtin (by rw [I.ok.glob];exact I.mod.glob.keeps I.bk) hm (by rw [I.ok.blt];exact h1.keeps I.bk) ((h2 x hn).trans hv) h) hd
theorem zv9 {x:Str}{v:V}{u:Value}{pos:Pos}(hg:Gl X x) (hm:X.mg x=some u) (r:RelV v u) (hd:(x == ("__debug__":Str))=false:=by decide):PE X (.Name x pos) (tC v) :=
 λ_ _ _ H _ I h=>zii I hg hm ⟨v,H,I,r,h⟩ hd
theorem zo5 {x:Str}{v:V}{u:Value}{pos:Pos}(hg:Gl X x) (hm:X.mg x=none) (hv:bootBuiltins x=some u) (r:RelV v u) (hn:x≠"__name__":=by decide) (hd:(x == ("__debug__":Str))=false:=by decide):PE X (.Name x pos) (tC v) :=
 λ_ _ _ H _ I h=>zkx I hg hm hv ⟨v,H,I,r,h⟩ hn hd
variable {a b:Expr}{ta tb:TE}{pos:Pos}
def tB (t:TE):TT:=λσ H Q=>t σ H λx H1=>∃c,x=.bl c/\Q c H1
theorem zwa {e:Expr}{t:TE}(h:PE X e t) (he:∀whole,isTrue e X.env whole=(do let v <-whole;standAt e.pos;holding [v] (truthy v)):=by intro _;rfl):PT X e (tB t):=by
 intro pins s σ H Q I hw
 refine isTrue_plain (thn (h pins s σ H _ I hw) λv s1 ⟨x,H1,I1,r1,q1⟩=>?_) (he _)
 obtain ⟨d,rfl,q⟩:=q1
 cases r1
 exact wpAny_truthy_bool ⟨H1,I1,q⟩
variable {tA tB':TT}{rest:List Expr}
def tAnd (t u:TT):TT:=λσ H Q=>t σ H λc H1=>if c=true then u σ H1 Q else Q false H1
def tOr (t u:TT):TT:=λσ H Q=>t σ H λc H1=>if c=true then Q true H1 else u σ H1 Q
def zwb (t:TT):TT:=λσ H Q=>t σ H λc H1=>Q (!c) H1
theorem zwc (ha:PT X a tA):PW X (.BoolOp .And [a] pos) tA:=by
 intro wh pins s σ H Q I h
 refine isTrue_and (thn (ha pins s σ H Q I h) λc s1 e=>?_)
 cases c with
 | true=>exact isTrue_and_nil e
 | false=>exact e
theorem zwd (ha:PT X a tA):PW X (.BoolOp .Or [a] pos) tA:=by
 intro wh pins s σ H Q I h
 refine isTrue_or (thn (ha pins s σ H Q I h) λc s1 e=>?_)
 cases c with
 | false=>exact isTrue_or_nil e
 | true=>exact e
theorem zwe (ha:PT X a tA) (hb:PW X (.BoolOp .And (b :: rest) pos) tB'):PW X (.BoolOp .And (a :: b :: rest) pos) (tAnd tA tB'):=by
 intro wh pins s σ H Q I h
 refine isTrue_and (thn (ha pins s σ H _ I h) λc s1 ⟨H1,I1,q1⟩=>?_)
 cases c with
 | true=>exact hb wh pins s1 σ H1 Q I1 q1
 | false=>exact ⟨H1,I1,q1⟩
theorem zwf (ha:PT X a tA) (hb:PW X (.BoolOp .Or (b :: rest) pos) tB'):PW X (.BoolOp .Or (a :: b :: rest) pos) (tOr tA tB'):=by
 intro wh pins s σ H Q I h
 refine isTrue_or (thn (ha pins s σ H _ I h) λc s1 ⟨H1,I1,q1⟩=>?_)
 cases c with
 | true=>exact ⟨H1,I1,q1⟩
 | false=>exact hb wh pins s1 σ H1 Q I1 q1
theorem zwg (ha:PT X a tA):PT X (.UnaryOp .Not a pos) (zwb tA):=by
 intro pins s σ H Q I h
 exact isTrue_not (ha pins s σ H (λc H1=>Q (!c) H1) I h)
def zwh (ta tb:TE):TE:=λσ H Q=>ta σ H λx H1=>∃c,x=.bl c/\if c=true then tb σ H1 Q else Q (.bl false) H1
def zwi (ta tb:TE):TE:=λσ H Q=>ta σ H λx H1=>∃c,x=.bl c/\if c=true then Q (.bl true) H1 else tb σ H1 Q
def zwj (ta:TE):TE:=λσ H Q=>ta σ H λx H1=>∃c,x=.bl c/\Q (.bl (!c)) H1
theorem zwk {op}{t:TE}(h:PE X a t):PE X (.BoolOp op [a] pos) t:=λpins s σ H Q I hw=>BoolOp_one (h pins s σ H Q I hw)
theorem zwl (ha:PE X a ta) (hb:PE X (.BoolOp .And (b :: rest) pos) tb):PE X (.BoolOp .And (a :: b :: rest) pos) (zwh ta tb):=by
 intro pins s σ H Q I h
 refine BoolOp_and (thn (ha pins s σ H _ I h) λv s1 ⟨x,H1,I1,r1,q1⟩=>?_)
 obtain ⟨c,rfl,q1⟩:=q1
 cases r1
 refine wpAny_truthy_bool ?_
 cases c with
 | true=>exact hb pins s1 σ H1 Q I1 q1
 | false=>exact ⟨.bl false,H1,I1,rfl,q1⟩
theorem zwm (ha:PE X a ta) (hb:PE X (.BoolOp .Or (b :: rest) pos) tb):PE X (.BoolOp .Or (a :: b :: rest) pos) (zwi ta tb):=by
 intro pins s σ H Q I h
 refine BoolOp_or (thn (ha pins s σ H _ I h) λv s1 ⟨x,H1,I1,r1,q1⟩=>?_)
 obtain ⟨c,rfl,q1⟩:=q1
 cases r1
 refine wpAny_truthy_bool ?_
 cases c with
 | false=>exact hb pins s1 σ H1 Q I1 q1
 | true=>exact ⟨.bl true,H1,I1,rfl,q1⟩
theorem zwn (ha:PE X a ta):PE X (.UnaryOp .Not a pos) (zwj ta):=by
 intro pins s σ H Q I h
 refine UnaryOp_ (thn (ha pins s σ H _ I h) λv s1 ⟨x,H1,I1,r1,q1⟩=>?_)
 obtain ⟨c,rfl,q1⟩:=q1
 cases r1
 exact not_of (wpAny_truthy_bool ⟨.bl (!c),H1,I1,rfl,q1⟩)
def tIf (t:TT) (ta tb:TE):TE:=λσ H Q=>t σ H λc H1=>if c=true then ta σ H1 Q else tb σ H1 Q
theorem zo6 {c:Expr}(hc:PT X c tA) (ha:PE X a ta) (hb:PE X b tb):PE X (.IfExp c a b pos) (tIf tA ta tb):=by
 intro pins s σ H Q I h
 refine wpAny_IfExp (thn (hc pins s σ H _ I h) λd s1 ⟨H1,I1,q1⟩=>?_)
 cases d with
 | true=>exact ha pins s1 σ H1 Q I1 q1
 | false=>exact hb pins s1 σ H1 Q I1 q1
end
def SqL (K:QFg) (H:Hp) (a:Addr) (xs:List V):Prop :=
 Rd H a (.lst xs) \/
  ∃(o:Obj) (its:Array Value) (n:Nat),K.lookup a=some o/\o.cls=.type "list"/\o.dict=none/\o.data=.seq its n/\its.size<=sizeLine/\Vals xs its.toList
def SqT (K:QFg) (H:Hp) (a:Addr) (xs:List V):Prop :=
 Rd H a (.tup xs) \/
  ∃(o:Obj) (its:Array Value) (n:Nat),K.lookup a=some o/\o.cls=.type "tuple"/\o.data=.seq its n/\its.size<=sizeLine/\Vals xs its.toList
noncomputable def zwo:Value->Option V
 | .none=>some .non
 | .bool b=>some (.bl b)
 | .int i _=>some (.int i)
 | .str x _=>some (.str x)
 | .bytes b _=>some (.byt b)
 | .float b _=>some (.flt b)
 | .ref a=>some (.ref a)
 | .type n=>some (.ty n)
 | _=>none
theorem RelV.abs {x:V}{u:Value}(r:RelV x u):zwo u=some x:=by
 cases x with
 | non=>cases r;rfl
 | bl _=>cases r;rfl
 | int _=>obtain ⟨t,rfl⟩:=r;rfl
 | str _=>obtain ⟨t,rfl⟩:=r;rfl
 | byt _=>obtain ⟨t,rfl⟩:=r;rfl
 | flt _=>obtain ⟨t,rfl⟩:=r;rfl
 | ref _=>cases r;rfl
 | ty _=>cases r;rfl
theorem RelV.inj {x y:V}{u:Value}(r:RelV x u) (q:RelV y u):x=y:=qoi (r.abs.symm.trans q.abs)
theorem Vals.inj:∀{xs ys:List V}{us:List Value},Vals xs us->Vals ys us->xs=ys
 | _,_,_,.nil,.nil=>rfl
 | _,_,_,.cons r t,.cons r' t'=>by rw [r.inj r',Vals.inj t t']
section
variable {X:Cx}{pins:List (Addr × Obj)}{σ:St}{H:Hp}{s:Shared}{a:Addr}{xs ys:List V}
theorem SqT.of {K:QFg}(h:H a=some (.tup xs)):SqT K H a xs:=.inl (.inl h)
theorem Inv.list (I:Inv X pins σ H s) (h:SqL X.K H a xs):∃its:List Value,Vals xs its/\PlainL s.heap a its.toArray/\xs.length<=sizeLine:=by
 rcases h with h|⟨o,its,n,hk,hc,hd,hs,hz,r⟩
 ·obtain ⟨z,its,n,r,e⟩:=h.ok I.hok
  exact ⟨its,r,⟨_,n,e,rfl,rfl,rfl⟩,z⟩
 ·refine ⟨its.toList,r,⟨o,n,I.kIn a o hk,hc,hd,by simpa using hs⟩,?_⟩
  have e:=r.length
  simp only [Array.length_toList] at e
  omega
theorem Inv.tuple (I:Inv X pins σ H s) (h:SqT X.K H a xs):∃its:List Value,Vals xs its/\IsTup s.heap a its.toArray/\xs.length<=sizeLine:=by
 rcases h with h|⟨o,its,n,hk,hc,hs,hz,r⟩
 ·obtain ⟨z,its,r,p⟩:=h.ok I.hok
  exact ⟨its,r,p.tup,z⟩
 ·refine ⟨its.toList,r,⟨o,I.kIn a o hk,hc,n,by simpa using hs⟩,?_⟩
  have e:=r.length
  simp only [Array.length_toList] at e
  omega
theorem Inv.list_inj (I:Inv X pins σ H s) (h:SqL X.K H a xs) (h':SqL X.K H a ys):xs=ys:=by
 obtain ⟨its,r,⟨o,n,e,_,_,d⟩,_⟩:=I.list h
 obtain ⟨its',r',⟨o',n',e',_,_,d'⟩,_⟩:=I.list h'
 rw [e] at e';cases e'
 rw [d] at d'
 injection d' with d1 _
 have:its=its':=by simpa using congrArg Array.toList d1
 subst this
 exact r.inj r'
theorem Inv.tuple_inj (I:Inv X pins σ H s) (h:SqT X.K H a xs) (h':SqT X.K H a ys):xs=ys:=by
 obtain ⟨its,r,⟨o,e,_,n,d⟩,_⟩:=I.tuple h
 obtain ⟨its',r',⟨o',e',_,n',d'⟩,_⟩:=I.tuple h'
 rw [e] at e';cases e'
 rw [d] at d'
 injection d' with d1 _
 have:its=its':=by simpa using congrArg Array.toList d1
 subst this
 exact r.inj r'
end
noncomputable abbrev Cx.wish (X:Cx) (E:Value->Shared->Prop):Cx:={ X with xe:=E }
noncomputable abbrev Cx.nox (X:Cx):Cx:=X.wish λ_ _=>False
theorem Cx.Ok.wish {X:Cx}(ok:X.Ok) (E:Value->Shared->Prop):(X.wish E).Ok :=
 ⟨ok.mod,ok.kind,ok.glob,ok.blt,ok.above,ok.inj,ok.has,ok.cab,ok.hd,ok.frames,ok.stk,ok.exf,ok.bs,ok.bsz,ok.noex,ok.exfs,ok.funs,ok.frf⟩
theorem Cx.Ok.unwish {X:Cx}{E:Value->Shared->Prop}(ok:(X.wish E).Ok):X.Ok :=
 ⟨ok.mod,ok.kind,ok.glob,ok.blt,ok.above,ok.inj,ok.has,ok.cab,ok.hd,ok.frames,ok.stk,ok.exf,ok.bs,ok.bsz,ok.noex,ok.exfs,ok.funs,ok.frf⟩
section
variable {X:Cx}{pins:List (Addr × Obj)}{σ:St}{H:Hp}{s:Shared}{E:Value->Shared->Prop}
theorem Inv.wish (I:Inv X pins σ H s) (E:Value->Shared->Prop):Inv (X.wish E) pins σ H s:=⟨I.ok.wish E,I.os,I.bare,I.base,I.loc,I.cell,I.free,I.freeC,I.pin,I.hok,I.len⟩
theorem Inv.unwish (I:Inv (X.wish E) pins σ H s):Inv X pins σ H s:=⟨I.ok.unwish,I.os,I.bare,I.base,I.loc,I.cell,I.free,I.freeC,I.pin,I.hok,I.len⟩
theorem SP.unwish {D:Ends}{f:Flow}{s':Shared}(h:SP (X.wish E) pins D f s'):SP X pins D f s':=by
 cases f with
 | next=>obtain ⟨σ',H',I,q⟩:=h;exact ⟨σ',H',I.unwish,q⟩
 | brk=>obtain ⟨σ',H',I,q⟩:=h;exact ⟨σ',H',I.unwish,q⟩
 | cont=>obtain ⟨σ',H',I,q⟩:=h;exact ⟨σ',H',I.unwish,q⟩
 | ret u=>obtain ⟨v,σ',H',I,r,q⟩:=h;exact ⟨v,σ',H',I.unwish,r,q⟩
theorem PSs.nox {st:List Stmt}{t:TS}(h:PSs X.nox st t):PSs X st t:=λpins s σ H D I hw =>
 wpAny_mono (h pins s σ H D (I.wish _) hw) (λ_ _ q=>q.unwish) λ_ _ z=>False.elim z
end
section
variable {X:Cx}{st:Stmt}{rest:List Stmt}{t u:TS}{e:Expr}{te:TE}{pos:Pos}
def zwp:TS:=λD σ H=>D.nx σ H
def zwq (t u:TS):TS:=λD σ H=>t { D with nx:=u D } σ H
theorem zwr:PSs X [] zwp:=λ_ _ σ H _ I h=>wpAny_execs_nil ⟨σ,H,I,h⟩
theorem zmm (h1:PS X st t) (h2:PSs X rest u):PSs X (st :: rest) (zwq t u):=by
 intro pins s σ H D I h
 refine wpAny_execs_cons (thn (h1 pins s σ H { D with nx:=u D } I h) λf s1 q=>?_)
 cases f with
 | next =>
  obtain ⟨σ',H',I',q⟩:=q
  exact h2 pins s1 σ' H' D I' q
 | ret v=>exact q
 | brk=>exact q
 | cont=>exact q
theorem zws (h1:PS X st t):PSs X [st] t:=by
 intro pins s σ H D I h
 refine wpAny_execs_cons (thn (h1 pins s σ H D I h) λf s1 q=>?_)
 cases f with
 | next=>exact wpAny_execs_nil q
 | ret v=>exact q
 | brk=>exact q
 | cont=>exact q
theorem Inv.quiet {pins:List (Addr × Obj)}{σ:St}{H:Hp}{s:Shared}(I:Inv X pins σ H s):interactive X.env=false:=by simp [interactive,I.ok.kind]
def zwt (te:TE):TS:=λD σ H=>te σ H λ_ H1=>D.nx σ H1
theorem zo7 (he:PE X e te) (hs:swapsWith e none pos.line X.env=pure false:=by rfl):PS X (.Expr e pos) (zwt te):=by
 intro pins s σ H D I h
 exact wpAny_Expr_any (thn (he pins s σ H _ I h) λv s1 ⟨x,H1,I1,r1,q1⟩=>⟨σ,H1,I1,q1⟩) I.quiet hs
def zwu (te:TE):TS:=λD σ H=>te σ H D.rt
theorem zo8 (he:PE X e te):PS X (.Return (some e) pos) (zwu te):=by
 intro pins s σ H D I h
 exact wpAny_Return_some (thn (he pins s σ H _ I h) λv s1 ⟨x,H1,I1,r1,q1⟩=>⟨x,σ,H1,I1,r1,q1⟩)
def zwv (c:TT) (t u:TS):TS:=λD σ H=>c σ H λb H1=>if b=true then t D σ H1 else u D σ H1
theorem zo9 {c:Expr}{a b:List Stmt}{tc:TT}(hc:PT X c tc) (ha:PSs X a t) (hb:PSs X b u):PS X (.If c a b pos) (zwv tc t u):=by
 intro pins s σ H D I h
 refine wpAny_If (thn (hc pins s σ H _ I h) λd s1 ⟨H1,I1,q1⟩=>?_)
 cases d with
 | true=>exact ha pins s1 σ H1 D I1 q1
 | false=>exact hb pins s1 σ H1 D I1 q1
def zww:TS:=λ_ _ _=>False
theorem zwx:PS X st zww:=λ_ _ _ _ _ _ h=>h.elim
end
abbrev TG:=V->St->Hp->(St->Hp->Prop)->Prop
abbrev TGs:=List V->St->Hp->(St->Hp->Prop)->Prop
def PG (X:Cx) (target:Expr) (t:TG):Prop :=
 ∀(pins:List (Addr × Obj)) (s:Shared) (σ:St) (H:Hp) (v:V) (u:Value) (Q:St->Hp->Prop),Inv X pins σ H s->RelV v u->t v σ H Q ->
  wpAny (model X.prog X.w) X.A (assign target X.env u) (λ_ s'=>∃σ' H',Inv X pins σ' H' s'/\Q σ' H') X.xe s
def PGs (X:Cx) (ts:List Expr) (t:TGs):Prop :=
 ∀(pins:List (Addr × Obj)) (s:Shared) (σ:St) (H:Hp) (vs:List V) (us:List Value) (Q:St->Hp->Prop),Inv X pins σ H s->Vals vs us->t vs σ H Q ->
  wpAny (model X.prog X.w) X.A (assignInOrder ((assignEach ts X.env).map (·.2)) us) (λ_ s'=>∃σ' H',Inv X pins σ' H' s'/\Q σ' H') X.xe s
abbrev TSet:=V->V->V->Hp->(Hp->Prop)->Prop
def zpa (X:Cx) (t:TSet):Prop :=
 ∀(pins:List (Addr × Obj)) (s:Shared) (σ:St) (H:Hp) (o i v:V) (ov iv u:Value) (Q:Hp->Prop),Inv X pins σ H s->RelV o ov->RelV i iv->RelV v u->t o i v H Q ->
  wpAny (model X.prog X.w) X.A (setItem ov iv u) (λ_ s'=>∃H',Inv X pins σ H' s'/\Q H') X.xe s
section
variable {X:Cx}{pos:Pos}
def zky (i:Nat):TG:=λv σ H Q=>Q (σ.set i (some v)) H
theorem zwy {i:Nat}{x:Str}(hN:X.N.Nodup) (hi:X.N[i]? = some x) (hx:Loc X.env.scope x) (hf:X.fn x=true\/X.env.scope.names.lookup x=some .local:=by first|exact .inl rfl|exact .inr rfl|assumption):PG X (.Name x pos) (zky i):=by
 intro pins s σ H v u Q I r h
 exact wpAny_assign_Name (zml I hN hi hx r (λs' I'=>⟨_,H,I',h⟩) hf)
def zwz:TGs:=λvs σ H Q=>vs=[]/\Q σ H
def zw0 (t:TG) (u:TGs):TGs:=λvs σ H Q=>∃v r,vs=v :: r/\t v σ H λσ' H'=>u r σ' H' Q
theorem zw1:PGs X [] zwz:=by
 intro pins s σ H vs us Q I r h
 obtain ⟨e,h⟩:=h
 subst e
 cases r
 exact assignInOrder_nil ⟨σ,H,I,h⟩
theorem zw2 {e:Expr}{es:List Expr}{t:TG}{u:TGs}(h1:PG X e t) (h2:PGs X es u)
  (hs:(assignEach (e :: es) X.env).map (·.2)=assign e X.env :: (assignEach es X.env).map (·.2):=by rfl):PGs X (e :: es) (zw0 t u):=by
 intro pins s σ H vs us Q I r h
 obtain ⟨v,vr,e1,h⟩:=h
 subst e1
 cases r with
 | cons r rr =>
  rw [hs]
  refine assignInOrder_cons (thn (h1 pins s σ H _ _ _ I r h) λ_ s1 ⟨σ1,H1,I1,q1⟩=>?_)
  exact h2 pins s1 σ1 H1 _ _ Q I1 rr q1
def zw3 (K:QFg) (n:Nat) (t:TGs):TG:=λv σ H Q=>∃a xs,v=.ref a/\SqT K H a xs/\xs.length=n/\t xs σ H Q
theorem zw4 {es:List Expr}{k:Nat}{t:TGs}{n:Nat}(hc:X.calm=true) (h:PGs X es t)
  (hn:(assignEach es X.env).length=n:=by rfl) (hst:(assignEach es X.env).findIdx? (·.1)=none:=by rfl):PG X (.Tuple es k pos) (zw3 X.K n t):=by
 intro pins s σ H v u Q I r hw
 obtain ⟨a,xs,e1,hq,hl,hw⟩:=hw
 subst e1
 cases r
 obtain ⟨its,rv,ht,hz⟩:=I.tuple hq
 refine assign_Tuple_tuple (I.ok.hd hc) ht (by simp [hn,<-hl,rv.length]) hst λh' hx=>?_
 have I1:Inv X pins σ H { s with heap:=h' }:=I.kept (t':=s.toks) λb o e=>hx b o (Nat.ne_of_lt (Heap.lt_size e)) e
 exact h pins _ σ H xs _ Q I1 (by simpa using rv) hw
def zw5 (to ti:TE) (t:TSet):TG:=λv σ H Q=>to σ H λo H1=>ti σ H1 λi H2=>t o i v H2 λH3=>Q σ H3
theorem zw6 {o i:Expr}{to ti:TE}{t:TSet}(ho:PE X o to) (hi:PE X i ti) (hs:zpa X t)
  (ha:∀v,assign (.Subscript o i pos) X.env v=(do
   let ov <-holding [v] (eval o X.env)
   let iv <-holding [v,ov] (eval i X.env)
   standAt pos
   holding [v,ov,iv] (setItem ov iv v)
   release [v,ov,iv] []):=by intro _;rfl):PG X (.Subscript o i pos) (zw5 to ti t):=by
 intro pins s σ H v u Q I r h
 rw [ha]
 refine qwb (wpAny_holding (thn (ho pins s σ H _ I h) λov s1 ⟨x,H1,I1,r1,q1⟩=>?_))
 refine qwb (wpAny_holding (thn (hi pins s1 σ H1 _ I1 q1) λiv s2 ⟨y,H2,I2,r2,q2⟩=>?_))
 refine qwb (wpAny_standAt (qwb (wpAny_holding (thn (hs pins s2 σ H2 x y v ov iv u _ I2 r1 r2 r q2) λ_ s3 ⟨H3,I3,q3⟩=>?_))))
 exact wpAny_release ⟨σ,H3,I3,q3⟩
def zkz (te:TE) (g:TG):TS:=λD σ H=>te σ H λx H1=>g x σ H1 D.nx
theorem zpb {tg e:Expr}{te:TE}{g:TG}(he:PE X e te) (hg:PG X tg g) (hs:swapsWithSole [tg] e pos.line X.env=pure false:=by rfl) (hw:swappedStores [tg] e X.env=pure none:=by rfl)
  (h1:(assignEach [tg] X.env).map (·.2)=[assign tg X.env]:=by rfl):PS X (.Assign [tg] e pos) (zkz te g):=by
 intro pins s σ H D I h
 refine wpAny_Assign_stores (thn (he pins s σ H _ I h) λv s1 ⟨x,H1,I1,r1,q1⟩=>?_) hs hw
 rw [h1]
 exact thn (hg pins s1 σ H1 x v _ I1 r1 q1) λ_ s2 q=>q
theorem zw7 {i:Nat}{x:Str}{e:Expr}{te:TE}{pos':Pos}(hN:X.N.Nodup) (hi:X.N[i]? = some x) (hx:Loc X.env.scope x) (he:PE X e te) (hs:swapsWith e (some (.Name x pos')) pos.line X.env=pure false:=by rfl) (hf:X.fn x=true\/X.env.scope.names.lookup x=some .local:=by first|exact .inl rfl|exact .inr rfl|assumption) :
  PS X (.Assign [.Name x pos'] e pos) (zkz te (zky i)):=by
 intro pins s σ H D I h
 refine wpAny_Assign_Name (thn (he pins s σ H _ I h) λv s1 ⟨y,H1,I1,r1,q1⟩=>?_) hs
 exact zml I1 hN hi hx r1 (λs2 I2=>⟨_,H1,I2,q1⟩) hf
end
section
variable {X:Cx}{pos:Pos}
end
structure It where
 go:Nat->Hp->Prop
 yld:Nat->Hp->V->Hp->Prop
 stop:Nat->Hp->Prop
def zfu (X:Cx) (pins:List (Addr × Obj)) (H:Hp) (b:Addr):Prop :=
 H b=none/\b≠X.env.locals/\b ∉ X.fs/\(b∈X.ex\/X.s₀.heap.objs.size<=b)/\(∀x c,X.env.cells.lookup x=some c->c≠b)/\∀p∈X.pn++pins,p.1≠b
theorem Inv.fpOk {X:Cx}{pins:List (Addr × Obj)}{σ:St}{H H':Hp}{s:Shared}{b:Addr}(I:Inv X pins σ H s) (hb:s.heap.objs.size<=b) (hn:H' b=none):zfu X pins H' b:=by
 refine ⟨hn,Nat.ne_of_gt (Nat.lt_of_lt_of_le I.lt hb),I.nofs hb,.inr (Nat.le_trans I.sz hb),λx c e z=>?_,λp hp z=>?_⟩
 ·obtain ⟨v,q⟩:=I.cell x c e
  exact absurd (Nat.lt_of_lt_of_le q.lt (by rw [z];exact hb)) (Nat.lt_irrefl _)
 ·exact absurd (Nat.lt_of_lt_of_le (Heap.lt_size (I.pin p hp).1) (by rw [z];exact hb)) (Nat.lt_irrefl _)
structure Turn (P:Program) (w:World) (K:QFg) (tg:Expr) (J:It) (fp:List Addr) (it:Addr) (tn:Nat->Heap->Prop):Prop where
 mem:it∈fp
 obj:∀i h,tn i h->∀b∈fp,∃o,h.get? b=some o/\∀v,o.data≠.cell v
 keep:∀i h h',tn i h->(∀b∈fp,∀o,h.get? b=some o->h'.get? b=some o)->tn i h'
 item:∀(X:Cx),X.prog=P->X.w=w->X.K=K->X.calm=true->∀(i:Nat) (pins:List (Addr × Obj)) (s:Shared) (σ:St) (H:Hp) (E:Value->Shared->Prop),Inv X pins σ H s->(∀b∈fp,zfu X pins H b)->tn i s.heap->J.go i H ->
  wpAny (model P w) X.A (pyNext (.ref it)) (λr s1=>∃u,r=some u /\
   wpAny (model P w) X.A (letOwnedTupleGo tg (.ref it) u) (λ_ s2=>∃x H',Inv X pins σ H' s2/\RelV x u/\J.yld i H x H'/\tn (i+1) s2.heap/\∀b∈fp,H' b=none) E s1) E s
 done:∀(X:Cx),X.prog=P->X.w=w->X.K=K->X.calm=true->∀(i:Nat) (pins:List (Addr × Obj)) (s:Shared) (σ:St) (H:Hp) (E:Value->Shared->Prop),Inv X pins σ H s->(∀b∈fp,zfu X pins H b)->tn i s.heap->J.stop i H ->
  wpAny (model P w) X.A (pyNext (.ref it)) (λr s1=>r=none/\Inv X pins σ H s1) E s
 self:∀(A:Around) (i:Nat) (s:Shared) (Q:Value->Shared->Prop) (E:Value->Shared->Prop),tn i s.heap->Q (.ref it) s->wpAny (model P w) A (pyIter (.ref it)) Q E s
abbrev TI:=St->Hp->(It->Hp->Prop)->Prop
def PIE (X:Cx) (pins:List (Addr × Obj)) (σ:St) (tg:Expr) (R:It->Hp->Prop) (itv:Value) (s2:Shared):Prop :=
 ∃(it:Addr) (fp:List Addr) (tn:Nat->Heap->Prop) (J:It) (H':Hp),itv=.ref it/\Inv X pins σ H' s2/\Turn X.prog X.w X.K tg J fp it tn/\tn 0 s2.heap/\(∀b∈fp,zfu X pins H' b)/\R J H'
def PI (X:Cx) (tg iter:Expr) (wi:TI):Prop :=
 ∀(pins:List (Addr × Obj)) (s:Shared) (σ:St) (H:Hp) (R:It->Hp->Prop),Inv X pins σ H s->wi σ H R ->
  wpAny (model X.prog X.w) X.A (eval iter X.env) (λv s1=>wpAny (model X.prog X.w) X.A (pyIter v) (PIE X pins σ tg R) X.xe s1) X.xe s
theorem zk0 {M:Model}{A:Around}{E:Value->Shared->Prop}{s:Shared}{tg:Expr}{it:Addr}{u:Value}{o:Obj}{n:String}{vs:Array Value}{Q:Unit->Shared->Prop}(ho:s.heap.get? it=some o) (hc:o.cls=.type n) (hd:o.data=.fields vs)
  (hn:["enumerate","zip","dict_itemiterator","dict_reverseitemiterator","odict_iterator","itertools.zip_longest","itertools.pairwise"].contains n=false) (hQ:Q () s):wpAny M A (letOwnedTupleGo tg (.ref it) u) Q E s:=by
 unfold letOwnedTupleGo
 cases tg <;> first
  | exact qwp hQ
  | (cases u <;> first
    | exact qwp hQ
    | (refine qwb (wpAny_load ho ?_)
       rw [hc,hd]
       show wpAny M A (if (["enumerate","zip","dict_itemiterator","dict_reverseitemiterator","odict_iterator","itertools.zip_longest","itertools.pairwise"].contains n && vs[0]? == some (rawInt _))=true then _ else _) Q E s
       rw [if_neg (by intro h;rw [hn,Bool.false_and] at h;cases h)]
       exact qwp hQ))
noncomputable def Itl (K:QFg) (a:Addr):It :=
 ⟨λi H=>∃xs x,SqL K H a xs/\xs[i]? = some x,λi H x H'=>H' = H/\∀xs,SqL K H a xs->xs[i]? = some x,λi H=>∃xs,SqL K H a xs/\xs.length<=i⟩
noncomputable def Itt (K:QFg) (a:Addr):It :=
 ⟨λi H=>∃xs x,SqT K H a xs/\xs[i]? = some x,λi H x H'=>H' = H/\∀xs,SqT K H a xs->xs[i]? = some x,λi H=>∃xs,SqT K H a xs/\xs.length<=i⟩
noncomputable def Itr (lo:Int) (n:Nat):It:=⟨λi _=>i<n,λi H x H'=>H' = H/\x=.int (lo+i),λi _=>n<=i⟩
theorem zw8 {P:Program}{w:World}{K:QFg}{tg:Expr}(a it:Addr):Turn P w K tg (Itl K a) [it] it (λi h=>h.IsListIter it a i) where
 mem:=by simp
 obj:=λi h st b hb=>by
  have e:b=it:=by simpa using hb
  subst e
  obtain ⟨o,e,c,d⟩:=st
  exact ⟨o,e,λv z=>by rw [d] at z;cases z⟩
 keep:=λi h h' st k=>st.at λo e=>k it (by simp) o e
 item:=by
  intro X hP hw hK hc i pins s σ H E I hf st hg
  subst hP hw hK
  obtain ⟨xs,x,hq,hx⟩:=hg
  obtain ⟨its,rv,p,hz⟩:=I.list hq
  obtain ⟨u,hu,ru⟩:=rv.get hx
  obtain ⟨f0,f1,f2,f3,f4,f5⟩:=hf it (by simp)
  refine wpAny_pyNext_list_item st p.isList (x:=u) (by simpa using hu) λh' st' sb=>?_
  have I1:Inv X pins σ H { s with heap:=h' }:=I.turned (t':=s.toks) (λb o hb e=>(sb.2 b hb).trans e) f0 f1 f3 f4 f5
  obtain ⟨o,e,c,d⟩:=id st'
  exact ⟨u,rfl,zk0 (s:={ s with heap:=h' }) e c d (by decide) ⟨x,H,I1,ru,⟨rfl,λys hy=>by rw [I.list_inj hy hq];exact hx⟩,st',λb hb=>(hf b hb).1⟩⟩
 done:=by
  intro X hP hw hK hc i pins s σ H E I hf st hg
  subst hP hw hK
  obtain ⟨xs,hq,hx⟩:=hg
  obtain ⟨its,rv,p,hz⟩:=I.list hq
  obtain ⟨f0,f1,f2,f3,f4,f5⟩:=hf it (by simp)
  have hl:=rv.length
  exact wpAny_pyNext_list_end (I.ok.hd hc) st p.isList (by simp;omega) λh' eb=>⟨rfl,I.turned (t':=s.toks) (λb o hb e=>eb b o hb e) f0 f1 f3 f4 f5⟩
 self:=λ_ _ _ _ _ st h=>wpAny_pyIter_listiter st h
theorem zw9 {P:Program}{w:World}{K:QFg}{tg:Expr}(a it:Addr):Turn P w K tg (Itt K a) [it] it (λi h=>h.IsTupleIter it a i) where
 mem:=by simp
 obj:=λi h st b hb=>by
  have e:b=it:=by simpa using hb
  subst e
  obtain ⟨o,e,c,d⟩:=st
  exact ⟨o,e,λv z=>by rw [d] at z;cases z⟩
 keep:=λi h h' st k=>st.at λo e=>k it (by simp) o e
 item:=by
  intro X hP hw hK hc i pins s σ H E I hf st hg
  subst hP hw hK
  obtain ⟨xs,x,hq,hx⟩:=hg
  obtain ⟨its,rv,p,hz⟩:=I.tuple hq
  obtain ⟨u,hu,ru⟩:=rv.get hx
  obtain ⟨f0,f1,f2,f3,f4,f5⟩:=hf it (by simp)
  refine wpAny_pyNext_tuple_item st (show s.heap.IsTuple a its.toArray from p) (x:=u) (by simpa using hu) λh' st' sb=>?_
  have I1:Inv X pins σ H { s with heap:=h' }:=I.turned (t':=s.toks) (λb o hb e=>(sb.2 b hb).trans e) f0 f1 f3 f4 f5
  obtain ⟨o,e,c,d⟩:=id st'
  exact ⟨u,rfl,zk0 (s:={ s with heap:=h' }) e c d (by decide) ⟨x,H,I1,ru,⟨rfl,λys hy=>by rw [I.tuple_inj hy hq];exact hx⟩,st',λb hb=>(hf b hb).1⟩⟩
 done:=by
  intro X hP hw hK hc i pins s σ H E I hf st hg
  subst hP hw hK
  obtain ⟨xs,hq,hx⟩:=hg
  obtain ⟨its,rv,p,hz⟩:=I.tuple hq
  obtain ⟨f0,f1,f2,f3,f4,f5⟩:=hf it (by simp)
  have hl:=rv.length
  exact wpAny_pyNext_tuple_end (I.ok.hd hc) st (show s.heap.IsTuple a its.toArray from p) (by simp;omega) λh' eb=>⟨rfl,I.turned (t':=s.toks) (λb o hb e=>eb b o hb e) f0 f1 f3 f4 f5⟩
 self:=λ_ _ _ _ _ st h=>wpAny_pyIter_tupleiter st h
theorem zxa {P:Program}{w:World}{K:QFg}{tg:Expr}(it:Addr) (lo:Int) (n:Nat):Turn P w K tg (Itr lo n) [it] it (λi h=>IsRangeIter h it (lo+(i:Nat)*1) ((n:Int)-(i:Nat)) 1) where
 mem:=by simp
 obj:=λi h st b hb=>by
  have e:b=it:=by simpa using hb
  subst e
  exact ⟨_,st,λv z=>by
   have z':Data.fields _=Data.cell v:=z
   cases z'⟩
 keep:=λi h h' st k=>k it (by simp) _ st
 item:=by
  intro X hP hw hK hc i pins s σ H E I hf st hg
  subst hP hw hK
  obtain ⟨f0,f1,f2,f3,f4,f5⟩:=hf it (by simp)
  have W:=Walks.range (prog:=X.prog) (w:=X.w) (I.ok.hd hc) it lo 1 n
  refine W.item i s _ _ hg st λv h' tk hv st' kk=>?_
  obtain ⟨t,rfl⟩:=hv
  have I1:Inv X pins σ H { s with heap:=h',toks:=tk }:=I.turned (λb o hb e=>kk b o (by simpa using hb) e) f0 f1 f3 f4 f5
  refine ⟨_,rfl,zk0 (s:={ s with heap:=h',toks:=tk }) (n:="range_iterator") st' rfl rfl (by decide) ⟨.int (lo+i),H,I1,⟨t,?_⟩,⟨rfl,rfl⟩,st',λb hb=>(hf b hb).1⟩⟩
  rw [Int.mul_one]
 done:=by
  intro X hP hw hK hc i pins s σ H E I hf st hg
  subst hP hw hK
  obtain ⟨f0,f1,f2,f3,f4,f5⟩:=hf it (by simp)
  exact wpAny_pyNext_range_end (I.ok.hd hc) st (by have:n<=i:=hg;omega) λh' eb=>⟨rfl,I.turned (t':=s.toks) (λb o hb e=>eb b o hb e) f0 f1 f3 f4 f5⟩
 self:=λ_ _ _ _ _ st h=>wpAny_pyIter_rangeiter st h
section
variable {X:Cx}{tg:Expr}
def zxb (K:QFg) (tl:TE):TI:=λσ H R=>tl σ H λx H1=>∃a,x=.ref a/\(∃xs,SqL K H1 a xs)/\R (Itl K a) H1
def zxc (K:QFg) (tl:TE):TI:=λσ H R=>tl σ H λx H1=>∃a,x=.ref a/\(∃xs,SqT K H1 a xs)/\R (Itt K a) H1
theorem zpc {l:Expr}{tl:TE}(hl:PE X l tl):PI X tg l (zxb X.K tl):=by
 intro pins s σ H R I h
 refine thn (hl pins s σ H _ I h) λv s1 ⟨x,H1,I1,r1,q1⟩=>?_
 obtain ⟨a,e,⟨xs,hq⟩,q⟩:=q1
 subst e
 cases r1
 obtain ⟨its,rv,p,hz⟩:=I1.list hq
 refine wpAny_pyIter_list p.isList ?_
 refine ⟨s1.heap.objs.size,[s1.heap.objs.size],_,_,H1,rfl,I1.kept (t':=s1.toks) λb o e=>qps _ e,zw8 a _,⟨_,Heap.get?_push_size _ rfl,rfl,rfl⟩,λb hb=>?_,q⟩
 have e:b=s1.heap.objs.size:=by simpa using hb
 subst e
 exact I1.fpOk (qlr _) (I1.hok.fresh (qlr _))
theorem zpd {l:Expr}{tl:TE}(hl:PE X l tl):PI X tg l (zxc X.K tl):=by
 intro pins s σ H R I h
 refine thn (hl pins s σ H _ I h) λv s1 ⟨x,H1,I1,r1,q1⟩=>?_
 obtain ⟨a,e,⟨xs,hq⟩,q⟩:=q1
 subst e
 cases r1
 obtain ⟨its,rv,p,hz⟩:=I1.tuple hq
 refine wpAny_pyIter_tuple (show s1.heap.IsTuple a its.toArray from p) ?_
 refine ⟨s1.heap.objs.size,[s1.heap.objs.size],_,_,H1,rfl,I1.kept (t':=s1.toks) λb o e=>qps _ e,zw9 a _,⟨_,Heap.get?_push_size _ rfl,rfl,rfl⟩,λb hb=>?_,q⟩
 have e:b=s1.heap.objs.size:=by simpa using hb
 subst e
 exact I1.fpOk (qlr _) (I1.hok.fresh (qlr _))
theorem zxd {pins:List (Addr × Obj)}{σ:St}{H:Hp}{s:Shared}{R:It->Hp->Prop}{E:Value->Shared->Prop}{lo hi:Int}{t u v:Tok}{tk:Nat}(I:Inv X pins σ H s) (h1:-(2 ^ 62)<=lo) (h2:lo<2 ^ 62) (h3:-(2 ^ 62)<=hi) (h4:hi<2 ^ 62)
  (q:R (Itr lo (hi-lo).toNat) H):wpAny (model X.prog X.w) X.A (pyIter (.ref s.heap.objs.size)) (PIE X pins σ tg R) E { s with heap:=s.heap.push { cls:=.type "range",data:=.fields #[.int lo t,.int hi u,.int 1 v] },toks:=tk }:=by
 refine wpAny_pyIter_range (IsRange.new ..) (small_one h1 h2 h3 h4) ?_
 have I1:Inv X pins σ H { s with heap:=s.heap.push { cls:=.type "range",data:=.fields #[.int lo t,.int hi u,.int 1 v] },toks:=tk }:=I.kept λb o e=>qps _ e
 refine ⟨(s.heap.push { cls:=.type "range",data:=.fields #[.int lo t,.int hi u,.int 1 v] }).objs.size,[(s.heap.push { cls:=.type "range",data:=.fields #[.int lo t,.int hi u,.int 1 v] }).objs.size],_,_,H,rfl,
  I1.kept (t':=tk) λb o e=>qps _ e,zxa _ lo (hi-lo).toNat,?_,λb hb=>?_,q⟩
 ·have e1:lo+((0:Nat):Int)*1=lo:=by simp
  have e2:(((hi-lo).toNat:Nat):Int)-((0:Nat):Int)=Builtin.Range.rangeSize lo hi 1:=by rw [rangeSize_one];split <;> omega
  show IsRangeIter _ _ (lo+((0:Nat):Int)*1) ((((hi-lo).toNat:Nat):Int)-((0:Nat):Int)) 1
  rw [e1,e2]
  exact Heap.get?_push_size _ rfl
 ·have e:b=(s.heap.push { cls:=.type "range",data:=.fields #[.int lo t,.int hi u,.int 1 v] }).objs.size:=by simpa using hb
  subst e
  exact I1.fpOk (qlr _) (I1.hok.fresh (qlr _))
def zxe (ta:TA):TI:=λσ H R=>ta σ H λvs H1=>∃j:Int,vs=[.int j]/\-(2 ^ 62)<=j/\j<2 ^ 62/\R (Itr 0 j.toNat) H1
theorem zpe {a:Expr}{ta:TA}{p pos:Pos}(hg:Gl X "range") (hm:X.mg "range" = none) (ha:PA X [a] ta) (hs:starEach [a] X.env=[(false,eval a X.env)]:=by rfl):PI X tg (.Call (.Name "range" p) [a] [] pos) (zxe ta):=by
 intro pins s σ H R I h
 refine Call_ (zkx I hg hm boot_range (PyProof.Rows.callWith_type1 (thn (ha pos pins s σ H _ I h) λus s1 ⟨vs,H1,I1,r1,q1⟩=>?_) hs rfl))
 obtain ⟨j,e,q1,q2,q⟩:=q1
 subst e
 cases r1 with
 | cons r rr =>
  cases rr
  obtain ⟨t,rfl⟩:=r
  exact call_range_1 (zxd I1 (by omega) (by omega) q1 q2 (by simpa using q))
def zxf (wi:TI) (g:TG) (tb:TS):TS:=λD σ H=>wi σ H λJ H1=>∃W:Nat->Nat->St->Hp->Prop,(∃m,W 0 m σ H1)/\∀i m σ H,W i m σ H ->
 (J.stop i H/\D.nx σ H)\/(J.go i H/\∃N:St->Hp->Prop,(∀σ' H',N σ' H'->∃m',m' < m/\W (i+1) m' σ' H')/\∀x H',J.yld i H x H'->g x σ H' λσ2 H2=>tb { D with nx:=N,ct:=N,bk:=D.nx } σ2 H2)
noncomputable def zjd (fp:List Addr) (h:Heap):List (Addr × Obj):=fp.filterMap λb=>(h.get? b).map λo=>(b,o)
theorem zk1 {fp:List Addr}{h:Heap}{b:Addr}{o:Obj}(hb:b∈fp) (e:h.get? b=some o):(b,o)∈zjd fp h:=List.mem_filterMap.mpr ⟨b,hb,by rw [e];rfl⟩
theorem zxg {fp:List Addr}{h:Heap}{p:Addr × Obj}(hp:p∈zjd fp h):p.1∈fp/\h.get? p.1=some p.2:=by
 obtain ⟨b,hb,e⟩:=List.mem_filterMap.mp hp
 cases q:h.get? b with
 | none=>rw [q] at e;cases e
 | some o =>
  rw [q] at e
  have e':(b,o)=p:=qoi e
  subst e'
  exact ⟨hb,q⟩
theorem Inv.pinned {pins:List (Addr × Obj)}{σ:St}{H:Hp}{s:Shared}{fp:List Addr}(I:Inv X pins σ H s) (hf:∀b∈fp,zfu X pins H b) (ho:∀b∈fp,∃o,s.heap.get? b=some o/\∀v,o.data≠.cell v):Inv X (pins++zjd fp s.heap) σ H s :=
 I.pins_of λp hp=>(List.mem_append.mp hp).elim (λz=>I.pin p (List.mem_append_right _ z)) λz=>by
  obtain ⟨hb,e⟩:=zxg z
  obtain ⟨f0,f1,f2,_⟩:=hf p.1 hb
  obtain ⟨o,e',d⟩:=ho p.1 hb
  rw [e] at e';cases e'
  exact ⟨e,f0,f1,f2,d⟩
theorem Inv.unpinned {pins pl:List (Addr × Obj)}{σ:St}{H:Hp}{s:Shared}(I:Inv X (pins++pl) σ H s):Inv X pins σ H s:=I.pins_of λp hp=>I.pin p (List.mem_append_right _ (List.mem_append_left _ hp))
theorem zpf {iter:Expr}{body:List Stmt}{wi:TI}{g:TG}{tb:TS}{pos:Pos}(hp:PassesOwn (model X.prog X.w) X.A X.env X.xe) (hc:X.calm=true) (hi:PI X tg iter wi) (hg:PG X tg g) (hb:PSs X body tb)
  (hs:∀x,foldedSetIterable iter X.env x=pure x:=by intro _;rfl):PS X (.For tg iter body [] pos) (zxf wi g tb):=by
 intro pins s σ H D I h
 refine wpAny_For (thn (hi pins s σ H _ I h) λv s1 h1=>thn h1 λitv s2 h2=>?_) hs
 obtain ⟨it,fp,tn,J,H2,e,I2,T,st2,f2,W,⟨m0,w0⟩,turn⟩:=h2
 subst e
 have stat:∀{H':Hp},(∀b∈fp,H' b=none)->∀b∈fp,zfu X pins H' b:=λhn b hb=>⟨hn b hb,(f2 b hb).2⟩
 refine codeAny_forLoop_any (λn s'=>∃i σ' H',Inv X pins σ' H' s'/\tn i s'.heap/\(∀b∈fp,H' b=none)/\W i n σ' H') ?_ m0 ⟨0,σ,H2,I2,st2,λb hb=>(f2 b hb).1,w0⟩
 rintro n s3 ⟨i,σ3,H3,I3,st3,fr3,w3⟩
 rcases turn i n σ3 H3 w3 with ⟨stop,qn⟩|⟨go,N,hN,step⟩
 ·refine wpAny_passesOwn hp (thn (T.done X rfl rfl rfl hc i pins s3 σ3 H3 X.xe I3 (stat fr3) st3 stop) λr s4 ⟨hr,I4⟩=>?_)
  subst hr
  exact wpAny_execs_nil ⟨σ3,H3,I4,qn⟩
 ·refine wpAny_passesOwn hp (thn (T.item X rfl rfl rfl hc i pins s3 σ3 H3 X.xe I3 (stat fr3) st3 go) λr s4 ⟨u,hr,h4⟩=>?_)
  subst hr
  refine wpAny_passesOwn hp (thn h4 λ_ s5 ⟨x,H5,I5,r5,y5,st5,fr5⟩=>?_)
  have I5':=I5.pinned (stat fr5) (T.obj _ _ st5)
  refine wpAny_passesOwn hp (thn (hg _ s5 σ3 H5 x u _ I5' r5 (step x H5 y5)) λ_ s6 ⟨σ6,H6,I6,q6⟩=>?_)
  refine wpAny_passesOwn hp (thn (hb _ s6 σ6 H6 _ I6 q6) λf s7 q7=>?_)
  have again:∀{σ7:St} {H7:Hp},Inv X (pins++zjd fp s5.heap) σ7 H7 s7->N σ7 H7->∃m,m<n/\∃i σ' H',Inv X pins σ' H' s7/\tn i s7.heap/\(∀b∈fp,H' b=none)/\W i m σ' H':=λ{σ7 H7} I7 n7=>by
   obtain ⟨m',hm,w7⟩:=hN σ7 H7 n7
   refine ⟨m',hm,i+1,σ7,H7,I7.unpinned,T.keep _ _ _ st5 λb hb o e=>(I7.pin (b,o) (List.mem_append_right _ (List.mem_append_right _ (zk1 hb e)))).1,λb hb=>?_,w7⟩
   obtain ⟨o,e,d⟩:=T.obj _ _ st5 b hb
   exact (I7.pin (b,o) (List.mem_append_right _ (List.mem_append_right _ (zk1 hb e)))).2.1
  cases f with
  | next=>obtain ⟨σ7,H7,I7,n7⟩:=q7;exact again I7 n7
  | cont=>obtain ⟨σ7,H7,I7,n7⟩:=q7;exact again I7 n7
  | brk=>obtain ⟨σ7,H7,I7,q7⟩:=q7;exact ⟨σ7,H7,I7.unpinned,q7⟩
  | ret v=>obtain ⟨x7,σ7,H7,I7,r7,q7⟩:=q7;exact ⟨x7,σ7,H7,I7.unpinned,r7,q7⟩
end
abbrev R2:=V->V->Hp->VK->Prop
def OpR (X:Cx) (f:Value->Value->Sem Value) (r:R2):Prop :=
 ∀(pins:List (Addr × Obj)) (s:Shared) (σ:St) (H:Hp) (x y:V) (v u:Value) (Q:VK),Inv X pins σ H s->RelV x v->RelV y u->r x y H Q ->
  wpAny (model X.prog X.w) X.A (f v u) (EP X pins σ Q) X.xe s
def CallR (X:Cx) (f:Value) (r:List V->Hp->VK->Prop):Prop :=
 ∀(pins:List (Addr × Obj)) (s:Shared) (σ:St) (H:Hp) (xs:List V) (us:List Value) (Q:VK),Inv X pins σ H s->Vals xs us->r xs H Q ->
  wpAny (model X.prog X.w) X.A (call f us) (EP X pins σ Q) X.xe s
def tOp (r:R2) (ta tb:TE):TE:=λσ H Q=>ta σ H λx H1=>tb σ H1 λy H2=>r x y H2 Q
def rI (C:Int->Int->Prop) (g:Int->Int->V):R2:=λx y H Q=>∃i j,x=.int i/\y=.int j/\C i j/\Q (g i j) H
def rI0 (g:Int->Int->V):R2:=λx y H Q=>∃i j,x=.int i/\y=.int j/\Q (g i j) H
section
variable {X:Cx}{a b c:Expr}{ta tb tc:TE}{pos:Pos}
theorem zmn (ha:PE X a ta) (hb:PE X b tb) {pins:List (Addr × Obj)}{s:Shared}{σ:St}{H:Hp}{R:V->V->Hp->Prop}(I:Inv X pins σ H s)
  (h:ta σ H λx H1=>tb σ H1 λy H2=>R x y H2) {Q:Value->Shared->Prop} {f:Value->Value->Sem Value}
  (hf:∀v u s2 x y H2,Inv X pins σ H2 s2->RelV x v->RelV y u->R x y H2->wpAny (model X.prog X.w) X.A (f v u) Q X.xe s2) :
  wpAny (model X.prog X.w) X.A (eval a X.env) (λv s₁=>wpAny (model X.prog X.w) X.A (eval b X.env) (λu s₂=>wpAny (model X.prog X.w) X.A (f v u) Q X.xe s₂) X.xe s₁) X.xe s:=by
 refine thn (ha pins s σ H _ I h) λv s1 ⟨x,H1,I1,r1,q1⟩=>?_
 refine thn (hb pins s1 σ H1 _ I1 q1) λu s2 ⟨y,H2,I2,r2,q2⟩=>?_
 exact hf v u s2 x y H2 I2 r1 r2 q2
theorem zxh {op:Operator}{r:R2}(ho:OpR X (binaryOp op) r) (ha:PE X a ta) (hb:PE X b tb):PE X (.BinOp a op b pos) (tOp r ta tb):=by
 intro pins s σ H Q I h
 exact wpAny_BinOp (zmn ha hb I h λv u s2 x y H2 I2 rx ry q=>ho pins s2 σ H2 x y v u Q I2 rx ry q)
theorem opI {f:Value->Value->Sem Value}{C:Int->Int->Prop}{g:Int->Int->Int}
  (rule:∀(i j:Int) (t u:Tok) (s:Shared) (Q:Value->Shared->Prop) (E:Value->Shared->Prop),C i j->Q (.int (g i j) s.toks) { s with toks:=s.toks+1 }->wpAny (model X.prog X.w) X.A (f (.int i t) (.int j u)) Q E s) :
  OpR X f (rI C λi j=>.int (g i j)):=by
 intro pins s σ H x y v u Q I rx ry h
 obtain ⟨i,j,rfl,rfl,hc,q⟩:=h
 obtain ⟨t,rfl⟩:=rx
 obtain ⟨t',rfl⟩:=ry
 exact rule i j t t' s _ _ hc ⟨.int (g i j),H,I.tok _,⟨_,rfl⟩,q⟩
theorem zpg {f:Value->Value->Sem Value}{g:Int->Int->Int}
  (rule:∀(i j:Int) (t u:Tok) (s:Shared) (Q:Value->Shared->Prop) (E:Value->Shared->Prop),Q (.int (g i j) s.toks) { s with toks:=s.toks+1 }->wpAny (model X.prog X.w) X.A (f (.int i t) (.int j u)) Q E s) :
  OpR X f (rI0 λi j=>.int (g i j)):=by
 intro pins s σ H x y v u Q I rx ry h
 obtain ⟨i,j,rfl,rfl,q⟩:=h
 obtain ⟨t,rfl⟩:=rx
 obtain ⟨t',rfl⟩:=ry
 exact rule i j t t' s _ _ ⟨.int (g i j),H,I.tok _,⟨_,rfl⟩,q⟩
theorem zk2 {f:Value->Value->Sem Value}{g:Int->Int->Bool}
  (rule:∀(i j:Int) (t u:Tok) (s:Shared) (Q:Value->Shared->Prop) (E:Value->Shared->Prop),Q (.bool (g i j)) s->wpAny (model X.prog X.w) X.A (f (.int i t) (.int j u)) Q E s) :
  OpR X f (rI0 λi j=>.bl (g i j)):=by
 intro pins s σ H x y v u Q I rx ry h
 obtain ⟨i,j,rfl,rfl,q⟩:=h
 obtain ⟨t,rfl⟩:=rx
 obtain ⟨t',rfl⟩:=ry
 exact rule i j t t' s _ _ ⟨.bl (g i j),H,I,rfl,q⟩
def zk3 (i j:Int):Prop:=0<j/\j<1073741824
def zk4 (i j:Int):Prop:=0<=j/\j<=1000000/\i.natAbs<2 ^ 64
def CMul (i j:Int):Prop:=(-(2 ^ 64)<i/\i<2 ^ 64)\/(-(2 ^ 64)<j/\j<2 ^ 64)
theorem CMul.ok {i j:Int}(h:CMul i j):IntMulOk i j:=by
 rcases h with ⟨h1,h2⟩|⟨h1,h2⟩
 ·exact .of_left (intBits_le_64 h1 h2)
 ·exact .of_right (intBits_le_64 h1 h2)
theorem op_add:OpR X (binaryOp .Add) (rI0 λi j=>.int (i+j)):=zpg λ_ _ _ _ _ _ _ q=>add_int q
theorem zxi:OpR X (binaryOp .Sub) (rI0 λi j=>.int (i-j)):=zpg λ_ _ _ _ _ _ _ q=>sub_int q
theorem op_mul:OpR X (binaryOp .Mult) (rI CMul λi j=>.int (i*j)):=opI λ_ _ _ _ _ _ _ hc q=>mul_int q hc.ok
theorem zxj:OpR X (binaryOp .FloorDiv) (rI zk3 λi j=>.int (i / j)):=opI λi j _ _ _ _ _ hc q=>by
 have h1:(0:Int)<j:=hc.1
 have h2:j<1073741824:=hc.2
 exact floordiv_int (by omega) (by rw [Int.fdiv_eq_ediv_of_nonneg i (by omega)];exact q) (.inl (PyProof.noPylong_small (by omega)))
theorem zxk:OpR X (binaryOp .Mod) (rI (λ_ j=>0<j) λi j=>.int (i % j)):=opI λi j _ _ _ _ _ hc q=>by
 have h1:(0:Int)<j:=hc
 exact mod_int' (by omega) (by rw [Int.fmod_eq_emod_of_nonneg i (by omega)];exact q)
theorem zxl:OpR X (binaryOp .Pow) (rI zk4 λi j=>.int (i ^ j.toNat)):=opI λ_ _ _ _ _ _ _ hc q=>pow_int_small hc.1 hc.2.1 hc.2.2 q
end
noncomputable def zmo:V->V->Bool
 | .non,.non=>true | .non,.int _=>true | .int _,.non=>true | .non,.bl _=>true | .bl _,.non=>true | .non,.str _=>true | .str _,.non=>true
 | .int _,.int _=>true | .bl _,.bl _=>true | .str _,.str _=>true | .byt _,.byt _=>true
 | .int _,.str _=>true | .str _,.int _=>true | .bl _,.str _=>true | .str _,.bl _=>true
 | _,_=>false
def rEq:R2:=λx y H Q=>zmo x y=true/\Q (.bl (decide (x=y))) H
def rNe:R2:=λx y H Q=>zmo x y=true/\Q (.bl (!decide (x=y))) H
theorem zph {i j:Int}:decide (V.int i=V.int j)=(i == j):=by
 rw [Bool.eq_iff_iff]
 simp
theorem zpi {i j:Bool}:decide (V.bl i=V.bl j)=(i == j):=by
 rw [Bool.eq_iff_iff]
 simp
theorem zpj {i j:Str}:decide (V.str i=V.str j)=(i == j):=by
 rw [Bool.eq_iff_iff]
 simp
theorem zpk {i j:Array UInt8}:decide (V.byt i=V.byt j)=(i.toList == j.toList):=by
 rw [Bool.eq_iff_iff]
 cases i
 cases j
 simp
section
variable {X:Cx}{a b c:Expr}{ta tb tc:TE}{pos:Pos}
theorem zde {pins:List (Addr × Obj)}{σ:St}{H:Hp}{s:Shared}{Q:VK}{k k':Bool}(I:Inv X pins σ H s) (q:Q (.bl k) H) (e:k=k'):EP X pins σ Q (.bool k') s:=by
 subst e
 exact ⟨.bl k,H,I,rfl,q⟩
theorem zxm:OpR X (compareOp .Eq) rEq:=by
 intro pins s σ H x y v u Q I rx ry h
 obtain ⟨hs,q⟩:=h
 cases x with
 | non =>
  cases rx
  cases y with
  | non=>cases ry;exact PySem.EqNone.eq_none_none (zde I q (by simp))
  | bl j=>cases ry;exact PySem.EqNone.eq_none_bool (zde I q (by simp))
  | int j=>obtain ⟨t',rfl⟩:=ry;exact PySem.EqNone.eq_none_int (zde I q (by simp))
  | str j=>obtain ⟨t',rfl⟩:=ry;exact PySem.EqNone.eq_none_str (zde I q (by simp))
  | _=>exact absurd (show false=true from hs) Bool.false_ne_true
 | bl i =>
  cases rx
  cases y with
  | non=>cases ry;exact PySem.EqNone.eq_bool_none (zde I q (by simp))
  | bl j=>cases ry;exact eq_bool (zde I q zpi)
  | str j=>obtain ⟨t',rfl⟩:=ry;exact PySem.EqMixed.eq_bool_str (zde I q (by simp))
  | _=>exact absurd (show false=true from hs) Bool.false_ne_true
 | int i =>
  obtain ⟨t,rfl⟩:=rx
  cases y with
  | non=>cases ry;exact PySem.EqNone.eq_int_none (zde I q (by simp))
  | int j=>obtain ⟨t',rfl⟩:=ry;exact eq_int (zde I q zph)
  | str j=>obtain ⟨t',rfl⟩:=ry;exact PySem.EqMixed.eq_int_str (zde I q (by simp))
  | _=>exact absurd (show false=true from hs) Bool.false_ne_true
 | str i =>
  obtain ⟨t,rfl⟩:=rx
  cases y with
  | non=>cases ry;exact PySem.EqNone.eq_str_none (zde I q (by simp))
  | bl j=>cases ry;exact PySem.EqMixed.eq_str_bool (zde I q (by simp))
  | int j=>obtain ⟨t',rfl⟩:=ry;exact PySem.EqMixed.eq_str_int (zde I q (by simp))
  | str j=>obtain ⟨t',rfl⟩:=ry;exact eq_str (zde I q zpj)
  | _=>exact absurd (show false=true from hs) Bool.false_ne_true
 | byt i =>
  obtain ⟨t,rfl⟩:=rx
  cases y with
  | byt j=>obtain ⟨t',rfl⟩:=ry;exact PySem.W.eq_bytes (zde I q zpk)
  | _=>exact absurd (show false=true from hs) Bool.false_ne_true
 | _=>cases y <;> exact absurd (show false=true from hs) Bool.false_ne_true
theorem zxn:OpR X (compareOp .NotEq) rNe:=by
 intro pins s σ H x y v u Q I rx ry h
 obtain ⟨hs,q⟩:=h
 cases x with
 | non =>
  cases rx
  cases y with
  | non=>cases ry;exact PySem.EqNone.ne_none_none (zde I q (by simp))
  | bl j=>cases ry;exact PySem.EqNone.ne_none_bool (zde I q (by simp))
  | int j=>obtain ⟨t',rfl⟩:=ry;exact PySem.EqNone.ne_none_int (zde I q (by simp))
  | str j=>obtain ⟨t',rfl⟩:=ry;exact PySem.EqNone.ne_none_str (zde I q (by simp))
  | _=>exact absurd (show false=true from hs) Bool.false_ne_true
 | bl i =>
  cases rx
  cases y with
  | non=>cases ry;exact PySem.EqNone.ne_bool_none (zde I q (by simp))
  | bl j=>cases ry;exact ne_bool (zde I q (congrArg not zpi))
  | str j=>obtain ⟨t',rfl⟩:=ry;exact PySem.EqMixed.ne_bool_str (zde I q (by simp))
  | _=>exact absurd (show false=true from hs) Bool.false_ne_true
 | int i =>
  obtain ⟨t,rfl⟩:=rx
  cases y with
  | non=>cases ry;exact PySem.EqNone.ne_int_none (zde I q (by simp))
  | int j=>obtain ⟨t',rfl⟩:=ry;exact ne_int (zde I q (congrArg not zph))
  | str j=>obtain ⟨t',rfl⟩:=ry;exact PySem.EqMixed.ne_int_str (zde I q (by simp))
  | _=>exact absurd (show false=true from hs) Bool.false_ne_true
 | str i =>
  obtain ⟨t,rfl⟩:=rx
  cases y with
  | non=>cases ry;exact PySem.EqNone.ne_str_none (zde I q (by simp))
  | bl j=>cases ry;exact PySem.EqMixed.ne_str_bool (zde I q (by simp))
  | int j=>obtain ⟨t',rfl⟩:=ry;exact PySem.EqMixed.ne_str_int (zde I q (by simp))
  | str j=>obtain ⟨t',rfl⟩:=ry;exact ne_str (zde I q (congrArg not zpj))
  | _=>exact absurd (show false=true from hs) Bool.false_ne_true
 | byt i =>
  obtain ⟨t,rfl⟩:=rx
  cases y with
  | byt j=>obtain ⟨t',rfl⟩:=ry;exact PySem.W.ne_bytes (zde I q (congrArg not zpk))
  | _=>exact absurd (show false=true from hs) Bool.false_ne_true
 | _=>cases y <;> exact absurd (show false=true from hs) Bool.false_ne_true
theorem zmp:OpR X (compareOp .Lt) (rI0 λi j=>.bl (decide (i<j))):=zk2 λ_ _ _ _ _ _ _ q=>lt_int q
theorem zmq:OpR X (compareOp .LtE) (rI0 λi j=>.bl (decide (i<=j))):=zk2 λ_ _ _ _ _ _ _ q=>le_int q
theorem zxo:OpR X (compareOp .Gt) (rI0 λi j=>.bl (decide (j<i))):=zk2 λ_ _ _ _ _ _ _ q=>gt_int q
theorem zxp:OpR X (compareOp .GtE) (rI0 λi j=>.bl (decide (j<=i))):=zk2 λ_ _ _ _ _ _ _ q=>ge_int q
theorem zpl:OpR X (compareOp .Is) (λx y H Q=>y=.non/\Q (.bl (decide (x=.non))) H):=by
 intro pins s σ H x y v u Q I rx ry h
 obtain ⟨rfl,q⟩:=h
 cases ry
 refine is_none_gen (zde I q ?_)
 cases x <;> first
  | (cases rx;rfl)
  | (obtain ⟨t,rfl⟩:=rx;rfl)
theorem zxq:OpR X (compareOp .IsNot) (λx y H Q=>y=.non/\Q (.bl (!decide (x=.non))) H):=by
 intro pins s σ H x y v u Q I rx ry h
 obtain ⟨rfl,q⟩:=h
 cases ry
 refine isnot_none_gen (zde I q ?_)
 cases x <;> first
  | (cases rx;rfl)
  | (obtain ⟨t,rfl⟩:=rx;rfl)
theorem zxr:OpR X (compareOp .NotIn) (λx y H Q=>∃i j,x=.str i/\y=.str j/\Q (.bl (!(!(Builtin.Str.occurrences j i 0 j.length 1).isEmpty))) H):=by
 intro pins s σ H x y v u Q I rx ry h
 obtain ⟨i,j,rfl,rfl,q⟩:=h
 obtain ⟨t,rfl⟩:=rx
 obtain ⟨t',rfl⟩:=ry
 exact notIn_str (zde I q rfl)
theorem OpR.or {f:Value->Value->Sem Value}{r r':R2}(h:OpR X f r) (h':OpR X f r'):OpR X f (λx y H Q=>r x y H Q\/r' x y H Q):=by
 intro pins s σ H x y v u Q I rx ry q
 rcases q with q|q
 ·exact h pins s σ H x y v u Q I rx ry q
 ·exact h' pins s σ H x y v u Q I rx ry q
theorem zfa (b:Expr) {op:CmpOp}(h:op≠.In:=by decide) (h2:op≠.NotIn:=by decide):behindInMarks op b=false:=by
 have e1:(op == CmpOp.In)=false:=by cases op <;> first|rfl|exact absurd rfl h
 have e2:(op == CmpOp.NotIn)=false:=by cases op <;> first|rfl|exact absurd rfl h2
 cases b <;> simp [behindInMarks,e1,e2]
theorem zxs {op:CmpOp}{r:R2}(ho:OpR X (compareOp op) r) (ha:PE X a ta) (hb:PE X b tb) (hm:behindInMarks op b=false):PE X (.Compare a [op] [b] pos) (tOp r ta tb):=by
 intro pins s σ H Q I h
 exact wpAny_Compare1 (zmn ha hb I h λv u s2 x y H2 I2 rx ry q=>ho pins s2 σ H2 x y v u Q I2 rx ry q) hm
def zpm (t:TE):TT:=λσ H Q=>t σ H λx H'=>∃k,x=.bl k/\Q k H'
theorem zxt {op:CmpOp}{r:R2}(ho:OpR X (compareOp op) r) (ha:PE X a ta) (hb:PE X b tb) (hm:behindInMarks op b=false):PT X (.Compare a [op] [b] pos) (zpm (tOp r ta tb)):=by
 intro pins s σ H Q I h
 refine wpAny_isTrue_Compare1 (thn (ha pins s σ H _ I h) λv s1 ⟨x,H1,I1,r1,q1⟩=>thn (hb pins s1 σ H1 _ I1 q1) λu s2 ⟨y,H2,I2,r2,q2⟩ =>
  thn (ho pins s2 σ H2 x y v u _ I2 r1 r2 q2) λc s3 ⟨z,H3,I3,r3,k,e,q3⟩=>?_) hm
 subst e
 cases r3
 exact wpAny_truthy_bool ⟨H3,I3,q3⟩
def zmr (r r':R2) (ta tb tc:TE):TE:=λσ H Q=>ta σ H λx H1=>tb σ H1 λy H2=>r x y H2 λz H3=>∃k,z=.bl k /\
 (if k=true then tc σ H3 λw' H4=>r' y w' H4 Q else Q (.bl false) H3)
theorem zxu {op op':CmpOp}{r r':R2}(ho:OpR X (compareOp op) r) (ho':OpR X (compareOp op') r') (ha:PE X a ta) (hb:PE X b tb) (hc:PE X c tc)
  (hm:lastMarks [op,op'] [b,c]=false:=by with_unfolding_all rfl):PE X (.Compare a [op,op'] [b,c] pos) (zmr r r' ta tb tc):=by
 intro pins s σ H Q I h
 refine Compare_chain (thn (ha pins s σ H _ I h) λv s1 ⟨x,H1,I1,r1,q1⟩=>chain_link (thn (hb pins s1 σ H1 _ I1 q1) λu s2 ⟨y,H2,I2,r2,q2⟩ =>
  thn (ho pins s2 σ H2 x y v u _ I2 r1 r2 q2) λd s3 ⟨z,H3,I3,r3,k,e,q3⟩=>?_)) hm
 subst e
 cases r3
 refine wpAny_truthy_bool ?_
 cases k with
 | false=>exact ite_ff ⟨.bl false,H3,I3,rfl,q3⟩
 | true=>exact ite_tt (chain_last (thn (hc pins s3 σ H3 _ I3 q3) λw' s4 ⟨z',H4,I4,r4,q4⟩=>ho' pins s4 σ H4 y z' u w' Q I4 r2 r4 q4))
theorem zxv {op op':CmpOp}{r r':R2}(ho:OpR X (compareOp op) r) (ho':OpR X (compareOp op') r') (ha:PE X a ta) (hb:PE X b tb) (hc:PE X c tc)
  (hm:lastMarks [op,op'] [b,c]=false:=by with_unfolding_all rfl):PT X (.Compare a [op,op'] [b,c] pos) (zpm (zmr r r' ta tb tc)):=by
 intro pins s σ H Q I h
 refine isTrue_chain (thn (ha pins s σ H _ I h) λv s1 ⟨x,H1,I1,r1,q1⟩=>test_link (thn (hb pins s1 σ H1 _ I1 q1) λu s2 ⟨y,H2,I2,r2,q2⟩ =>
  thn (ho pins s2 σ H2 x y v u _ I2 r1 r2 q2) λd s3 ⟨z,H3,I3,r3,k,e,q3⟩=>?_)) hm
 subst e
 cases r3
 refine wpAny_truthy_bool ?_
 cases k with
 | false =>
  obtain ⟨k',e',q'⟩:=q3
  cases e'
  exact ite_ff ⟨H3,I3,q'⟩
 | true =>
  refine ite_tt (test_last (thn (hc pins s3 σ H3 _ I3 q3) λw' s4 ⟨z',H4,I4,r4,q4⟩=>thn (ho' pins s4 σ H4 y z' u w' _ I4 r2 r4 q4) λd' s5 ⟨z2,H5,I5,r5,k2,e2,q5⟩=>?_))
  subst e2
  cases r5
  exact wpAny_truthy_bool ⟨H5,I5,q5⟩
theorem zij:(sizeLine:Nat)<2 ^ 63:=by rw [sizeLine_eq];decide
theorem op_add_str:OpR X (binaryOp .Add) (λx y H Q=>∃i j,x=.str i/\y=.str j/\i.length+j.length<=sizeLine/\Q (.str (i++j)) H):=by
 intro pins s σ H x y v u Q I rx ry h
 obtain ⟨i,j,rfl,rfl,hz,q⟩:=h
 obtain ⟨t,rfl⟩:=rx
 obtain ⟨t',rfl⟩:=ry
 exact add_str (λt' tk=>⟨.str (i++j),H,I.tok _,⟨_,rfl⟩,q⟩) hz
theorem zg6 {x:V}{us:List Value}(r:Vals [x] us):∃u,us=[u]/\RelV x u:=by
 cases r with
 | cons r1 r2=>cases r2;exact ⟨_,rfl,r1⟩
theorem zpn {x y:V}{us:List Value}(r:Vals [x,y] us):∃u w',us=[u,w']/\RelV x u/\RelV y w':=by
 cases r with
 | cons r1 r2 =>
  cases r2 with
  | cons r3 r4=>cases r4;exact ⟨_,_,rfl,r1,r3⟩
theorem zxw (hc:X.calm=true):CallR X (.builtin "max") (λxs H Q=>∃i j,xs=[.int i,.int j]/\Q (.int (if j > i then j else i)) H):=by
 intro pins s σ H xs us Q I r h
 obtain ⟨i,j,rfl,q⟩:=h
 obtain ⟨u,w',rfl,⟨t,rfl⟩,⟨t',rfl⟩⟩:=zpn r
 refine max_two_ints (I.ok.hd hc) λh' tk k=>⟨_,H,I.kept k,?_,q⟩
 by_cases hj:j > i
 ·rw [if_pos hj,if_pos hj];exact ⟨_,rfl⟩
 ·rw [if_neg hj,if_neg hj];exact ⟨_,rfl⟩
theorem zxx (hc:X.calm=true):CallR X (.builtin "min") (λxs H Q=>∃i j,xs=[.int i,.int j]/\Q (.int (if j<i then j else i)) H):=by
 intro pins s σ H xs us Q I r h
 obtain ⟨i,j,rfl,q⟩:=h
 obtain ⟨u,w',rfl,⟨t,rfl⟩,⟨t',rfl⟩⟩:=zpn r
 refine min_two_ints (I.ok.hd hc) λh' tk k=>⟨_,H,I.kept k,?_,q⟩
 by_cases hj:j<i
 ·rw [if_pos hj,if_pos hj];exact ⟨_,rfl⟩
 ·rw [if_neg hj,if_neg hj];exact ⟨_,rfl⟩
theorem zxy:CallR X (.type "int") (λxs H Q=>(∃i,xs=[.int i]/\Q (.int i) H)\/∃k,xs=[.bl k]/\Q (.int (if k then 1 else 0)) H):=by
 intro pins s σ H xs us Q I r h
 rcases h with ⟨i,rfl,q⟩|⟨k,rfl,q⟩
 ·obtain ⟨u,rfl,t,rfl⟩:=zg6 r
  exact call_int_int ⟨.int i,H,I,⟨_,rfl⟩,q⟩
 ·obtain ⟨u,rfl,r1⟩:=zg6 r
  cases r1
  exact call_int_bool ⟨.int (if k then 1 else 0),H,I.tok _,⟨_,rfl⟩,q⟩
theorem zxz:CallR X (.type "str") (λxs H Q=>∃i,xs=[.int i]/\i.natAbs.log2<1920/\Q (.str (toString i)) H):=by
 intro pins s σ H xs us Q I r h
 obtain ⟨i,rfl,hz,q⟩:=h
 obtain ⟨u,rfl,t,rfl⟩:=zg6 r
 exact PySem.P.str_of_int hz ⟨.str _,H,I.tok _,⟨_,rfl⟩,q⟩
end
structure ObjM (h:Heap) (x dx C:Addr) (mA:Str->Option Value):Prop where
 obj:h.get? x=some (PySem.W.instObj C dx)
 ns:h.Ns1 dx mA
 ne:dx≠x
theorem zx0 {h:Heap}{dx:Addr}{mA:Str->Option Value}(n:h.Ns1 dx mA):∃od,h.get? dx=some od/\∀name,PySem.W.lookIn name od=some (mA name):=by
 obtain ⟨o,es,ep,ho,hd,hk,_,hm⟩:=n
 refine ⟨o,ho,λname=>?_⟩
 have e:=hm name
 unfold nsFind findBy at e
 rw [<-Array.find?_toList] at e
 unfold PySem.W.lookIn
 rw [hd]
 dsimp only
 split
 ·rename_i y q
  rw [q] at e
  exact congrArg some e
 ·rename_i q
  rw [q] at e
  have a:es.toList.any (·.refKey)=false:=by
   rw [List.any_eq_false]
   intro y hy
   obtain ⟨z,t,hkey⟩:=hk y (Array.mem_toList_iff.mp hy)
   simp [DictEntry.refKey,hkey]
  have a':¬es.toList.any (·.refKey)=true:=by rw [a];exact Bool.false_ne_true
  rw [if_neg a']
  exact congrArg some e
theorem ObjM.look {h:Heap}{x dx C:Addr}{mA:Str->Option Value}(I:ObjM h x dx C mA):∃od,PySem.W.InstAt h x (PySem.W.instObj C dx) C (some od)/\∀name,PySem.W.lookIn name od=some (mA name) :=
 let ⟨od,ho,hl⟩:=zx0 I.ns
 ⟨od,⟨I.obj,rfl,rfl,ho⟩,hl⟩
section
variable {prog:Program}{w:World}{A:Around}{E:Value->Shared->Prop}{s:Shared}{K:QFg}{x dx C f:Addr}{mA:Str->Option Value}{name:Str}{v:Value}
end
section
variable {P:Program}{w:World}{H H':Hp}{h h':Heap}{a C dx:Addr}{fs fs':List (Str × V)}
theorem zx1 (hok:HOk P w H h) (e:H a=some (.ins C dx fs)):∃mA,ObjM h a dx C mA/\(∀f,zmi (fs.lookup f) (mA f))/\PySem.Within mA (fs.map (·.1))/\fs.length<=1000/\H dx=some (.own a):=by
 obtain ⟨d,z,ne,ob,mA,n,r,q⟩:=(show ObjOk P w H h a (.ins C dx fs) from hok a _ e)
 exact ⟨mA,⟨ob,n,ne⟩,r,q,z,d⟩
end
structure Cls (K:QFg) (C:Addr):Prop where
 pg:PySem.W.plainGet K C Str.empty=true
 hd:PySem.W.hasDictIn K C=true
 po:PySem.W.plainOver K C=true
 sa:PySem.W.findIn K (.ref C) "__setattr__" = some (some (.builtin "object.__setattr__"))
theorem Cls.get {K:QFg}{C:Addr}(c:Cls K C) (f:Str):PySem.W.plainGet K C f=true:=c.pg
section
variable {X:Cx}{pins:List (Addr × Obj)}{σ:St}{H:Hp}{s:Shared}{a C dx:Addr}{fs:List (Str × V)}{f:Str}{v:V}{A:Around}{E:Value->Shared->Prop}
end
section
variable {X:Cx}{o e value:Expr}{f:Str}{pos pos' tpos:Pos}{ta tv:TE}
end
section
variable {X:Cx}{pins:List (Addr × Obj)}{σ:St}{H:Hp}{s:Shared}{A:Around}{E:Value->Shared->Prop}{Q:Value->Shared->Prop}{c:Value}{b:Bool}
inductive TyOf (K:QFg) (H:Hp):V->Value->Prop where
 | non:TyOf K H .non (.type "NoneType")
 | bl (x:Bool):TyOf K H (.bl x) (.type "bool")
 | int (i:Int):TyOf K H (.int i) (.type "int")
 | str (x:Str):TyOf K H (.str x) (.type "str")
 | flt (x:UInt64):TyOf K H (.flt x) (.type "float")
 | lst {a:Addr} {xs:List V} (e:H a=some (.lst xs)):TyOf K H (.ref a) (.type "list")
 | frz {a:Addr} {o:Obj} {xs:List V} (e:H a=some (.frz o (.lst xs))):TyOf K H (.ref a) (.type "list")
 | tup {a:Addr} {xs:List V} (e:H a=some (.tup xs)):TyOf K H (.ref a) (.type "tuple")
 | dK {a:Addr} {kvs:List (Key × V)} (e:H a=some (.dK kvs)):TyOf K H (.ref a) (.type "dict")
 | dT {a:Addr} {kvs:List (List Key × V)} (e:H a=some (.dT kvs)):TyOf K H (.ref a) (.type "dict")
 | ins {a C dx:Addr} {fs:List (Str × V)} (e:H a=some (.ins C dx fs)) (cl:Cls K C) (ha:PySem.W.findIn K (.ref C) "__class__" = some (some (.builtin "object.__class__")))
   (hn:PySem.W.specialIn K (.builtin "object.__class__") "__get__" = some (some (.builtin "getset_descriptor.__get__"))) (htk:PySem.W.takesIn K (.builtin "object.__class__")=some true)
   (hm:PySem.W.mroIn K C (.type "object")=some true):TyOf K H (.ref a) (.ref C)
theorem zx2 {x:V}{u t:Value}(I:Inv X pins σ H s) (rx:RelV x u) (ty:TyOf X.K H x t) (e:PySem.W.kitOne X.K t c=some b) (h:∀tk,Q (.bool b) { s with toks:=tk }) :
  wpAny (model X.prog X.w) A (call (.builtin "isinstance") [u,c]) Q E s:=by
 cases ty with
 | non=>cases (show u=Value.none from rx);exact PySem.W.kia_one PySem.W.kitx_none I.kIn True.intro e (λz=>nomatch z) h
 | bl y=>cases (show u=Value.bool y from rx);exact PySem.W.kia_one PySem.W.kitx_bool I.kIn True.intro e (λz=>nomatch z) h
 | int i=>obtain ⟨t,q⟩:=(show ∃t,u=Value.int i t from rx);cases q;exact PySem.W.kia_one PySem.W.kitx_int I.kIn True.intro e (λz=>nomatch z) h
 | str y=>obtain ⟨t,q⟩:=(show ∃t,u=Value.str y t from rx);cases q;exact PySem.W.kia_one PySem.W.kitx_str I.kIn True.intro e (λz=>nomatch z) h
 | flt y=>obtain ⟨t,q⟩:=(show ∃t,u=Value.float y t from rx);cases q;exact PySem.W.kia_one PySem.W.kitx_float I.kIn True.intro e (λz=>nomatch z) h
 | @lst a xs ea =>
  cases (show u=Value.ref a from rx)
  obtain ⟨_,_,n,_,h1⟩:=(show ObjOk X.prog X.w H s.heap a (.lst xs) from I.hok a _ ea)
  exact PySem.W.kia_one PySem.W.kitx_list I.kIn ⟨_,h1,rfl⟩ e (λz=>nomatch z) h
 | @frz a ob xs ea =>
  cases (show u=Value.ref a from rx)
  obtain ⟨_,_,_,n,_,h1⟩:=(show ObjOk X.prog X.w H s.heap a (.frz ob (.lst xs)) from I.hok a _ ea)
  exact PySem.W.kia_one PySem.W.kitx_list I.kIn ⟨_,h1,rfl⟩ e (λz=>nomatch z) h
 | @tup a xs ea =>
  cases (show u=Value.ref a from rx)
  obtain ⟨_,_,_,p⟩:=(show ObjOk X.prog X.w H s.heap a (.tup xs) from I.hok a _ ea)
  obtain ⟨o,h1,h2,_⟩:=p
  exact PySem.W.kia_one PySem.W.kitx_tuple I.kIn ⟨o,h1,h2⟩ e (λz=>nomatch z) h
 | @dK a kvs ea =>
  cases (show u=Value.ref a from rx)
  obtain ⟨_,_,vs,_,p⟩:=(show ObjOk X.prog X.w H s.heap a (.dK kvs) from I.hok a _ ea)
  obtain ⟨o,es,ep,h1,h2,_⟩:=p
  exact PySem.W.kia_one PySem.W.kitx_dict I.kIn ⟨o,h1,h2.1⟩ e (λz=>nomatch z) h
 | @dT a kvs ea =>
  cases (show u=Value.ref a from rx)
  obtain ⟨_,_,xs,_,o,es,ep,h1,h2,_⟩:=(show ObjOk X.prog X.w H s.heap a (.dT kvs) from I.hok a _ ea)
  exact PySem.W.kia_one PySem.W.kitx_dict I.kIn ⟨o,h1,h2.1⟩ e (λz=>nomatch z) h
 | @ins a C dx fs ea cl ha hn htk hm =>
  cases (show u=Value.ref a from rx)
  obtain ⟨mA,O,_⟩:=zx1 I.hok ea
  obtain ⟨od,J,_⟩:=O.look
  exact PySem.W.kia_one (PySem.W.kitx_own (cl.get _) cl.hd ha hn htk hm) I.kIn J e (λz=>nomatch z) h
end
structure Room (k:Nat) (A:Around):Prop where
 hd:A.handled=none
 dp:A.depth+3*k+5<recursionLimit
 un:A.units+16*k+200<cLine
 gd:A.guards=some []
theorem Room.mono {j k:Nat}{A:Around}(r:Room k A) (h:j<=k):Room j A:=⟨r.hd,by have:=r.dp;omega,by have:=r.un;omega,r.gd⟩
theorem Room.deeper {k:Nat}{A:Around}(r:Room (k+1) A) (env:Env):Room k (A.deeper env) :=
 ⟨r.hd,by have:=r.dp;show A.depth+1+3*k+5<_;omega,by have:=r.un;show A.units+3+16*k+200<_;omega,r.gd⟩
theorem Room.depth {k:Nat}{A:Around}(r:Room k A):A.depth<recursionLimit:=by have:=r.dp;omega
def zpo:TA:=λ_ H Q=>Q [] H
def zx3 (ta:TE) (tr:TA):TA:=λσ H Q=>ta σ H λx H1=>tr σ H1 λxs H2=>Q (x :: xs) H2
section
variable {X:Cx}{e:Expr}{es:List Expr}{te:TE}{t:TA}{pos:Pos}
theorem zhz:PA X [] zpo:=λ_ _ _ _ H Q I h=>Calls.spliced_nil ⟨[],H,I,.nil,h⟩
theorem zfk (ha:PE X e te) (hr:PA X es t) (hs:starEach (e :: es) X.env=(false,eval e X.env) :: starEach es X.env:=by rfl):PA X (e :: es) (zx3 te t):=by
 intro pos pins s σ H Q I h
 rw [hs]
 show wpAny _ _ (spliced ((false,eval e X.env) :: backTo pos (starEach es X.env))) _ _ s
 refine Calls.spliced_cons (thn (ha pins s σ H _ I h) λu s1 ⟨x,H1,I1,r1,q1⟩=>?_)
 exact thn (hr pos pins s1 σ H1 _ I1 q1) λus s2 ⟨xs,H2,I2,r2,q2⟩=>⟨x :: xs,H2,I2,.cons r1 r2,q2⟩
def zx4 (t:TA):TE:=λσ H Q=>t σ H λxs H1=>xs.length<=sizeLine/\∀p,H1 p=none->Q (.ref p) (upd H1 p (.tup xs))
def zx5 (t:TA):TE:=λσ H Q=>t σ H λxs H1=>xs.length<=sizeLine/\∀p,H1 p=none->Q (.ref p) (upd H1 p (.lst xs))
theorem zms {x1}(h:PA X es t):PE X (.Tuple es x1 pos) (zx4 t):=by
 intro pins s σ H Q I hq
 refine wpAny_Tuple_spliced (thn (h pos pins s σ H _ I hq) λus s1 ⟨xs,H1,I1,r,z,q⟩=>⟨by rw [<-r.length];exact z,?_⟩)
 have hf:H1 s1.heap.objs.size=none:=I1.hok.fresh (qlr _)
 refine ⟨.ref s1.heap.objs.size,upd H1 s1.heap.objs.size (.tup xs),I1.laid (t':=s1.toks) (λb u e=>qps _ e) (qlr _) ?_,rfl,q _ hf⟩
 exact ⟨z,us,r,IsTD.new _ _⟩
theorem zx6 (h:PA X es t):PE X (.List es pos) (zx5 t):=by
 intro pins s σ H Q I hq
 refine wpAny_List_spliced (thn (h pos pins s σ H _ I hq) λus s1 ⟨xs,H1,I1,r,z,q⟩=>⟨by rw [<-r.length];exact z,?_⟩)
 have hf:H1 s1.heap.objs.size=none:=I1.hok.fresh (qlr _)
 refine ⟨.ref s1.heap.objs.size,upd H1 s1.heap.objs.size (.lst xs),I1.laid (t':=s1.toks) (λb u e=>qps _ e) (qlr _) ?_,rfl,q _ hf⟩
 exact ⟨z,us,0,r,Heap.get?_push_size _ rfl⟩
end
abbrev Sp:=List V->Hp->VK->XK->Prop
abbrev CXT:=List Env->Hp->Shared->XK->Value->Shared->Prop
structure Env0 (P:Program) (w:World) (K:QFg) (mg:Str->Option Value) (base:Heap) (A:Around) (outer:List Env) (s:Shared) (H:Hp):Prop where
 frames:A.frames=some outer
 mod:Mod K mg base
 bs:∀b o,base.get? b=some o->s.heap.get? b=some o/\H b=none
 bsz:base.objs.size<=s.heap.objs.size
 funs:s.heap.FunFrames base outer
 frf:∀b∈frs outer,H b=none
 hok:HOk P w H s.heap
 bare:AllBare s.gens
def CE (outer:List Env) (P:Program) (w:World) (H:Hp) (s:Shared) (Q:VK) (u:Value) (s':Shared):Prop :=
 ∃v H',s'.os=s.os/\AllBare s'.gens/\Un (frs outer) [] H H' s.heap s'.heap/\HOk P w H' s'.heap/\RelV v u/\Q v H'
def CR (CX:CXT) (outer:List Env) (P:Program) (w:World) (H:Hp) (s:Shared) (Q:VK) (E:XK) (r:Result) (s':Shared):Prop :=
 match r with
 | .ok (.ret u)=>CE outer P w H s Q u s'
 | .ok _=>False
 | .error e=>CX outer H s E e s'
structure FnOk (P:Program) (w:World) (K:QFg) (mg:Str->Option Value) (base:Heap) (CX:CXT) (k:Nat) (f:Addr) (fd:FuncData) (ps:List Str) (sp:Sp):Prop where
 len:∀vs H Q E,sp vs H Q E->vs.length=ps.length
 run:∀(A:Around) (outer:List Env) (s:Shared) (H:Hp) (args:Args) (us:List Value) (vs:List V) (Q:VK) (E:XK),Room k A->Env0 P w K mg base A outer s H->BindsTo s fd args (ps.zip us)->Vals vs us->sp vs H Q E ->
  codeAny (model P w) A (.call (.ref f) args) (CR CX outer P w H s Q E) s
section
variable {X:Cx}{pins:List (Addr × Obj)}{σ:St}{H:Hp}{s s':Shared}
theorem Inv.env0 (I:Inv X pins σ H s):Env0 X.prog X.w X.K X.mg X.base X.A X.stack s H :=
 ⟨I.ok.frames,I.ok.mod,I.bs,Nat.le_trans I.ok.bsz I.sz,I.stack,I.stkFree,I.hok,I.bare⟩
theorem Inv.after {Q:VK}{u:Value}(I:Inv X pins σ H s) (h:CE X.stack X.prog X.w H s Q u s'):EP X pins σ Q u s':=by
 obtain ⟨v,H',os,bare,un,hok,r,q⟩:=h
 obtain ⟨hh,g,d,t,os'⟩:=s'
 obtain rfl:os' = s.os:=os
 exact ⟨v,H',I.call (h':=hh) (g':=g) (d':=d) (t':=t) (ch:=[]) un hok bare (λb z=>absurd z (by simp)),r,q⟩
end
def zpp (sp:Sp) (dvs:List V) (E:XK) (t:TA):TE:=λσ H Q=>t σ H λvs H1=>sp (vs++dvs) H1 Q E
def Binds (K:QFg) (fd:FuncData) (ps:List Str) (ds:List Value):Prop :=
 ∀(s:Shared) (us:List Value),K.In s.heap->(us++ds).length=ps.length->BindsTo s fd ⟨us,[]⟩ (ps.zip (us++ds))
theorem Binds.all {K:QFg}{fd:FuncData}{ps:List Str}(h:∀us:List Value,us.length=ps.length->bindArgs fd ⟨us,[]⟩=pure (ps.zip us)):Binds K fd ps []:=λs us _ hl=>by
 rw [List.append_nil] at hl ⊢
 exact .of_eq (h us hl)
def zh0 (CX:CXT) (X:Cx) (E:XK):Prop:=∀(pins:List (Addr × Obj)) (σ:St) (H:Hp) (s:Shared) (e:Value) (s':Shared),Inv X pins σ H s->CX X.stack H s E e s'->X.xe e s'
section
variable {X:Cx}{CX:CXT}{k:Nat}{f C:Addr}{fd:FuncData}{ps:List Str}{sp:Sp}{dvs:List V}{ds:List Value}{E:XK}{x m:Str}{p pos apos:Pos}{e o:Expr}{es:List Expr}{ta:TE}{t:TA}
theorem zpq {pins:List (Addr × Obj)}{σ:St}{H:Hp}{s:Shared}{Q:VK}{us:List Value}{vs:List V}(F:FnOk X.prog X.w X.K X.mg X.base CX k f fd ps sp) (hr:Room k X.A) (hb:Binds X.K fd ps ds) (hd:Vals dvs ds) (hx:zh0 CX X E)
  (I:Inv X pins σ H s) (r:Vals vs us) (h:sp (vs++dvs) H Q E):wpAny (model X.prog X.w) X.A (call (.ref f) us) (EP X pins σ Q) X.xe s:=by
 have r2:Vals (vs++dvs) (us++ds):=r.append hd
 have hl:(us++ds).length=ps.length:=by rw [<-r2.length];exact F.len _ _ _ _ h
 refine wpAny_call (codeAny_mono (F.run X.A X.stack s H ⟨us,[]⟩ (us++ds) (vs++dvs) Q E hr I.env0 (hb s us I.kIn hl) r2 h) λr s' hq=>?_)
 cases r with
 | error e=>exact hx pins σ H s e s' I hq
 | ok fl =>
  cases fl with
  | ret u=>exact I.after hq
  | next=>exact False.elim hq
  | brk=>exact False.elim hq
  | cont=>exact False.elim hq
theorem zpr (F:FnOk X.prog X.w X.K X.mg X.base CX k f fd ps sp) (hr:Room k X.A) (hg:Gl X x) (hm:X.mg x=some (.ref f)) (hk:PySem.W.keepIn X.K (.ref f)=true) (hb:Binds X.K fd ps ds) (hd:Vals dvs ds) (hx:zh0 CX X E)
  (ha:PA X (e :: es) t) (hdb:(x == ("__debug__":Str))=false:=by decide) (he:starEach (e :: es) X.env=(false,eval e X.env) :: starEach es X.env:=by rfl) (hpl:(backTo pos (starEach es X.env)).any (·.1)=false:=by rfl) :
  PE X (.Call (.Name x p) (e :: es) [] pos) (zpp sp dvs E t):=by
 intro pins s σ H Q I h
 refine wpAny_Call_Name_kw (zii I hg hm ?_ hdb)
 refine PySem.W.callWith_K (h₀:=X.base) I.ok.mod.kin hk (thn (ha pos pins s σ H _ I h) λus s1 ⟨vs,H1,I1,r,q⟩=>⟨I1.kIn,?_⟩) he hpl
 exact zpq F hr hb hd hx I1 r q
theorem zx7 (F:FnOk X.prog X.w X.K X.mg X.base CX k f fd ps sp) (hr:Room k X.A) (hg:Gl X x) (hm:X.mg x=some (.ref f)) (hk:PySem.W.keepIn X.K (.ref f)=true) (hb:Binds X.K fd ps ds) (hd:Vals dvs ds) (hx:zh0 CX X E)
  (hdb:(x == ("__debug__":Str))=false:=by decide):PE X (.Call (.Name x p) [] [] pos) (zpp sp dvs E zpo):=by
 intro pins s σ H Q I h
 refine wpAny_Call_Name_kw (zii I hg hm ?_ hdb)
 exact PySem.W.callWith_K0 I.kIn hk (zpq (us:=[]) F hr hb hd hx I .nil h)
structure Mk (K:QFg) (C f:Addr):Prop where
 makes:PySem.W.makesIn K C=true
 init:PySem.W.findIn K (.ref C) "__init__" = some (some (.ref f))
 fn:PySem.W.isFn K (.ref f)=true
 kp:PySem.W.keepIn K (.ref C)=true
end
section
variable {X:Cx}{CX:CXT}{k:Nat}{f C:Addr}{fd:FuncData}{ps ks:List Str}{sp:Sp}{E:XK}{x m:Str}{p pos apos kpos:Pos}{e o:Expr}{es:List Expr}{kws:List Keyword}{te ta:TE}{t tk:TA}{nm:Option Str}
variable {g:List Value->List Value->List Value}{gV:List V->List V->List V}
end
structure FnScope (N P:List Str) (sc:Scope):Prop where
 kind:sc.kind=.function
 co:sc.isCoroutine=false
 gen:sc.isGenerator=false
 nd:N.Nodup
 pre:N.take P.length=P
 par:∀x∈P,sc.names.lookup x=some .local\/sc.names.lookup x=some .cell
 nofree:∀y∈sc.names,y.2≠.free
theorem zps {kindOf:Str->Option NameKind}{x:Str}:∀{binds:List (Str × Value)}{m:Str->Option Value},(∀v,(x,v) ∉ binds)->bindL kindOf binds m x=m x
 | [],_,_=>rfl
 | (n,v) :: r,m,h=>by
  unfold bindL
  rw [zps λw hw=>h w (List.mem_cons_of_mem _ hw)]
  split
  ·have:x≠n:=by rintro rfl;exact h v List.mem_cons_self
   simp [this]
  ·rfl
theorem zpt {kindOf:Str->Option NameKind}{x:Str}:∀{binds:List (Str × Value)}{m:Str->Option Value},(∀v,(x,v) ∉ binds)->bindC kindOf binds m x=m x
 | [],_,_=>rfl
 | (n,v) :: r,m,h=>by
  unfold bindC
  rw [zpt λw hw=>h w (List.mem_cons_of_mem _ hw)]
  split
  ·rfl
  ·have:x≠n:=by rintro rfl;exact h v List.mem_cons_self
   simp [this]
theorem zpu {kindOf:Str->Option NameKind}{x:Str}{v:Value}:∀{P:List Str}{vs:List Value}{i:Nat}{m:Str->Option Value},P.Nodup->P[i]? = some x->vs[i]? = some v->kindOf x=some .local ->
  bindL kindOf (P.zip vs) m x=some v
 | [],_,_,_,_,h,_,_=>by simp at h
 | _ :: _,[],_,_,_,_,h,_=>by simp at h
 | p :: P,w :: vs,0,m,nd,h1,h2,hk=>by
  simp at h1 h2;subst h1;subst h2
  show bindL kindOf ((p,w) :: P.zip vs) m p=_
  unfold bindL
  rw [zps λv hv=>(List.nodup_cons.mp nd).1 (List.of_mem_zip hv).1,if_pos hk]
  simp
 | p :: P,w :: vs,i+1,m,nd,h1,h2,hk=>by
  show bindL kindOf ((p,w) :: P.zip vs) m x=_
  unfold bindL
  exact zpu (i:=i) (List.nodup_cons.mp nd).2 (by simpa using h1) (by simpa using h2) hk
theorem zpv {kindOf:Str->Option NameKind}{x:Str}{v:Value}:∀{P:List Str}{vs:List Value}{i:Nat}{m:Str->Option Value},P.Nodup->P[i]? = some x->vs[i]? = some v->kindOf x≠some .local ->
  bindC kindOf (P.zip vs) m x=some v
 | [],_,_,_,_,h,_,_=>by simp at h
 | _ :: _,[],_,_,_,_,h,_=>by simp at h
 | p :: P,w :: vs,0,m,nd,h1,h2,hk=>by
  simp at h1 h2;subst h1;subst h2
  show bindC kindOf ((p,w) :: P.zip vs) m p=_
  unfold bindC
  rw [zpt λv hv=>(List.nodup_cons.mp nd).1 (List.of_mem_zip hv).1,if_neg hk]
  simp
 | p :: P,w :: vs,i+1,m,nd,h1,h2,hk=>by
  show bindC kindOf ((p,w) :: P.zip vs) m x=_
  unfold bindC
  exact zpv (i:=i) (List.nodup_cons.mp nd).2 (by simpa using h1) (by simpa using h2) hk
noncomputable def start (N:List Str) (vs:List V):St:=vs.map some++List.replicate (N.length-vs.length) none
noncomputable def zdp (CX:CXT) (P:Program) (w:World) (K:QFg) (mg:Str->Option Value) (base:Heap) (N:List Str) (qual:Str) (scope:Scope) (f:Addr) (cd:Value) (A:Around) (outer:List Env) (s:Shared) (H:Hp) (E:XK):Cx where
 prog:=P
 w:=w
 K:=K
 mg:=mg
 base:=base
 A:=A.deeper (envOfC qual scope s.heap.objs.size f cd)
 N:=N
 s₀:=s
 H₀:=H
 env:=envOfC qual scope s.heap.objs.size f cd
 outer:=outer
 stack:=envOfC qual scope s.heap.objs.size f cd :: outer
 ex:=[]
 calm:=true
 fn:=λ_=>true
 pn:=[]
 xe:=λe s'=>wpAny (model P w) (A.deeper (envOfC qual scope s.heap.objs.size f cd)) (leaving (envOfC qual scope s.heap.objs.size f cd) e) (λ_ s''=>CX outer H s E e s'') (λe' s''=>CX outer H s E e' s'') s'
theorem zpw {sc:Scope}{n:Nat}{x:Str}(h:sc.names.lookup x=some .cell):∃c,(cellsFrom n sc.names []).lookup x=some c:=by
 have q:=PySem.W.cellsFrom_some sc.names n [] (.inl h)
 exact Option.isSome_iff_exists.mp q
theorem zx8 {CX:CXT}{P:Program}{w:World}{K:QFg}{mg:Str->Option Value}{base:Heap}{N ps:List Str}{qual:Str}{scope:Scope}{f:Addr}{cd:Value}{A:Around}{outer:List Env}{s s1:Shared}{H:Hp}{E:XK}{us:List Value}{vs:List V}
  (S:FnScope N ps scope) (hd:A.handled=none) (e0:Env0 P w K mg base A outer s H) (hl:vs.length=ps.length) (r:Vals vs us)
  (x:InCallC s s.heap.objs.size (bindL (envOfC qual scope s.heap.objs.size f cd).kindOf (ps.zip us) λ_=>none) (cellsFrom (s.heap.objs.size+1) scope.names []) (bindC (envOfC qual scope s.heap.objs.size f cd).kindOf (ps.zip us) λ_=>none) s1) :
  Inv (zdp CX P w K mg base N qual scope f cd A outer s H E) [] (start N vs) H s1:=by
 have hpl:ps.length<=N.length:=by have:=congrArg List.length S.pre;rw [List.length_take] at this;omega
 obtain ⟨h1,tk,rfl,hk⟩:=x.done
 have noA:∀b:Addr,b ∉ (zdp CX P w K mg base N qual scope f cd A outer s H E).ex:=λb z=>absurd (show b∈([]:List Addr) from z) (by simp)
 refine ⟨⟨e0.mod,S.kind,rfl,rfl,qlr _,λy z c h1 h2=>?_,λy hy=>?_,λy c _ h=>?_,λ_=>hd,Around.frames_deeper e0.frames,.inr ⟨rfl,rfl⟩,λb z=>absurd z (noA b),e0.bs,e0.bsz,λb _ _=>noA b,λb z=>absurd z (noA b),e0.funs,e0.frf⟩,
  rfl,e0.bare,Un.kept hk,⟨_,x.toInCall.ns,λi y v h1 h2 h3=>?_⟩,λy c h=>⟨_,x.cell y c h⟩,e0.hok.fresh (qlr _),λy c h=>?_,λp hp=>absurd (show p∈([]:List (Addr × Obj)) from hp) (by simp),e0.hok.kept hk,?_⟩
 ·exact name_of_addr x.apart (PySem.mem_of_lookup h1) (PySem.mem_of_lookup h2)
 ·have hy:scope.names.lookup y=some .cell\/scope.names.lookup y=some .free:=hy
  rcases hy with hy|hy
  ·exact zpw hy
  ·exact absurd rfl (S.nofree _ (PySem.mem_of_lookup hy))
 ·exact Nat.le_of_lt (x.above y c (PySem.mem_of_lookup h))
 ·have hi:i<vs.length:=by
   unfold start at h2
   by_cases hi:i<vs.length
   ·exact hi
   ·rw [List.getElem?_append_right (by simpa using hi)] at h2
    rw [List.getElem?_replicate] at h2
    split at h2 <;> cases h2
  have ha:vs[i]? = some v:=by
   unfold start at h2
   rw [List.getElem?_append_left (by simpa using hi),qgm] at h2
   cases e:vs[i]? with
   | none=>rw [e] at h2;cases h2
   | some a=>rw [e] at h2;cases h2;rfl
  obtain ⟨u,hu,rv⟩:=r.get ha
  have hp:ps[i]? = some y:=by
   rw [<-S.pre,List.getElem?_take_of_lt (by omega)];exact h1
  have ndP:ps.Nodup:=by rw [<-S.pre];exact S.nd.sublist (List.take_sublist _ _)
  refine ⟨u,rv,?_⟩
  rcases S.par y (qmg hp) with k|k
  ·exact .inl ⟨k,zpu ndP hp hu k⟩
  ·obtain ⟨c,e⟩:=zpw (n:=s.heap.objs.size+1) k
   refine .inr ⟨.inl k,c,e,?_⟩
   have q:=x.cell y c e
   rw [zpv ndP hp hu (by show scope.names.lookup y≠_;rw [k];decide)] at q
   exact q
 ·exact e0.hok.fresh (Nat.le_of_lt (x.above y c (PySem.mem_of_lookup h)))
 ·unfold start
  show _=N.length
  rw [qla,qlm,List.length_replicate]
  omega
theorem zpx {CX:CXT}{P:Program}{w:World}{K:QFg}{mg:Str->Option Value}{base:Heap}{k:Nat}{f:Addr}{name qual:Str}{params:Arguments}{body:List Stmt}{scope:Scope}{dV kV doc pm cdv ct oc:Value}{an od:Option Addr}
  {osl:Array (Option Value)} {N ps:List Str} {sp:Sp} (lk:K.lookup f=some ⟨oc,od,.func (PySem.W.fnOf name qual params body scope dV kV doc pm an cdv ct),osl⟩) (hcd:PySem.W.codeIn K cdv qual=true) (S:FnScope N ps scope)
  (len:∀vs H Q E,sp vs H Q E->vs.length=ps.length)
  (hbody:∀(A:Around) (outer:List Env) (s:Shared) (H:Hp) (vs:List V) (Q:VK) (E:XK),Room k (A.deeper (envOfC qual scope s.heap.objs.size f cdv))->sp vs H Q E ->
   ∃t,PSs (zdp CX P w K mg base N qual scope f cdv A outer s H E) body t/\t { nx:=λ_ H'=>Q .non H',rt:=Q } (start N vs) H) :
  FnOk P w K mg base CX (k+1) f (PySem.W.fnOf name qual params body scope dV kV doc pm an cdv ct) ps sp:=by
 refine ⟨len,λA outer s H args us vs Q E hr e0 hb r hsp=>?_⟩
 have hl:=len _ _ _ _ hsp
 have KX:K.In s.heap:=e0.mod.kin.keeps λb o e=>(e0.bs b o e).1
 have lim:s.heap.NoLimit:=e0.mod.nolimit.keeps λb o e=>(e0.bs b o e).1
 have hkind:∀y∈ps.zip us,scope.names.lookup y.1=some .local\/(scope.names.lookup y.1=some .cell/\((cellsFrom (s.heap.objs.size+1) scope.names []).lookup y.1).isSome=true):=λhx2_ hy=>by
  obtain ⟨n,v⟩:=hx2_
  rcases S.par n (List.of_mem_zip hy).1 with q|q
  ·exact .inl q
  ·exact .inr ⟨q,PySem.W.cellsFrom_some _ _ _ (.inl q)⟩
 refine codeAny_call_function hr.depth (KX _ _ lk) rfl S.co S.gen rfl (PySem.W.codeRec_of KX hcd) (hb _ _ _ _ ?_)
 refine wpAny_newFunctionEnv_cells S.kind hkind λenv he s1 x=>?_
 subst he
 refine ⟨lim.keeps x.toInCall.keep,codeAny_func ?_⟩
 obtain ⟨t,ht,hq⟩:=hbody A outer s H vs Q E (hr.deeper _) hsp
 have I:Inv (zdp CX P w K mg base N qual scope f cdv A outer s H E) [] (start N vs) H s1:=zx8 S hr.hd e0 hl r x
 refine wpAny_mono (ht [] s1 (start N vs) H _ I hq) (λfl s' hs=>?_) λe s' hs=>hs
 have fin:∀{σ':St} {H':Hp} {v:V} {u:Value},Inv (zdp CX P w K mg base N qual scope f cdv A outer s H E) [] σ' H' s'->RelV v u->Q v H'->CE outer P w H s Q u s' :=
  λ{σ' H' v u} J rv q=>⟨v,H',J.os,J.bare,J.base,J.hok,rv,q⟩
 cases fl with
 | ret u =>
  obtain ⟨v,σ',H',J,rv,q⟩:=hs
  exact fin J rv q
 | next =>
  obtain ⟨σ',H',J,q⟩:=hs
  exact fin (v:=V.non) (u:=Value.none) J rfl q
 | brk =>
  obtain ⟨_,_,_,q⟩:=hs
  exact False.elim q
 | cont =>
  obtain ⟨_,_,_,q⟩:=hs
  exact False.elim q
section
variable {X:Cx}{x:Str}{p pos:Pos}{e:Expr}{es:List Expr}{t:TA}{id T:String}{r:List V->Hp->VK->Prop}
def tCB (r:List V->Hp->VK->Prop) (t:TA):TE:=λσ H Q=>t σ H λvs H1=>r vs H1 Q
theorem zje (hc:CallR X (.builtin id) r) (hg:Gl X x) (hm:X.mg x=none) (hv:bootBuiltins x=some (.builtin id)) (ha:PA X (e :: es) t) (hn:x≠"__name__":=by decide) (hdb:(x == ("__debug__":Str))=false:=by decide)
  (he:starEach (e :: es) X.env=(false,eval e X.env) :: starEach es X.env:=by rfl) (hpl:(backTo pos (starEach es X.env)).any (·.1)=false:=by rfl):PE X (.Call (.Name x p) (e :: es) [] pos) (tCB r t):=by
 intro pins s σ H Q I h
 refine wpAny_Call_Name_kw (zkx I hg hm hv ?_ hn hdb)
 exact PyProof.Rows.callWith_builtin1 (thn (ha pos pins s σ H _ I h) λus s1 ⟨vs,H1,I1,r1,q1⟩=>hc pins s1 σ H1 vs us Q I1 r1 q1) he hpl
theorem zpy (hc:CallR X (.type T) r) (hg:Gl X x) (hm:X.mg x=none) (hv:bootBuiltins x=some (.type T)) (ha:PA X (e :: es) t) (hn:x≠"__name__":=by decide) (hdb:(x == ("__debug__":Str))=false:=by decide)
  (he:starEach (e :: es) X.env=(false,eval e X.env) :: starEach es X.env:=by rfl) (hpl:(backTo pos (starEach es X.env)).any (·.1)=false:=by rfl):PE X (.Call (.Name x p) (e :: es) [] pos) (tCB r t):=by
 intro pins s σ H Q I h
 refine wpAny_Call_Name_kw (zkx I hg hm hv ?_ hn hdb)
 exact PyProof.Rows.callWith_type1 (thn (ha pos pins s σ H _ I h) λus s1 ⟨vs,H1,I1,r1,q1⟩=>hc pins s1 σ H1 vs us Q I1 r1 q1) he hpl
end
end L2
namespace HT
open PySem PyProof.Rows
section
open PySem.SeqAt
open PySem.AutoSeq1 (wpAny_loadPart')
open PySem.MeetsSeq PySem.MeetsSeq2 PySem.MeetsSeq3
end
section
variable {prog:Program}{w:World}{A:Around}{E:Value->Shared->Prop}{s:Shared}
theorem cat_tup {t b:Addr}{vs ws:List Value}{Q:Value->Shared->Prop}(ht:IsTup s.heap t vs.toArray) (hb:IsTup s.heap b ws.toArray) (hv:vs≠[])
  (h1:ws=[]->Q (.ref t) s) (h2:ws≠[]->Q (.ref s.heap.objs.size) { s with heap:=s.heap.push { cls:=.type "tuple",data:=.seq (vs++ws).toArray } })
  (hsz:vs.length+ws.length<=sizeLine):wpAny (model prog w) A (binaryOp .Add (.ref t) (.ref b)) Q E s:=by
 obtain ⟨⟨cls,dd,data,sl⟩,ho,hc,n,hd⟩:=id ht
 obtain ⟨⟨cls2,dd2,data2,sl2⟩,ho2,hc2,n2,hd2⟩:=id hb
 simp only at hc hd hc2 hd2
 subst hc hd hc2 hd2
 have e:vs.toArray++ws.toArray=(vs++ws).toArray:=by simp
 by_cases hw:ws=[]
 ·exact concat_meets ⟨_,ho,rfl⟩ ⟨_,ho2,rfl⟩ noFill_tuple_add seq_tuple_add PySem.F.slot_tuple_add PySem.F.entry_tuple_add (PySem.F.args_tuple_add_2 _ _)
   (tuple_addW1 t b vs.toArray ws.toArray n n2 dd dd2 sl sl2 (by simpa using hv) (by simp [hw])) ⟨ho,ho2,h1 hw⟩
 ·refine concat_meets ⟨_,ho,rfl⟩ ⟨_,ho2,rfl⟩ noFill_tuple_add seq_tuple_add PySem.F.slot_tuple_add PySem.F.entry_tuple_add (PySem.F.args_tuple_add_2 _ _)
   (tuple_addW2 t b vs.toArray ws.toArray n n2 dd dd2 sl sl2 (by simpa using hv) (by simpa using hw) (by rw [List.size_toArray,List.size_toArray];exact hsz)) ⟨ho,ho2,?_⟩
  rw [e]
  exact h2 hw
noncomputable def sIx (n d:Nat):Option Int->Nat
 | none=>d
 | some v=>if v<0 then (v+(n:Int)).toNat else min v.toNat n
theorem zx9 (n d:Nat) (hd:d<=n) (o:Option Int):sIx n d o<=n:=by
 cases o with
 | none=>exact hd
 | some v =>
  show (if v<0 then (v+(n:Int)).toNat else min v.toNat n)<=n
  by_cases hv:v<0
  ·rw [if_pos hv];omega
  ·rw [if_neg hv];exact Nat.min_le_right _ _
theorem zpz (v:Int) (n d:Nat):(if v<0 then max (v+(n:Int)) 0 else min v (n:Int))=((sIx n d (some v):Nat):Int):=by
 show (if v<0 then max (v+(n:Int)) 0 else min v (n:Int))=(((if v<0 then (v+(n:Int)).toNat else min v.toNat n):Nat):Int)
 by_cases hv:v<0
 ·simp only [if_pos hv];omega
 ·simp only [if_neg hv];omega
theorem zya (lo hi:Option Int) (n:Nat):Builtin.Slice.sliceAdjust lo hi 1 (n:Int)=(((sIx n 0 lo:Nat):Int),((sIx n n hi:Nat):Int)):=by
 have h1:¬((1:Int)<0):=by omega
 unfold Builtin.Slice.sliceAdjust
 simp only [h1,if_false]
 refine Prod.ext ?_ ?_
 ·cases lo with
  | none=>rfl
  | some v=>exact zpz v n 0
 ·cases hi with
  | none=>rfl
  | some v=>exact zpz v n n
theorem zyb (i j:Nat):Builtin.Slice.slicePlaces (i:Int) (j:Int) 1=j-i:=by
 unfold Builtin.Slice.slicePlaces
 have h1:(1:Int) > 0:=by omega
 simp only [h1,if_true,Int.ediv_one]
 split <;> omega
theorem zp0 {v:Value}{o:Option Int}{Q:Option Int->Shared->Prop}(p:IsPart v o) (h:Q o s):wpAny (model prog w) A (Builtin.Slice.slicePartIndex v) Q E s:=by
 cases p with
 | none=>exact slicePart_none h
 | int i t=>exact slicePart_int h
theorem zp1 {sl:Addr}{vl vu:Value}{lo hi:Option Int}{n:Nat}{Q:Int × Int × Nat->Shared->Prop}(hs:s.heap.IsSliceOf sl vl vu .none) (pl:IsPart vl lo) (pu:IsPart vu hi)
  (h:Q (((sIx n 0 lo:Nat):Int),1,sIx n n hi-sIx n 0 lo) s):wpAny (model prog w) A (Builtin.Slice.sliceApplied (.ref sl) (pure (n:Int))) Q E s:=by
 obtain ⟨os,hos,hcs,hds⟩:=id hs
 unfold Builtin.Slice.sliceApplied Builtin.Slice.sliceFields
 refine qwb (qwb (wpAny_field hos hds (x:=vl) rfl (qwb (wpAny_field hos hds (x:=vu) rfl (qwb (wpAny_field hos hds (x:=.none) rfl (qwp ?_)))))))
 refine qwb (slicePart_none ?_)
 show wpAny _ _ (if ((1:Int) == 0)=true then _ else _) _ _ s
 rw [if_neg (by decide)]
 refine qwb (zp0 pl (qwb (zp0 pu (qwb (qwp ?_)))))
 show wpAny _ _ (match Builtin.Slice.sliceAdjust lo hi 1 (n:Int) with|(lo,hi)=>pure (lo,(1:Int),Builtin.Slice.slicePlaces lo hi 1)) _ _ s
 rw [zya lo hi n]
 show wpAny _ _ (pure (((sIx n 0 lo:Nat):Int),(1:Int),Builtin.Slice.slicePlaces ((sIx n 0 lo:Nat):Int) ((sIx n n hi:Nat):Int) 1)) _ _ s
 rw [zyb]
 exact qwp h
theorem zyc (xs:Array Value) (i k:Nat):((List.range k).filterMap λ(m:Nat)=>xs[((i:Int)+(m:Int)*1).toNat]?).toArray=((xs.toList.drop i).take k).toArray:=by
 have e:(λ(m:Nat)=>xs[((i:Int)+(m:Int)*1).toNat]?)=λm=>xs[i+m]?:=by
  funext m
  have:((i:Int)+(m:Int)*1).toNat=i+m:=by omega
  rw [this]
 rw [e]
 have:=pick_run xs i k
 rw [List.filterMap_map] at this
 have e2:((λx=>xs[x]?) ∘ λx=>i+x)=λm=>xs[i+m]?:=rfl
 rw [e2] at this
 rw [this]
theorem getItem_tuple_cut {t sl:Addr}{items:Array Value}{vl vu:Value}{lo hi:Option Int}{Q:Value->Shared->Prop}(ht:IsTup s.heap t items) (hs:s.heap.IsSliceOf sl vl vu .none) (pl:IsPart vl lo) (pu:IsPart vu hi)
  (hw:¬(sIx items.size 0 lo=0/\sIx items.size items.size hi=items.size))
  (h:Q (.ref s.heap.objs.size) { s with heap:=s.heap.push { cls:=.type "tuple",data:=.seq ((items.toList.drop (sIx items.size 0 lo)).take (sIx items.size items.size hi-sIx items.size 0 lo)).toArray } })
  (hsz:items.size<=sizeLine):wpAny (model prog w) A (getItem (.ref t) (.ref sl)) Q E s:=by
 have htake:sizeOk (.seq ((items.toList.drop (sIx items.size 0 lo)).take (sIx items.size items.size hi-sIx items.size 0 lo)).toArray):=by
  show ((items.toList.drop (sIx items.size 0 lo)).take (sIx items.size items.size hi-sIx items.size 0 lo)).toArray.size<=sizeLine
  rw [List.size_toArray,List.length_take,List.length_drop,Array.length_toList]
  omega
 have hj:sIx items.size items.size hi<=items.size:=zx9 _ _ (qlr _) hi
 obtain ⟨os,hos,hcs,hds⟩:=id hs
 have hTs:s.TypeIs (.ref sl) "slice":=⟨os,hos,hcs⟩
 unfold getItem
 try with_reducible refine wpAny_holding ?_
 first|refine qwb (qwp ?_)|skip
 refine qwb (wpAny_sequenceKey ht.typeIs (by decide) ?_)
 refine qwb (wpAny_callSpecial?_slot (name:=Str.ofString "__getitem__") ht.typeIs PyProof.Rows.slot_tuple_getitem
  (wpAny_call_entry PyProof.Rows.slot_tuple_getitem ht.typeIs entry_tuple_getitem ?_ (args_tuple_getitem _ _)))
 show wpAny _ _ (Builtin.Tuple.tupleItemsOf (.ref t) >>= _) _ _ s
 refine qwb (tupleItemsOf_ ht ?_)
 refine qwb (wpAny_typeOf hTs ?_)
 rw [if_pos (by decide)]
 refine qwb (zp1 hs pl pu ?_)
 have hno:¬((((sIx items.size 0 lo:Nat):Int) == 0 && (1:Int) == 1 && (sIx items.size items.size hi-sIx items.size 0 lo) == items.size)=true):=by
  intro q
  rw [Bool.and_eq_true,Bool.and_eq_true] at q
  have q1:((sIx items.size 0 lo:Nat):Int)=0:=eq_of_beq q.1.1
  have q2:sIx items.size items.size hi-sIx items.size 0 lo=items.size:=eq_of_beq q.2
  exact hw ⟨by omega,by omega⟩
 show wpAny _ _ (if (((sIx items.size 0 lo:Nat):Int) == 0 && (1:Int) == 1 && (sIx items.size items.size hi-sIx items.size 0 lo) == items.size)=true then _ else _) _ _ s
 rw [if_neg hno,zyc]
 first
  | exact qwb (m:=Builtin.Tuple.tupleExact _) (wpAny_newObj_type (qwp ⟨_,rfl,qwp h⟩) htake)
  | exact qwb (m:=Builtin.Tuple.tupleExact _) (wpAny_newObj_type (qwb (qwp (qwp ⟨_,rfl,qwp h⟩))) htake)
  | exact qwb (qwb (m:=Builtin.Tuple.tupleExact _) (wpAny_newObj_type (qwp (qwp ⟨_,rfl,qwp h⟩)) htake))
  | exact qwb (qwb (m:=Builtin.Tuple.tupleExact _) (wpAny_newObj_type (qwp ⟨_,rfl,qwp h⟩) htake))
end
end HT
namespace L2
open PySem PySem.Spec PyProof.Rows
abbrev TO:=St->Hp->(Option Int->Hp->Prop)->Prop
def PO (X:Cx) (e:Option Expr) (t:TO):Prop :=
 ∀(pins:List (Addr × Obj)) (s:Shared) (σ:St) (H:Hp) (Q:Option Int->Hp->Prop),Inv X pins σ H s->t σ H Q ->
  wpAny (model X.prog X.w) X.A (evalPart e X.env) (λu s'=>∃o H',Inv X pins σ H' s'/\IsPart u o/\Q o H') X.xe s
def zyd:TO:=λ_ H Q=>Q none H
def zye (t:TE):TO:=λσ H Q=>t σ H λx H1=>∃i,x=.int i/\Q (some i) H1
section
variable {X:Cx}{e:Expr}{te:TE}{lo hi:Option Expr}{tl th:TO}{pos p2:Pos}
theorem zyf:PO X none zyd:=by
 intro pins s σ H Q I h
 rw [evalPart_none]
 exact qwp ⟨none,H,I,.none,h⟩
theorem zyg (h:PE X e te):PO X (some e) (zye te):=by
 intro pins s σ H Q I hw
 rw [evalPart_some]
 refine thn (h pins s σ H _ I hw) λu s1 ⟨x,H1,I1,r1,q1⟩=>?_
 obtain ⟨i,rfl,q⟩:=q1
 obtain ⟨t,rfl⟩:=r1
 exact ⟨some i,H1,I1,.int i t,q⟩
def SlR (X:Cx) (r:V->Option Int->Option Int->Hp->VK->Prop):Prop :=
 ∀(pins:List (Addr × Obj)) (s:Shared) (σ:St) (H:Hp) (x:V) (v vl vu:Value) (lo hi:Option Int) (sl:Addr) (Q:VK),Inv X pins σ H s->RelV x v->s.heap.IsSliceOf sl vl vu .none->IsPart vl lo->IsPart vu hi->r x lo hi H Q ->
  ∃T id,typeLookup (.type T) "__getitem__" = pure (some (.builtin id))/\s.TypeIs v T/\wpAny (model X.prog X.w) X.A (getItem v (.ref sl)) (EP X pins σ Q) X.xe s
theorem SlR.or {r r':V->Option Int->Option Int->Hp->VK->Prop}(h:SlR X r) (h':SlR X r'):SlR X (λx lo hi H Q=>r x lo hi H Q\/r' x lo hi H Q):=by
 intro pins s σ H x v vl vu lo hi sl Q I rx hs pl pu q
 rcases q with q|q
 ·exact h pins s σ H x v vl vu lo hi sl Q I rx hs pl pu q
 ·exact h' pins s σ H x v vl vu lo hi sl Q I rx hs pl pu q
def tSl (r:V->Option Int->Option Int->Hp->VK->Prop) (te:TE) (tl th:TO):TE:=λσ H Q=>te σ H λx H1=>tl σ H1 λl H2=>th σ H2 λu H3=>r x l u H3 Q
theorem zyh {r:V->Option Int->Option Int->Hp->VK->Prop}(hr:SlR X r) (he:PE X e te) (hl:PO X lo tl) (hu:PO X hi th):PE X (.Subscript e (.Slice lo hi none p2) pos) (tSl r te tl th):=by
 intro pins s σ H Q I h
 refine Subscript_ (thn (he pins s σ H _ I h) λv s1 ⟨x,H1,I1,r1,q1⟩=>?_)
 refine wpAny_Slice (thn (hl pins s1 σ H1 _ I1 q1) λvl s2 ⟨l,H2,I2,pl,q2⟩=>thn (hu pins s2 σ H2 _ I2 q2) λvu s3 ⟨u,H3,I3,pu,q3⟩=>?_)
 rw [evalPart_none]
 refine qwp ?_
 have I4:Inv X pins σ H3 { s3 with heap:=s3.heap.push { cls:=.type "slice",data:=.fields #[vl,vu,.none] } }:=I3.kept (t':=s3.toks) λb ob q=>qps _ q
 obtain ⟨T,id,hT,ht,hg⟩:=hr pins { s3 with heap:=s3.heap.push { cls:=.type "slice",data:=.fields #[vl,vu,.none] } } σ H3 x v vl vu l u s3.heap.objs.size Q I4 r1 (Heap.IsSliceOf.new ..) pl pu q3
 show wpAny (model X.prog X.w) X.A (subscriptTail e (.Slice lo hi none p2) v (.ref s3.heap.objs.size)) (EP X pins σ Q) X.xe { s3 with heap:=s3.heap.push { cls:=.type "slice",data:=.fields #[vl,vu,.none] } }
 exact tail_any (ops:=[.ref s3.heap.objs.size,v]) ht hT hg (by with_unfolding_all rfl)
noncomputable def zgr (xs:List V) (lo hi:Option Int):List V:=(xs.drop (HT.sIx xs.length 0 lo)).take (HT.sIx xs.length xs.length hi-HT.sIx xs.length 0 lo)
theorem zp2 (xs:List V) (lo hi:Option Int):(zgr xs lo hi).length<=xs.length:=by
 unfold zgr
 rw [List.length_take,List.length_drop]
 omega
def zyi (K:QFg):V->Option Int->Option Int->Hp->VK->Prop:=λx lo hi H Q=>∃a xs,x=.ref a/\SqT K H a xs /\
 ¬(HT.sIx xs.length 0 lo=0/\HT.sIx xs.length xs.length hi=xs.length)/\∀p,H p=none->Q (.ref p) (upd H p (.tup (zgr xs lo hi)))
theorem sl_tup:SlR X (zyi X.K):=by
 intro pins s σ H x v vl vu lo hi sl Q I rx hs pl pu h
 obtain ⟨a,xs,rfl,hx,hw,q⟩:=h
 cases rx
 obtain ⟨its,r,ht,hz⟩:=I.tuple hx
 have hlen:its.toArray.size=xs.length:=by rw [List.size_toArray];exact r.length.symm
 refine ⟨"tuple",_,PyProof.Rows.slot_tuple_getitem.lookup,ht.typeIs,?_⟩
 refine HT.getItem_tuple_cut ht hs pl pu (by rw [hlen];exact hw) ?_ (by rw [hlen];exact hz)
 rw [hlen]
 refine ⟨.ref s.heap.objs.size,_,I.laid (t':=s.toks) (o:=.tup (zgr xs lo hi)) (λb ob q=>qps _ q) (qlr _) ?_,rfl,q _ (I.hok.fresh (qlr _))⟩
 exact ⟨Nat.le_trans (zp2 xs lo hi) hz,_,(r.drop (HT.sIx xs.length 0 lo)).take (HT.sIx xs.length xs.length hi-HT.sIx xs.length 0 lo),IsTD.new _ _⟩
def zmt (K:QFg):R2:=λx y H Q=>∃a b xs ys,x=.ref a/\y=.ref b/\SqT K H a xs/\SqT K H b ys/\xs≠[]/\xs.length+ys.length<=sizeLine /\
 (ys=[]->Q (.ref a) H)/\(ys≠[]->∀p,H p=none->Q (.ref p) (upd H p (.tup (xs++ys))))
theorem Vals.nil_iff {xs:List V}{us:List Value}(r:Vals xs us):us=[]↔xs=[]:=by
 cases r with
 | nil=>simp
 | cons _ _=>simp
theorem op_catT:OpR X (binaryOp .Add) (zmt X.K):=by
 intro pins s σ H x y v u Q I rx ry h
 obtain ⟨a,b,xs,ys,rfl,rfl,ha,hb,hx,hz,q1,q2⟩:=h
 cases rx
 cases ry
 obtain ⟨its,r1,p1,_⟩:=I.tuple ha
 obtain ⟨its2,r2,p2,_⟩:=I.tuple hb
 refine HT.cat_tup p1 p2 (λz=>hx (r1.nil_iff.mp z)) (λz=>⟨.ref a,H,I,rfl,q1 (r2.nil_iff.mp z)⟩) (λz=>?_) (by rw [<-r1.length,<-r2.length];exact hz)
 refine ⟨.ref s.heap.objs.size,_,I.laid (t':=s.toks) (o:=.tup (xs++ys)) (λb ob q=>qps _ q) (qlr _) ?_,rfl,q2 (λw=>z (r2.nil_iff.mpr w)) _ (I.hok.fresh (qlr _))⟩
 exact ⟨by rw [qla];exact hz,_,r1.append r2,IsTD.new _ _⟩
end
noncomputable def ixN (n:Nat) (i:Int):Option Nat:=if 0<=i then (if i<n then some i.toNat else none) else if -(n:Int)<=i then some (i+n).toNat else none
noncomputable def atI {α:Type}(xs:List α) (i:Int):Option α:=(ixN xs.length i).bind λj=>xs[j]?
theorem zp3 {n:Nat}{i:Int}{j:Nat}(h:ixN n i=some j):seqIndex? i n=some j/\j<n/\-(n:Int)<=i/\i<n:=by
 unfold ixN at h
 by_cases h0:0<=i
 ·rw [if_pos h0] at h
  by_cases h1:i<n
  ·rw [if_pos h1] at h
   have e:i.toNat=j:=qoi h
   exact ⟨by rw [seqIndex_of h0 h1,e],by omega,by omega,h1⟩
  ·rw [if_neg h1] at h;cases h
 ·rw [if_neg h0] at h
  by_cases h1:-(n:Int)<=i
  ·rw [if_pos h1] at h
   have e:(i+n).toNat=j:=qoi h
   exact ⟨by rw [seqIndex_neg (by omega) h1,e],by omega,h1,by omega⟩
  ·rw [if_neg h1] at h;cases h
theorem atI_get {α:Type}{xs:List α}{i:Int}{v:α}(h:atI xs i=some v):∃j,seqIndex? i xs.length=some j/\xs[j]? = some v/\j<xs.length/\-(xs.length:Int)<=i/\i<xs.length:=by
 unfold atI at h
 cases e:ixN xs.length i with
 | none=>rw [e] at h;cases h
 | some j =>
  rw [e] at h
  obtain ⟨h1,h2,h3,h4⟩:=zp3 e
  exact ⟨j,h1,h,h2,h3,h4⟩
def zp4 (b:Expr):Prop:=∀o i,subscripted b false o i=operate [o,i] (getItem o i)
def IxR (X:Cx) (r:R2):Prop :=
 ∀(value slice:Expr) (pins:List (Addr × Obj)) (s:Shared) (σ:St) (H:Hp) (x y:V) (v u:Value) (Q:VK),Inv X pins σ H s->RelV x v->RelV y u->r x y H Q ->
  subscripted slice false v u=operate [v,u] (getItem v u)->wpAny (model X.prog X.w) X.A (subscriptTail value slice v u) (EP X pins σ Q) X.xe s
def MtR (X:Cx) (id:String) (r:V->List V->Hp->VK->Prop):Prop :=
 ∀(pins:List (Addr × Obj)) (s:Shared) (σ:St) (H:Hp) (x:V) (xs:List V) (v:Value) (us:List Value) (Q:VK),Inv X pins σ H s->RelV x v->Vals xs us->r x xs H Q ->
  wpAny (model X.prog X.w) X.A (call (.builtin id) (v :: us)) (EP X pins σ Q) X.xe s
section
variable {X:Cx}{a b:Expr}{ta tb:TE}{pos:Pos}
theorem IxR.or {r r':R2}(h:IxR X r) (h':IxR X r'):IxR X (λx y H Q=>r x y H Q\/r' x y H Q):=by
 intro value slice pins s σ H x y v u Q I rx ry q hs
 rcases q with q|q
 ·exact h value slice pins s σ H x y v u Q I rx ry q hs
 ·exact h' value slice pins s σ H x y v u Q I rx ry q hs
theorem zyj {r:R2}(hr:IxR X r) (ha:PE X a ta) (hb:PE X b tb) (hs:zp4 b):PE X (.Subscript a b pos) (tOp r ta tb):=by
 intro pins s σ H Q I h
 exact Subscript_ (zmn ha hb I h λv u s2 x y H2 I2 rx ry q=>hr a b pins s2 σ H2 x y v u Q I2 rx ry q (hs _ _))
def zp5 (K:QFg):R2:=λx y H Q=>∃p xs i v,x=.ref p/\y=.int i/\SqL K H p xs/\atI xs i=some v/\Q v H
def zp6 (K:QFg):R2:=λx y H Q=>∃p xs i v,x=.ref p/\y=.int i/\SqT K H p xs/\atI xs i=some v/\Q v H
def zmu:R2:=λx y H Q=>∃z i c,x=.str z/\y=.int i/\z.length<=sizeLine/\atI z.cps.toList i=some c/\Q (.str ⟨#[c]⟩) H
theorem ix_list:IxR X (zp5 X.K):=by
 intro value slice pins s σ H x y v u Q I rx ry h hs
 obtain ⟨p,xs,i,z,rfl,rfl,hq,he,q⟩:=h
 cases rx
 obtain ⟨t,rfl⟩:=ry
 obtain ⟨its,r,pl,hz⟩:=I.list hq
 obtain ⟨j,h1,h2,h3,h4,h5⟩:=atI_get he
 obtain ⟨w,ew,rw'⟩:=r.get h2
 have hl:=r.length
 have hn:=zij
 have fin:EP X pins σ Q w s:=⟨z,H,I,rw',q⟩
 by_cases h0:0<=i
 ·have hj:i.toNat=j:=by
   rw [seqIndex_of h0 h5] at h1
   exact qoi h1
  exact item_listR pl.isList h0 (by omega) (by rw [hj];simpa using ew) fin hs
 ·have hj:(i+(its.toArray.size:Int)).toNat=j:=by
   rw [seqIndex_neg (by omega) h4] at h1
   rw [List.size_toArray,<-hl]
   exact qoi h1
  exact subscriptTail_builtinR (x:=w) pl.isList.typeIs slot_list_getitem.lookup
   (wpAny_getItem_list_neg (Q:=λr s'=>r=w/\EP X pins σ Q r s') pl.isList (by omega) (by rw [List.size_toArray] <;> omega) (by omega) (by rw [hj];simpa using ew) ⟨rfl,fin⟩) hs
theorem ix_tup:IxR X (zp6 X.K):=by
 intro value slice pins s σ H x y v u Q I rx ry h hs
 obtain ⟨p,xs,i,z,rfl,rfl,hq,he,q⟩:=h
 cases rx
 obtain ⟨t,rfl⟩:=ry
 obtain ⟨its,r,pl,hz⟩:=I.tuple hq
 obtain ⟨j,h1,h2,h3,h4,h5⟩:=atI_get he
 obtain ⟨w,ew,rw'⟩:=r.get h2
 have hl:=r.length
 have hn:=zij
 have fin:EP X pins σ Q w s:=⟨z,H,I,rw',q⟩
 exact subscriptTail_builtinR (x:=w) pl.typeIs slot_tuple_getitem.lookup
  (getItem_tuple (j:=j) (Q:=λr s'=>r=w/\EP X pins σ Q r s') pl (by omega) (by omega) (by rw [List.size_toArray,<-hl];exact h1) (by simpa using ew) ⟨rfl,fin⟩) hs
theorem ix_str:IxR X zmu:=by
 intro value slice pins s σ H x y v u Q I rx ry h hs
 obtain ⟨z,i,c,rfl,rfl,hz,he,q⟩:=h
 obtain ⟨t,rfl⟩:=rx
 obtain ⟨t',rfl⟩:=ry
 obtain ⟨j,h1,h2,h3,h4,h5⟩:=atI_get he
 have hl:z.cps.toList.length=z.length:=by simp [Str.length]
 rw [hl] at h1 h4 h5
 have hn:=zij
 exact tail_any (typeIs_str s z t) slot_str_getitem.lookup (getItem_str (c:=c) (by
  have e1:decide (i < -(2 ^ 63:Int))=false:=decide_eq_false (by omega)
  have e2:decide (i ≥ 2 ^ 63)=false:=decide_eq_false (by omega)
  rw [e1,e2,Bool.or_false]) (by rw [h1];simpa using h2) ⟨.str ⟨#[c]⟩,H,I.tok _,⟨_,rfl⟩,q⟩) hs
def rIx (K:QFg):R2:=λx y H Q=>zp5 K x y H Q\/zp6 K x y H Q\/zmu x y H Q
theorem zyk:IxR X (rIx X.K):=ix_list.or (ix_tup.or ix_str)
theorem zyl (its:List Value) (n j:Nat) (u:Value):Obj.mapSeq (·.setIfInBounds j u) { cls:=.type "list",data:=.seq its.toArray n }={ cls:=.type "list",data:=.seq (its.set j u).toArray n }:=by
 simp [Obj.mapSeq]
theorem Inv.lst {pins:List (Addr × Obj)}{σ:St}{H:Hp}{s:Shared}{p:Addr}{xs:List V}(I:Inv X pins σ H s) (h:H p=some (.lst xs)) :
  ∃(its:List Value) (n:Nat),Vals xs its/\s.heap.get? p=some { cls:=.type "list",data:=.seq its.toArray n }/\xs.length<=sizeLine:=by
 obtain ⟨z,its,n,r,e⟩:=I.hok p _ h
 exact ⟨its,n,r,e,z⟩
theorem Inv.lstUpd {pins:List (Addr × Obj)}{σ:St}{H:Hp}{s:Shared}{p:Addr}{xs ys:List V}{its its':List Value}{n n':Nat}{f:Obj->Obj}(I:Inv X pins σ H s) (h:H p=some (.lst xs))
  (ho:s.heap.get? p=some { cls:=.type "list",data:=.seq its.toArray n }) (hf:f { cls:=.type "list",data:=.seq its.toArray n }={ cls:=.type "list",data:=.seq its'.toArray n' }) (r:Vals ys its') (hz:ys.length<=sizeLine) (t:Nat) :
  Inv X pins σ (upd H p (.lst ys)) { s with heap:=s.heap.update p f,toks:=t }:=by
 have e:(s.heap.update p f).get? p=some { cls:=.type "list",data:=.seq its'.toArray n' }:=by
  rw [Heap.get?_update_self f ho (by rw [hf] <;> rfl),hf]
 refine I.write (x:=p) (e:=p) (by rw [h];trivial) (.inl rfl) (λb u hb q=>(Heap.get?_update_other _ _ (Ne.symm hb)).trans q) ⟨_,e⟩ ?_
 exact ⟨hz,its',n',r,e⟩
def rSetL:V->V->V->Hp->(Hp->Prop)->Prop:=λo i v H Q=>∃p xs k j,o=.ref p/\i=.int k/\H p=some (.lst xs)/\ixN xs.length k=some j/\Q (upd H p (.lst (xs.set j v)))
theorem zym:zpa X rSetL:=by
 intro pins s σ H o i v ov iv u Q I ro ri rv h
 obtain ⟨p,xs,k,j,rfl,rfl,hp,hj,q⟩:=h
 cases ro
 obtain ⟨t,rfl⟩:=ri
 obtain ⟨its,n,r,ho,hz⟩:=I.lst hp
 obtain ⟨h1,h2,h3,h4⟩:=zp3 hj
 have hl:=r.length
 have hn:=zij
 have I':Inv X pins σ (upd H p (.lst (xs.set j v))) { s with heap:=s.heap.update p (Obj.mapSeq (·.setIfInBounds j u)) } :=
  I.lstUpd hp ho (zyl its n j u) (r.set rv j) (by rw [List.length_set];exact hz) s.toks
 by_cases h0:0<=k
 ·have hk:k.toNat=j:=by
   rw [seqIndex_of h0 h4] at h1
   exact qoi h1
  exact PySem.W.ki_setAt ho h0 (by omega) (by rw [List.size_toArray,<-hl];exact h4) (by rw [hk];exact ⟨_,I',q⟩)
 ·have hk:(k+(its.toArray.size:Int)).toNat=j:=by
   rw [seqIndex_neg (by omega) h3] at h1
   rw [List.size_toArray,<-hl]
   exact qoi h1
  exact PySem.W.ki_setBack ho (by omega) (by rw [List.size_toArray,<-hl];exact h3) (by omega) (by rw [hk];exact ⟨_,I',q⟩)
theorem zyn (lo hi:Option Int) (n:Nat):(sliceBounds lo hi none n).1=((HT.sIx n 0 lo:Nat):Int)/\(sliceBounds lo hi none n).2.1=((HT.sIx n n hi:Nat):Int)/\(sliceBounds lo hi none n).2.2=1:=by
 refine ⟨?_,?_,rfl⟩
 ·cases lo with
  | none=>simp [sliceBounds,HT.sIx]
  | some i =>
   simp only [sliceBounds,HT.sIx,Option.getD_none,show (1:Int) > 0 by decide,if_true]
   by_cases h:i<0
   ·simp only [h,if_true] <;> omega
   ·simp only [h,if_false] <;> omega
 ·cases hi with
  | none=>simp [sliceBounds,HT.sIx]
  | some i =>
   simp only [sliceBounds,HT.sIx,Option.getD_none,show (1:Int) > 0 by decide,if_true]
   by_cases h:i<0
   ·simp only [h,if_true] <;> omega
   ·simp only [h,if_false] <;> omega
theorem zyo (its:List Value) (lo hi:Option Int):slicePick its.toArray lo hi none=((its.drop (HT.sIx its.length 0 lo)).take (HT.sIx its.length its.length hi-HT.sIx its.length 0 lo)).toArray:=by
 obtain ⟨h1,h2,h3⟩:=zyn lo hi its.toArray.size
 unfold slicePick
 rw [h1,h2,h3]
 simp only [sliceRange_one,pick_run,List.size_toArray] <;> rfl
def zyp (K:QFg):V->Option Int->Option Int->Hp->VK->Prop:=λx lo hi H Q=>∃a xs,x=.ref a/\SqL K H a xs/\∀p,H p=none->Q (.ref p) (upd H p (.lst (zgr xs lo hi)))
theorem zyq:SlR X (zyp X.K):=by
 intro pins s σ H x v vl vu lo hi sl Q I rx hs pl pu h
 obtain ⟨a,xs,rfl,hx,q⟩:=h
 cases rx
 obtain ⟨its,r,ht,hz⟩:=I.list hx
 have hlen:=r.length
 refine ⟨"list",_,slot_list_getitem.lookup,ht.isList.typeIs,?_⟩
 refine wpAny_getItem_list_slice ht.isList hs pl pu .none (by simp) ?_ (by rw [List.size_toArray] <;> omega)
 rw [zyo,<-hlen]
 refine ⟨.ref s.heap.objs.size,_,I.laid (t':=s.toks) (o:=.lst (zgr xs lo hi)) (λb ob q=>qps _ q) (qlr _) ?_,rfl,q _ (I.hok.fresh (qlr _))⟩
 exact ⟨Nat.le_trans (zp2 xs lo hi) hz,_,0,(r.drop (HT.sIx xs.length 0 lo)).take (HT.sIx xs.length xs.length hi-HT.sIx xs.length 0 lo),Heap.get?_push_size _ rfl⟩
noncomputable def zgs:V->Bool
 | .non=>true
 | .bl _=>true
 | .int _=>true
 | .str _=>true
 | _=>false
noncomputable def eqV:V->V->Bool
 | .non,.non=>true
 | .bl a,.bl b=>a == b
 | .bl a,.int b=>(if a then 1 else 0) == b
 | .int a,.bl b=>a == (if b then 1 else 0)
 | .int a,.int b=>a == b
 | .str a,.str b=>a == b
 | _,_=>false
theorem zyr {A:Around}{s:Shared}{y x:V}{u v:Value}(ry:RelV y u) (rx:RelV x v) (fy:zgs y=true) (fx:zgs x=true):SeqAt.EqAt A s u v (eqV y x):=by
 cases y with
 | non =>
  cases ry
  cases x with
  | non=>cases rx;exact SeqAt.EqAt.same _
  | bl b=>cases rx;exact SeqAt.EqAt.none_bool b
  | int b=>obtain ⟨t,rfl⟩:=rx;exact SeqAt.EqAt.none_int b t
  | str b=>obtain ⟨t,rfl⟩:=rx;exact SeqAt.EqAt.none_str b t
  | _=>exact absurd (show false=true from fx) Bool.false_ne_true
 | bl a =>
  cases ry
  cases x with
  | non=>cases rx;exact SeqAt.EqAt.bool_none a
  | bl b=>cases rx;exact SeqAt.EqAt.bool_bool a b
  | int b=>obtain ⟨t,rfl⟩:=rx;exact SeqAt.EqAt.bool_int a b t
  | str b=>obtain ⟨t,rfl⟩:=rx;exact SeqAt.EqAt.bool_str a b t
  | _=>exact absurd (show false=true from fx) Bool.false_ne_true
 | int a =>
  obtain ⟨t',rfl⟩:=ry
  cases x with
  | non=>cases rx;exact SeqAt.EqAt.int_none a t'
  | bl b=>cases rx;exact SeqAt.EqAt.int_bool a t' b
  | int b=>obtain ⟨t,rfl⟩:=rx;exact SeqAt.EqAt.int_int a t' b t
  | str b=>obtain ⟨t,rfl⟩:=rx;exact SeqAt.EqAt.int_str a t' b t
  | _=>exact absurd (show false=true from fx) Bool.false_ne_true
 | str a =>
  obtain ⟨t',rfl⟩:=ry
  cases x with
  | non=>cases rx;exact SeqAt.EqAt.str_none a t'
  | bl b=>cases rx;exact SeqAt.EqAt.str_bool a t' b
  | int b=>obtain ⟨t,rfl⟩:=rx;exact SeqAt.EqAt.str_int a t' b t
  | str b=>obtain ⟨t,rfl⟩:=rx;exact SeqAt.EqAt.str_str a t' b t
  | _=>exact absurd (show false=true from fx) Bool.false_ne_true
 | _=>exact absurd (show false=true from fy) Bool.false_ne_true
noncomputable def eqU (x:V) (u:Value):Bool:=match u with
 | .none=>eqV .non x
 | .bool b=>eqV (.bl b) x
 | .int i _=>eqV (.int i) x
 | .str z _=>eqV (.str z) x
 | _=>false
theorem zp7 {x y:V}{u:Value}(r:RelV y u) (f:zgs y=true):eqU x u=eqV y x:=by
 cases y with
 | non=>cases r;rfl
 | bl b=>cases r;rfl
 | int i=>obtain ⟨t,rfl⟩:=r;rfl
 | str z=>obtain ⟨t,rfl⟩:=r;rfl
 | _=>exact absurd (show false=true from f) Bool.false_ne_true
theorem zmv {x:V}:∀{xs:List V}{us:List Value},Vals xs us->xs.all zgs=true->us.any (eqU x)=xs.any λy=>eqV y x
 | _,_,.nil,_=>rfl
 | y :: xs,u :: us,.cons r t,f=>by
  rw [List.all_cons,Bool.and_eq_true] at f
  rw [List.any_cons,List.any_cons,zp7 r f.1,zmv t f.2]
theorem zmw {A:Around}{s:Shared}{x:V}{v:Value}(rx:RelV x v) (fx:zgs x=true):∀{xs:List V}{us:List Value},Vals xs us->xs.all zgs=true->∀u∈us,SeqAt.EqAt A s u v (eqU x u)
 | _,_,.nil,_=>λu hu=>by cases hu
 | y :: xs,u :: us,.cons r t,f=>λu' hu=>by
  rw [List.all_cons,Bool.and_eq_true] at f
  rcases List.mem_cons.mp hu with rfl|hu
  ·rw [zp7 r f.1];exact zyr r rx f.1 fx
  ·exact zmw rx fx t f.2 u' hu
noncomputable def inV (x:V) (xs:List V):Bool:=xs.any λy=>eqV y x
def rIn (K:QFg) (neg:Bool):R2:=λx y H Q=>∃p xs,y=.ref p/\(SqL K H p xs\/SqT K H p xs)/\zgs x=true/\xs.all zgs=true/\Q (.bl (if neg then !inV x xs else inV x xs)) H
theorem zys:OpR X (compareOp .NotIn) (rIn X.K true):=by
 intro pins s σ H x y v u Q I rx ry h
 obtain ⟨p,xs,rfl,hq,fx,fs,q⟩:=h
 cases ry
 rcases hq with hq|hq
 ·obtain ⟨its,r,pl,hz⟩:=I.list hq
  refine SeqAt.notIn_listAt (eqU x) pl.isList (λw hw=>zmw rx fx r fs w (by simpa using hw)) ⟨.bl _,H,I,rfl,?_⟩
  rw [show its.toArray.any (eqU x)=its.any (eqU x) by simp,zmv r fs]
  exact q
 ·obtain ⟨its,r,pl,hz⟩:=I.tuple hq
  refine SeqAt.notIn_tupleAt (eqU x) pl (λw hw=>zmw rx fx r fs w (by simpa using hw)) ⟨.bl _,H,I,rfl,?_⟩
  rw [show its.toArray.any (eqU x)=its.any (eqU x) by simp,zmv r fs]
  exact q
theorem call_len_seq:CallR X (.builtin "len") (λxs H Q=>∃p ys,xs=[.ref p]/\(SqL X.K H p ys\/SqT X.K H p ys)/\Q (.int ys.length) H):=by
 intro pins s σ H xs us Q I r h
 obtain ⟨p,ys,rfl,hq,q⟩:=h
 obtain ⟨u,rfl,rx⟩:=zg6 r
 cases rx
 have hn:=zij
 rcases hq with hq|hq
 ·obtain ⟨its,r',pl,hz⟩:=I.list hq
  have hlen:=r'.length
  exact Calls.call_len_list pl.isList (by simp only [List.size_toArray] <;> omega) ⟨.int ys.length,H,I.tok _,⟨s.toks+1,by rw [List.size_toArray,hlen]⟩,q⟩
 ·obtain ⟨its,r',pl,hz⟩:=I.tuple hq
  have hlen:=r'.length
  exact len_tuple pl (by simp only [List.size_toArray] <;> omega) ⟨.int ys.length,H,I.tok _,⟨s.toks+1,by rw [List.size_toArray,hlen]⟩,q⟩
theorem zyt:CallR X (.builtin "len") (λxs H Q=>∃z,xs=[.str z]/\z.length<=sizeLine/\Q (.int z.length) H):=by
 intro pins s σ H xs us Q I r h
 obtain ⟨z,rfl,hz,q⟩:=h
 obtain ⟨u,rfl,t,rfl⟩:=zg6 r
 have hn:=zij
 exact len_str (by omega) ⟨.int z.length,H,I.tok _,⟨_,rfl⟩,q⟩
theorem CallR.or {f:Value}{r r':List V->Hp->VK->Prop}(h:CallR X f r) (h':CallR X f r'):CallR X f (λxs H Q=>r xs H Q\/r' xs H Q):=by
 intro pins s σ H xs us Q I rs q
 rcases q with q|q
 ·exact h pins s σ H xs us Q I rs q
 ·exact h' pins s σ H xs us Q I rs q
theorem zyu:CallR X (.type "list") (λxs H Q=>∃p ys,xs=[.ref p]/\(SqL X.K H p ys\/SqT X.K H p ys)/\∀l,H l=none->Q (.ref l) (upd H l (.lst ys))):=by
 intro pins s σ H xs us Q I r h
 obtain ⟨p,ys,rfl,hq,q⟩:=h
 obtain ⟨u,rfl,rx⟩:=zg6 r
 cases rx
 have fin:∀(its:List Value),Vals ys its->ys.length<=sizeLine->∀(h':Heap) (c':Nat),(∀b o',s.heap.get? b=some o'->h'.get? b=some o') ->
   h'.get? s.heap.objs.size=some { cls:=.type "list",dict:=none,data:=.seq its.toArray c',slots:=#[] }->EP X pins σ Q (.ref s.heap.objs.size) { s with heap:=h' }:=λits r' hz h' c' kp e =>
  ⟨.ref s.heap.objs.size,_,I.laid (t':=s.toks) kp (qlr _) (show ObjOk X.prog X.w _ h' _ (.lst ys) from ⟨hz,its,c',r',e⟩),rfl,q _ (I.hok.fresh (qlr _))⟩
 rcases hq with hq|hq
 ·obtain ⟨its,r',pl,hz⟩:=I.list hq
  have hlen:=r'.length
  obtain ⟨o,ho,hc,n,hd⟩:=pl.isList
  exact call_list_seq p (.inl rfl) ho hc hd (λh' c' kp e=>fin its r' hz h' c' kp e) (by simp only [List.size_toArray] <;> omega)
 ·obtain ⟨its,r',pl,hz⟩:=I.tuple hq
  have hlen:=r'.length
  obtain ⟨o,ho,hc,n,hd⟩:=pl
  exact call_list_seq p (.inr rfl) ho hc hd (λh' c' kp e=>fin its r' hz h' c' kp e) (by simp only [List.size_toArray] <;> omega)
theorem zp8:CallR X (.type "tuple") (λxs H Q=>∃p ys,xs=[.ref p]/\((SqL X.K H p ys/\∀l,H l=none->Q (.ref l) (upd H l (.tup ys)))\/(SqT X.K H p ys/\Q (.ref p) H))):=by
 intro pins s σ H xs us Q I r h
 obtain ⟨p,ys,rfl,h⟩:=h
 obtain ⟨u,rfl,rx⟩:=zg6 r
 cases rx
 rcases h with ⟨hq,q⟩|⟨hq,q⟩
 ·obtain ⟨its,r',pl,hz⟩:=I.list hq
  have hlen:=r'.length
  refine call_tuple_list pl.isList (λh' kp=>?_) (by simp only [List.size_toArray] <;> omega)
  have I1:Inv X pins σ H { s with heap:=h' }:=I.kept (t':=s.toks) kp
  have I2:Inv X pins σ (upd H h'.objs.size (.tup ys)) { s with heap:=h'.push { cls:=.type "tuple",data:=.seq its.toArray } } :=
   I1.laid (t':=s.toks) (λb o e=>qps _ e) (qlr _) (show ObjOk X.prog X.w _ _ _ (.tup ys) from ⟨hz,its,r',IsTD.new _ _⟩)
  exact ⟨.ref h'.objs.size,_,I2,rfl,q _ (I1.hok.fresh (qlr _))⟩
 ·obtain ⟨its,r',pl,hz⟩:=I.tuple hq
  exact call_tuple_same pl ⟨.ref p,H,I,rfl,q⟩
def tyV (K:QFg) (T:String) (x:V) (H:Hp):Prop:=match x with
 | .str _=>T = "str"
 | .int _=>T = "int"
 | .ref p=>(T = "list"/\∃xs,SqL K H p xs)\/(T = "tuple"/\∃o,K.lookup p=some o/\o.cls=.type "tuple"/\o.dict=none) \/
   (T = "dict"/\((∃kvs,H p=some (.dK kvs))\/∃kvs,H p=some (.dT kvs)))\/(T = "set"/\∃S n,H p=some (.set S n))
 | _=>False
theorem zyv {pins:List (Addr × Obj)}{σ:St}{H:Hp}{s:Shared}{T:String}{x:V}{v:Value}(I:Inv X pins σ H s) (r:RelV x v) (ty:tyV X.K T x H) :
  s.TypeIs v T/\∀a,v=.ref a->∃ob,s.heap.get? a=some ob/\ob.dict=none:=by
 cases x with
 | str z =>
  obtain ⟨t,rfl⟩:=r
  cases (show T = "str" from ty)
  exact ⟨typeIs_str s z t,λ_ e=>nomatch e⟩
 | int i =>
  obtain ⟨t,rfl⟩:=r
  cases (show T = "int" from ty)
  exact ⟨typeIs_int s i t,λ_ e=>nomatch e⟩
 | ref p =>
  cases r
  rcases ty with ⟨rfl,xs,hq⟩|⟨rfl,o,hk,hc,hd⟩|⟨rfl,hk⟩|⟨rfl,S,n,hk⟩
  ·obtain ⟨its,_,pl,_⟩:=I.list hq
   refine ⟨pl.isList.typeIs,λa e=>?_⟩
   cases e
   obtain ⟨o,n,e,c,hd,_⟩:=pl
   exact ⟨o,e,hd⟩
  ·refine ⟨⟨o,I.kIn p o hk,hc⟩,λa e=>?_⟩
   cases e
   exact ⟨o,I.kIn _ o hk,hd⟩
  ·have z:∃o,s.heap.get? p=some o/\o.ExactDict:=by
    rcases hk with ⟨kvs,hk⟩|⟨kvs,hk⟩
    ·obtain ⟨_,_,_,_,o,_,_,e,ex,_⟩:=I.hok p _ hk
     exact ⟨o,e,ex⟩
    ·obtain ⟨_,_,_,_,o,_,_,e,ex,_⟩:=I.hok p _ hk
     exact ⟨o,e,ex⟩
   obtain ⟨o,e,ex⟩:=z
   refine ⟨⟨o,e,ex.1⟩,λa e2=>?_⟩
   cases e2
   exact ⟨o,e,ex.2.1⟩
  ·obtain ⟨o,_,_,_,e,ex,_⟩:=I.hok p _ hk
   refine ⟨⟨o,e,ex.1⟩,λa e2=>?_⟩
   cases e2
   exact ⟨o,e,ex.2.1⟩
 | _=>exact False.elim ty
def tBM (K:QFg) (T:String) (r:V->List V->Hp->VK->Prop) (to:TE) (t:TA):TE:=λσ H Q=>to σ H λx H1=>tyV K T x H1/\t σ H1 λxs H2=>r x xs H2 Q
variable {o e:Expr}{es:List Expr}{to:TE}{t:TA}{name:Str}{apos cpos:Pos}{T id:String}{r:V->List V->Hp->VK->Prop}
theorem zmx (pa:PlainAttrs T) (slot:Slot T name id) (hty:typeOf (.builtin id)=pure (.type "method_descriptor")) (hm:MtR X id r) (ho:PE X o to) (ha:PA X (e :: es) t)
  (hbase:attributeBase o name X.env (eval o X.env)=eval o X.env:=by rfl)
  (hfew:((backTo cpos (starEach (e :: es) X.env)).all (λx=>!x.1) && (backToKw cpos (keywordEach [] X.env)).all (λx=>x.1.isSome)
   && decide ((e :: es).length+([]:List Keyword).length+(if ([]:List Keyword).isEmpty then 0 else 1)<30))=true:=by rfl)
  (hline:(apos.endLine == cpos.line)=true:=by rfl) (hs:starEach (e :: es) X.env=(false,eval e X.env) :: starEach es X.env:=by rfl) (hplain:(backTo cpos (starEach es X.env)).any (·.1)=false:=by rfl) :
  PE X (.Call (.Attribute o name apos) (e :: es) [] cpos) (tBM X.K T r to t):=by
 intro pins s σ H Q I h
 refine wpAny_Call_method_late hbase hfew hline rfl (thn (ho pins s σ H _ I h) λv s1 ⟨x,H1,I1,r1,ty,q1⟩=>?_)
 obtain ⟨h1,h2⟩:=zyv I1 r1 ty
 refine ⟨T,id,pa,slot,hty,h1,h2,?_⟩
 have hA:=ha cpos pins s1 σ H1 _ I1 q1
 rw [hs] at hA ⊢
 refine Calls.callWith_builtin (by show (false || (backTo cpos (starEach es X.env)).any (·.1))=false;rw [hplain] <;> rfl) (Calls.evalArgs_plain ?_)
 exact thn hA λus s2 ⟨vs,H2,I2,r2,q2⟩=>hm pins s2 σ H2 x vs v us Q I2 r1 r2 q2
end
def MtM (X:Cx) (id:String) (r:V->List V->Hp->VK->Prop):Prop :=
 ∀(pins:List (Addr × Obj)) (s:Shared) (σ:St) (H:Hp) (x:V) (xs:List V) (v:Value) (us:List Value) (Q:VK),Inv X pins σ H s->RelV x v->Vals xs us->r x xs H Q ->
  wpAny (model X.prog X.w) X.A (call (.builtin id) (v :: us)) (EP X pins σ Q) X.xe s
theorem Vals.one:∀{x:V}{us:List Value},Vals [x] us->∃u,us=[u]/\RelV x u
 | _,_,.cons r .nil=>⟨_,rfl,r⟩
theorem Vals.two {x y:V}{us:List Value}(h:Vals [x,y] us):∃u v,us=[u,v]/\RelV x u/\RelV y v:=by
 cases h with
 | cons r t =>
  cases t with
  | cons q t2=>cases t2;exact ⟨_,_,rfl,r,q⟩
theorem Vals.zero:∀{us:List Value},Vals [] us->us=[]
 | _,.nil=>rfl
theorem Vals.rep {xs:List V}{us:List Value}(h:Vals xs us):∀k:Nat,Vals (List.replicate k xs).flatten (List.replicate k us).flatten
 | 0=>.nil
 | k+1=>by
  rw [List.replicate_succ,List.replicate_succ,List.flatten_cons,List.flatten_cons]
  exact Vals.append h (Vals.rep h k)
theorem zmy (its:List Value):∀(k:Nat) (acc:List Value),
  List.foldl (λx1 x2=>x1++x2) acc.toArray (List.replicate k its.toArray)=(acc++(List.replicate k its).flatten).toArray
 | 0,acc=>by simp
 | k+1,acc=>by
  have e:acc.toArray++its.toArray=(acc++its).toArray:=by simp
  have e2:(acc++its)++(List.replicate k its).flatten=acc++(List.replicate (k+1) its).flatten:=by
   rw [List.replicate_succ,List.flatten_cons,List.append_assoc]
  rw [<-e2,<-zmy its k (acc++its),<-e,List.replicate_succ,List.foldl_cons]
section
variable {X:Cx}{pins:List (Addr × Obj)}{σ:St}{H:Hp}{s:Shared}{l b:Addr}{xs ys zs:List V}
theorem Inv.lset {its its':List Value}{n:Nat}{f:Array Value->Array Value}{t':Nat}(I:Inv X pins σ H s) (hH:H l=some (.lst xs))
  (e:s.heap.get? l=some { cls:=.type "list",data:=.seq its.toArray n }) (hf:f its.toArray=its'.toArray) (hv:Vals ys its') (hz:ys.length<=sizeLine) :
  Inv X pins σ (upd H l (.lst ys)) { s with heap:=s.heap.update l (Obj.mapSeq f),toks:=t' }:=by
 have q:=PySem.IsL.update e f
 rw [hf] at q
 refine I.write (x:=l) (e:=l) (by rw [hH];exact trivial) (.inl rfl) (λb' u hb hu=>(Heap.get?_update_other s.heap (Obj.mapSeq f) (Ne.symm hb)).trans hu) ⟨_,q⟩ ?_
 exact ⟨hz,its',_,hv,q⟩
theorem Inv.lnew {its:List Value}{t':Nat}(I:Inv X pins σ H s) (hv:Vals ys its) (hz:ys.length<=sizeLine) :
  Inv X pins σ (upd H s.heap.objs.size (.lst ys)) { s with heap:=s.heap.push { cls:=.type "list",data:=.seq its.toArray },toks:=t' } :=
 I.laid (λ_ _ q=>qps _ q) (qlr _) ⟨hz,its,0,hv,Heap.get?_push_size _ rfl⟩
theorem Inv.fresh (I:Inv X pins σ H s):H s.heap.objs.size=none:=I.hok.fresh (qlr _)
theorem Inv.lstM (I:Inv X pins σ H s) (hH:H l=some (.lst xs)):xs.length<=sizeLine/\∃(its:List Value) (n:Nat),Vals xs its/\xs.length=its.length/\s.heap.get? l=some { cls:=.type "list",data:=.seq its.toArray n }:=by
 obtain ⟨z,its,n,r,e⟩:=I.hok l _ hH
 exact ⟨z,its,n,r,r.length,e⟩
theorem zyw {n:Nat}(h:n<=sizeLine):Builtin.List.listTooLong n=false:=by
 unfold Builtin.List.listTooLong
 exact decide_eq_false (by omega)
end
section
variable {X:Cx}
def zp9:V->List V->Hp->VK->Prop:=λx vs H Q=>∃l xs y,x=.ref l/\vs=[y]/\H l=some (.lst xs)/\xs.length<sizeLine/\Q .non (upd H l (.lst (xs++[y])))
theorem zqa:MtM X "list.append" zp9:=by
 intro pins s σ H x vs v us Q I rx rv h
 obtain ⟨l,xs,y,rfl,rfl,hH,hz,q⟩:=h
 cases rx
 obtain ⟨u,rfl,ru⟩:=rv.one
 obtain ⟨z,its,n,r,hl,e⟩:=I.lstM hH
 refine call_meets F.slot_list_append ⟨_,e,rfl⟩ F.entry_list_append (F.args_list_append_2 _ _) (PySem.list_append l its.toArray n u (by rw [List.size_toArray];omega)) ⟨e,?_⟩
 refine ⟨.non,_,I.lset (its':=its++[u]) hH e (by simp) (r.append (.cons ru .nil)) ?_,rfl,q⟩
 rw [qla,List.length_singleton]
 omega
def zqb:R2:=λx y H Q=>∃l b xs zs,x=.ref l/\y=.ref b/\H l=some (.lst xs)/\H b=some (.lst zs)/\xs.length+zs.length<=sizeLine/\∀p,H p=none->Q (.ref p) (upd H p (.lst (xs++zs)))
theorem zyx:OpR X (binaryOp .Add) zqb:=by
 intro pins s σ H x y v u Q I rx ry h
 obtain ⟨l,b,xs,zs,rfl,rfl,hH,hB,hz,q⟩:=h
 cases rx
 cases ry
 obtain ⟨z,its,n,r,hl,e⟩:=I.lstM hH
 obtain ⟨z2,its2,n2,r2,hl2,e2⟩:=I.lstM hB
 refine PySem.P.add_list e e2 ?_ (by rw [List.size_toArray,List.size_toArray];omega)
 have ea:its.toArray++its2.toArray=(its++its2).toArray:=by simp
 rw [ea]
 exact ⟨.ref _,_,I.lnew (t':=s.toks) (r.append r2) (by rw [qla];omega),rfl,q _ I.fresh⟩
def zqc:R2:=λx y H Q=>∃l k xs,x=.ref l/\y=.int k/\H l=some (.lst xs)/\-(2 ^ 63)<=k/\k<2 ^ 63/\xs.length*k.toNat<=sizeLine /\
 ∀p,H p=none->Q (.ref p) (upd H p (.lst (List.replicate k.toNat xs).flatten))
theorem zmz {α:Type}(xs:List α) (k:Nat):(List.replicate k xs).flatten.length=k*xs.length:=by
 induction k with
 | zero=>simp
 | succ k ih=>rw [List.replicate_succ,List.flatten_cons,qla,ih,Nat.succ_mul,Nat.add_comm]
theorem zyy:OpR X (binaryOp .Mult) zqc:=by
 intro pins s σ H x y v u Q I rx ry h
 obtain ⟨l,k,xs,rfl,rfl,hH,h1,h2,hz,q⟩:=h
 cases rx
 obtain ⟨t,rfl⟩:=ry
 obtain ⟨z,its,n,r,hl,e⟩:=I.lstM hH
 have hlen:its.toArray.size*k.toNat<=sizeLine:=by rw [List.size_toArray,<-hl];exact hz
 have hcap:¬its.toArray.size*k.toNat > (2 ^ 63-1) / 8:=by
  have:(sizeLine:Nat)<=(2 ^ 63-1) / 8:=by decide
  omega
 have hfit:¬(!Builtin.List.listFitsIndex k)=true:=by
  rw [fitsIndex_both h1 h2]
  exact Bool.false_ne_true
 have hlong:¬Builtin.List.listTooLong (its.toArray.size*k.toNat)=true:=by
  rw [zyw hlen]
  exact Bool.false_ne_true
 have hnew:List.foldl (λx1 x2=>x1++x2) #[] (List.replicate (if its.toArray.isEmpty=true then 0 else k.toNat) its.toArray)=(List.replicate k.toNat its).flatten.toArray:=by
  have f0:∀m:Nat,List.foldl (λx1 x2=>x1++x2) #[] (List.replicate m its.toArray)=(List.replicate m its).flatten.toArray:=λm=>by
   have:=zmy its m []
   rw [List.nil_append] at this
   exact this
  rw [f0]
  cases its with
  | nil=>simp
  | cons a r'=>rw [if_neg (by simp)]
 refine wpAny_binaryOp_repeat_ref (T:="list") (U:="int") (by decide) ⟨_,e,rfl⟩ (λs'=>typeIs_int s' k t) noFill_list_mul F.fills_int_mul F.slot_int_rmul repeat_list F.slot_int_index.lookup
  (call_meets F.slot_int_rmul (typeIs_int s k t) F.entry_int_rmul (F.args_int_rmul_2 _ _) (int___rmul___int_list k t l its.toArray n)
   ⟨e,rfl,⟨_,e,rfl⟩,call_meets F.slot_list_mul ⟨_,e,rfl⟩ F.entry_list_mul (F.args_list_mul_2 _ _) (AutoListH.list___mul___list_int_3 l its.toArray n k t hfit hcap hlong) ⟨e,?_⟩⟩)
 rw [hnew]
 exact ⟨.ref _,_,I.lnew (t':=s.toks) (r.rep k.toNat) (by rw [zmz,Nat.mul_comm];exact hz),rfl,q _ I.fresh⟩
end
section
variable {prog:Program}{w:World}{A:Around}{E:Value->Shared->Prop}{s:Shared}
end
section
variable {X:Cx}
end
end L2
namespace Att
open PySem PySem.W PySem.Calls PyProof.Rows
theorem zyz {P:Params}{h:Heap}:∀(ns:List Int) (vs:List Value),WellAll P h vs (ns.map WData.int)->IntsAre vs ns:=by
 intro ns
 induction ns with
 | nil =>
  intro vs w
  rw [List.map_nil] at w
  cases w
  exact .nil
 | cons n ns ih =>
  intro vs w
  rw [List.map_cons] at w
  cases w with
  | cons a b =>
   cases a
   exact .cons _ _ (ih _ b)
theorem zy0 {l:OpenLaw}{n:Nat}(hn:l.most=some n) {P:Params}{h:Heap}{args:List WData}{vals:List Value}
  (hpre:l.row.toRowW.claim.pre args=true) (hwl:WellAll P h vals args) :
  ∃a vs ns,vals=[Value.ref a]/\args=[WData.list (ns.map WData.int)]/\h.get? a=some { cls:=.type "list",data:=.seq vs.toArray }/\IntsAre vs ns/\ns.length<=n:=by
 have hsh:WShape.hasAll [] args [.list .int]=true:=(pre_splitW hpre).1
 have hc:l.pre.holds [] { args:=args }=true:=(pre_splitW hpre).2
 obtain ⟨d,r,rfl,h1,h2⟩:=hasAllW_cons hsh
 obtain rfl:=hasAllW_nil h2
 obtain ⟨xs,rfl,h3⟩:=hasW_list h1
 obtain ⟨ns,rfl⟩:=items_int h3
 have hlen:ns.length<=n:=by
  unfold OpenLaw.pre at hc
  have h4:(WTm.not (.lt (.lit (.int (n:Int))) (.len (.arg 0)))).holds [] { args:=[.list (ns.map .int)] }=true:=by
   have h4:=(holds_andW hc).1
   rw [hn] at h4
   exact h4
  have h5:=condW_of h4 (w_not (w_lt w_lit (w_len_list (w_arg rfl))))
  rw [qlm] at h5
  refine Nat.le_of_not_lt λq=>?_
  have q':(n:Int)<((ns.length:Nat):Int):=by omega
  first
   | (rw [decide_eq_true q'] at h5;exact absurd h5 (by decide))
   | (simp at h5;omega)
 cases hwl with
 | cons w1 w2 =>
  cases w2
  cases w1 with
  | list ho hall=>exact ⟨_,_,ns,rfl,rfl,ho,zyz ns _ hall,hlen⟩
theorem zy1 (l:OpenLaw) (args:List WData):l.row.toRowW.claim.post args (.bool true) args=true :=
 postW_of (r:=l.row.toRowW) (X:=(true == true))
  (show WShape.has [] (.bool true) .bool=true by first|rfl|decide|simp [WShape.has,WShape.arms,WShape.armsAll])
  (show (WTm.eq .res (.lit (.bool true))).value [] { args:=args,res:=some (.bool true),after:=args }=some (.bool (true == true)) from w_eq_bool (w_res rfl) w_lit) rfl
theorem attach_call {l:OpenLaw}{n:Nat}{q:Program}{loose:List Str}{XP:(Str->Option Value)->Heap->Prop}{YP:World->Heap->Prop}{d:DefRec}
  (hn:l.most=some n) (hdf:d.params.defaults=[])
  (call:∀(w:World) (s₀ s₁:Shared) (mg mb:Str->Option Value) (fa:Addr) (o:Obj) (pm cd doc:Value) (a:Addr) (vs:List Value) (ns:List Int),
   Ground q loose [] XP w s₀ mg mb s₁.heap->YP w s₁.heap ->
   s₁.heap.get? fa=some o->o.data=.func (docDef d.name d.params d.body d.scope pm cd doc)->s₁.heap.CodeRec cd d.name->mg d.name=some (.ref fa) ->
   s₁.heap.get? a=some { cls:=.type "list",data:=.seq vs.toArray }->IntsAre vs ns->ns.length<=n->s₁.gens = #[] ->
   codeAny (model l.prog w) callerA (.call (.ref fa) ⟨[.ref a],[]⟩) (λr s'=>r=.ok (.ret (.bool true))/\OldK s₁.heap s'.heap/\s'.os=s₁.os/\AllBare s'.gens) s₁) :
  WalkO q loose XP YP l.row.toRowW d [] (λf vs=>PySem.call f vs):=by
 intro w s₀ s₁ mg mb G Y fa o pm cd doc dV kV ho hd hcd hD hmg hg args vals as hpre hlay hrd hwl hlo
 obtain rfl:dV=.none:=Dflts.none hD hdf
 obtain rfl:kV=.none:=Dflts.noKw hD
 obtain ⟨a,vs,ns,rfl,rfl,hobj,hints,hlen⟩:=zy0 hn hpre hwl
 refine enter_call (codeAny_mono (call w s₀ s₁ mg mb fa o pm cd doc a vs ns G Y ho (fd_plain hd) hcd hmg hobj hints hlen hg) λr s' hq=>?_)
 obtain ⟨rfl,h2,h3,h4⟩:=hq
 exact ⟨.inl ⟨.bool true,.bool true,[],rfl,λ_=>rfl,.bool true,zy1 l _,λ_=>⟨List.Pairwise.nil,λ_ hm=>(nomatch hm)⟩⟩,h2,h3,h4⟩
section
variable {prog:Program}{w:World}{A:Around}{E:Value->Shared->Prop}{s:Shared}{K:Frag}
end
end Att
namespace L2
open PySem PySem.Spec PyProof.Rows
theorem zqd:∀{vs:List Value}{ns:List Int},IntsAre vs ns->Vals (ns.map V.int) vs
 | _,_,.nil=>.nil
 | _,_,.cons n t h=>.cons ⟨t,rfl⟩ (zqd h)
def zk5 (H:Hp):Prop:=∀b,H b=none\/∃o xs,H b=some (.frz o (.lst xs))
theorem zy2 {P:Program}{w:World}{K:QFg}{mg mb:Str->Option Value}{CX:CXT}{k:Nat}{fa a:Addr}{fd:FuncData}{x:Str}{sp:Sp}{s₁:Shared}{vs:List Value}{ns:List Int}
  (KX:K.In s₁.heap) (hns:s₁.heap.Ns mainGlobals mg) (hb:s₁.heap.Ns builtinsNs mb) (hbb:∀x:Str,x≠"__name__"->mb x=bootBuiltins x) (hlim:s₁.heap.NoLimit) (hg:s₁.gens = #[])
  (ha:s₁.heap.get? a=some { cls:=.type "list",data:=.seq vs.toArray }) (hi:IntsAre vs ns) (hl:ns.length<=sizeLine) (hr:Room k callerA)
  (F:∀base:Heap,K.In base->base.Ns mainGlobals mg->FnOk P w K mg base CX k fa fd [x] sp) (hbind:∀(s:Shared) (u:Value),BindsTo s fd ⟨[u],[]⟩ [(x,u)])
  (hsp:∀H:Hp,zk5 H->SqL K H a (ns.map V.int)->sp [.ref a] H (λv _=>v=.bl true) λ_ _ _=>False)
  (hCX:∀H e s',CX [] H s₁ (λ_ _ _=>False) e s'->False) :
  codeAny (model P w) callerA (.call (.ref fa) ⟨[.ref a],[]⟩) (λr s'=>r=.ok (.ret (.bool true))/\OldK s₁.heap s'.heap/\s'.os=s₁.os/\AllBare s'.gens) s₁:=by
 have rv:=zqd hi
 have lenV:=hi.length
 have core:∀H:Hp,zk5 H->SqL K H a (ns.map V.int)->HOk P w H s₁.heap->(∀b,H b≠none->b=a)->(H a≠none->K.lookup a=none) ->
   codeAny (model P w) callerA (.call (.ref fa) ⟨[.ref a],[]⟩) (λr s'=>r=.ok (.ret (.bool true))/\OldK s₁.heap s'.heap/\s'.os=s₁.os/\AllBare s'.gens) s₁:=by
  intro H hO hS hok hA hK
  have base_of:∀{b:Addr} {o:Obj},s₁.heap.get? b=some o->H b=none->(zg5 s₁.heap H).get? b=some o:=λe n=>zv0 e n
  have noA:∀{b:Addr} {o:Obj} {es:Array DictEntry} {ep:Nat},s₁.heap.get? b=some o->o.data=.dict es ep->H b=none:=λ{b o es ep} e d=>by
   cases q:H b with
   | none=>rfl
   | some u =>
    have e':b=a:=hA b (by rw [q];simp)
    subst e'
    rw [ha] at e;cases e
    have d':Data.seq vs.toArray _=Data.dict es ep:=d
    cases d'
  have nsK:∀{b:Addr} {m:Str->Option Value},s₁.heap.Ns b m->(zg5 s₁.heap H).Ns b m:=λ{b m} ⟨o,es,ep,e,d,r⟩=>⟨o,es,ep,base_of e (noA e d),d,r⟩
  have hKb:K.In (zg5 s₁.heap H):=λb o e=>base_of (KX b o e) (by
   cases q:H b with
   | none=>rfl
   | some u =>
    have e':b=a:=hA b (by rw [q];simp)
    subst e'
    rw [hK (by rw [q];simp)] at e;cases e)
  have hM:Mod K mg (zg5 s₁.heap H):=⟨hKb,nsK hns,⟨mb,nsK hb,hbb⟩,let ⟨mc,h1,h2⟩:=hlim;⟨mc,nsK h1,h2⟩⟩
  have e0:Env0 P w K mg (zg5 s₁.heap H) callerA [] s₁ H:=⟨rfl,hM,λb o e=>zv1 e,Nat.le_of_eq (zvz _ _),trivial,λb hb=>absurd (show b∈([]:List Addr) from hb) (by simp),hok,.of_eq hg⟩
  refine codeAny_mono ((F _ hKb (nsK hns)).run callerA [] s₁ H ⟨[.ref a],[]⟩ [.ref a] [.ref a] _ _ hr e0 (hbind s₁ (.ref a)) (.cons rfl .nil) (hsp H hO hS)) λr s' h=>?_
  cases r with
  | error e=>exact (hCX H e s' h).elim
  | ok fl =>
   cases fl with
   | next=>exact False.elim h
   | brk=>exact False.elim h
   | cont=>exact False.elim h
   | ret u =>
    obtain ⟨v,H',os,bare,un,hok',r',q⟩:=h
    have q':v=.bl true:=q
    subst q'
    obtain rfl:u=Value.bool true:=r'
    refine ⟨rfl,OldK.of_keep λb o e=>?_,os,bare⟩
    cases q:H b with
    | none=>exact un.keep b o e q (by intro z;exact absurd (show b∈([]:List Addr) from z) (by simp)) (by simp)
    | some u =>
     rcases hO b with z|⟨ob,xs,z⟩
     ·rw [q] at z;cases z
     ·have z2:=un.frzs b ob _ z
      obtain ⟨e1,_⟩:=hok b _ z
      obtain ⟨e2,_⟩:=hok' b _ z2
      rw [e] at e1;cases e1
      exact e2
 cases hk:K.lookup a with
 | some o =>
  have e:=KX a o hk
  rw [ha] at e
  cases e
  refine core (λ_=>none) (λ_=>.inl rfl) (.inr ⟨_,vs.toArray,_,hk,rfl,rfl,rfl,by rw [List.size_toArray,lenV];exact hl,by simpa using rv⟩) (λb u z=>by have z':(none:Option HO)=some u:=z;cases z') (λb z=>absurd rfl z) λz=>absurd rfl z
 | none =>
  refine core (λb=>if b=a then some (.frz { cls:=.type "list",data:=.seq vs.toArray } (.lst (ns.map V.int))) else none) (λb=>?_) (.inl (.inr ⟨{ cls:=.type "list",data:=.seq vs.toArray },if_pos rfl⟩)) (λb u z=>?_) (λb z=>?_) λ_=>hk
  ·by_cases hb:b=a
   ·exact .inr ⟨_,_,if_pos hb⟩
   ·exact .inl (if_neg hb)
  ·by_cases hb:b=a
   ·have z':=(if_pos hb).symm.trans z
    cases z'
    subst hb
    exact ⟨ha,by rw [qlm];exact hl,vs,_,rv,ha⟩
   ·have z':=(if_neg hb).symm.trans z
    cases z'
  ·by_cases hb:b=a
   ·exact hb
   ·exact absurd (if_neg hb) z
theorem walk_of {l:PySem.W.OpenLaw}{n k:Nat}{q:Program}{loose:List Str}{XP:(Str->Option Value)->Heap->Prop}{YP:World->Heap->Prop}{d:DefRec}{K:Params->QFg}{CX:World->CXT}{sp:World->Sp}{x:Str}
  (hn:l.most=some n) (hn2:n<=sizeLine) (hdf:d.params.defaults=[]) (hr:Room k callerA)
  (hY:∀(w:World) (h:Heap),YP w h->(K w.params).In h)
  (F:∀(w:World) (mg:Str->Option Value) (fa:Addr) (h:Heap),(K w.params).In h->h.Ns mainGlobals mg->mg d.name=some (.ref fa) ->
   ∃fd:FuncData,(∀(s:Shared) (u:Value),BindsTo s fd ⟨[u],[]⟩ [(x,u)]) /\
    ∀base:Heap,(K w.params).In base->base.Ns mainGlobals mg->FnOk l.prog w (K w.params) mg base (CX w) k fa fd [x] (sp w))
  (hsp:∀(w:World) (H:Hp) (a:Addr) (ns:List Int),ns.length<=n->zk5 H->SqL (K w.params) H a (ns.map V.int)->sp w [.ref a] H (λv _=>v=.bl true) λ_ _ _=>False)
  (hCX:∀(w:World) (H:Hp) (s:Shared) (e:Value) (s':Shared),CX w [] H s (λ_ _ _=>False) e s'->False) :
  PySem.W.WalkO q loose XP YP l.row.toRowW d [] (λf vs=>PySem.call f vs):=by
 refine Att.attach_call hn hdf λw s₀ s₁ mg mb fa o pm cd doc a vs ns G Y ho hd hcd hmg hobj hints hlen hg=>?_
 have KX:=hY w _ Y
 obtain ⟨fd,hb,hF⟩:=F w mg fa _ KX G.T.g hmg
 exact zy2 KX G.T.g G.T.b G.T.builtins G.T.nolimit hg hobj hints (Nat.le_trans hlen hn2) hr hF hb (λH hO hS=>hsp w H a ns hlen hO hS) λH e s'=>hCX w H s₁ e s'
noncomputable def zh1 (s:Stmt):Arguments:=match s with
 | .FunctionDef _ a _ _ _ _ _ _ _ _=>a
 | _=>{ posonlyargs:=[],args:=[],vararg:=none,kwonlyargs:=[],kw_defaults:=[],kwarg:=none,defaults:=[] }
noncomputable def zfv (s:Stmt):List Stmt:=match s with
 | .FunctionDef _ _ b _ _ _ _ _ _ _=>b
 | _=>[]
noncomputable def za2 (s:Stmt):Scope:=match s with
 | .FunctionDef _ _ _ _ _ _ sc _ _ _=>sc
 | _=>{ kind:=.function,names:=[],isGenerator:=false,isCoroutine:=false }
abbrev CX0:CXT:=λ_ _ _ _ _ _=>False
abbrev E0:XK:=λ_ _ _=>False
theorem zqe {X:Cx}:zh0 CX0 X E0:=λ_ _ _ _ _ _ _ h=>h.elim
structure Fun (K:QFg) (x qual:Str) (st:Stmt) (f:Addr) (fd:FuncData):Prop where
 ex:∃(oc:Value) (od:Option Addr) (kV doc pm:Value) (an:Option Addr) (cdv ct:Value) (osl:Array (Option Value)),
  fd=PySem.W.fnOf x qual (zh1 st) (zfv st) (za2 st) .none kV doc pm an cdv ct/\K.lookup f=some ⟨oc,od,.func fd,osl⟩/\PySem.W.codeIn K cdv qual=true
 kp:PySem.W.keepIn K (.ref f)=true
section
variable {P:Program}{w:World}{K:QFg}{mg:Str->Option Value}{base:Heap}
theorem Fun.binds {x qual:Str}{st:Stmt}{f:Addr}{fd:FuncData}{ps:List Str}(F:Fun K x qual st f fd)
  (h:∀(kV doc pm:Value) (an:Option Addr) (cdv ct:Value) (us:List Value),us.length=ps.length->bindArgs (PySem.W.fnOf x qual (zh1 st) (zfv st) (za2 st) .none kV doc pm an cdv ct) ⟨us,[]⟩=pure (ps.zip us)):Binds K fd ps []:=by
 obtain ⟨oc,od,kV,doc,pm,an,cdv,ct,osl,rfl,lk,hcd⟩:=F.ex
 exact .all (h kV doc pm an cdv ct)
theorem zy3 {x qual:Str}{st:Stmt}{f:Addr}{oc:Value}{od an:Option Addr}{osl:Array (Option Value)}{kV doc pm cdv ct:Value}(l:K.lookup f=some ⟨oc,od,.func (PySem.W.fnOf x qual (zh1 st) (zfv st) (za2 st) .none kV doc pm an cdv ct),osl⟩)
  (c:PySem.W.codeIn K cdv qual=true) (k:PySem.W.keepIn K (.ref f)=true):Fun K x qual st f (PySem.W.fnOf x qual (zh1 st) (zfv st) (za2 st) .none kV doc pm an cdv ct):=⟨⟨oc,od,kV,doc,pm,an,cdv,ct,osl,rfl,l,c⟩,k⟩
end
section
variable {X:Cx}
end
theorem zgc {A B:Prop}(h:B):if false=true then A else B:=by
 rw [if_neg Bool.false_ne_true]
 exact h
theorem zfw {A B:Prop}(h:A):if true=true then A else B:=by
 rw [if_pos rfl]
 exact h
section
variable {κ:Type} [DecidableEq κ]
end
abbrev KT (H:Hp):List (List Key × V)->List (List Key × Addr × Value)->Prop:=Paired λp q=>p.1=q.1/\H q.2.1=some (.tup (p.1.map kV))/\RelV p.2 q.2.2
section
variable {P:Program}{w:World}{H:Hp}{h:Heap}{a:Addr}
end
section
variable {X:Cx}{pins:List (Addr × Obj)}{σ:St}{H:Hp}{s:Shared}{a:Addr}{y v:V}{u r:Value}{o:Option V}{A:Around}{E:Value->Shared->Prop}
end
section
variable {X:Cx}{pins:List (Addr × Obj)}{σ:St}{H:Hp}{s:Shared}{a:Addr}{kvs:List (Key × V)}{k:Key}{u:Value}{A:Around}{E:Value->Shared->Prop}
end
section
variable {X:Cx}{o i e value:Expr}{pos pos' tpos:Pos}{td ty tv:TE}
end
section
variable {X:Cx}{pos:Pos}
end
section
variable {X:Cx}{pins:List (Addr × Obj)}{σ:St}{H:Hp}{s:Shared}{a:Addr}{y d:V}{u r:Value}{o:Option V}{A:Around}{E:Value->Shared->Prop}
end
section
variable {X:Cx}{o e f:Expr}{apos cpos:Pos}{td ty tx:TE}
end
section
variable {X:Cx}{pins:List (Addr × Obj)}{σ:St}{H:Hp}{s:Shared}{a:Addr}{kvs:List (Key × V)}{A:Around}{E:Value->Shared->Prop}
end
section
variable {X:Cx}{pins:List (Addr × Obj)}{σ:St}{H:Hp}{s:Shared}{a:Addr}{y:V}{u:Value}{A:Around}{E:Value->Shared->Prop}
end
section
variable {X:Cx}
end
section
variable {κ:Type} [DecidableEq κ]
end
end L2
namespace L3
abbrev St:=L2.St
open PySem PySem.Spec PyProof.Rows L2
inductive D where
 | non|bl (b:Bool)|int (i:Int)|str (x:Str)|tup (xs:List D)|ref (n:Nat)|fn (a:Addr)
inductive Ob where
 | lst (xs:List D)|flst (xs:List D)|iset (f:Int->Bool) (n:Nat)|dct (kvs:List (Key × D))|fdct (kvs:List (Key × D))|tdct (kvs:List (List Key × D))|ftdct (kvs:List (List Key × D))|tset (ks:List (List Int))|fnc (x:Str)|exc (c:Str)
noncomputable def Ob.mut:Ob->Bool
 | .flst _=>false
 | .fnc _=>false
 | _=>true
abbrev Sto:=List Ob
abbrev Lo:=List (Option D)
mutual
inductive RD (ρ:List Addr) (H:Hp):D->V->Prop where
 | non:RD ρ H .non .non
 | bl (b:Bool):RD ρ H (.bl b) (.bl b)
 | int (i:Int):RD ρ H (.int i) (.int i)
 | str (x:Str):RD ρ H (.str x) (.str x)
 | tup {xs:List D} {a:Addr} {vs:List V}:H a=some (.tup vs)->RDs ρ H xs vs->RD ρ H (.tup xs) (.ref a)
 | ref {n:Nat} {a:Addr}:ρ[n]? = some a->RD ρ H (.ref n) (.ref a)
 | fn (a:Addr):RD ρ H (.fn a) (.ref a)
inductive RDs (ρ:List Addr) (H:Hp):List D->List V->Prop where
 | nil:RDs ρ H [] []
 | cons {x:D} {v:V} {xs:List D} {vs:List V}:RD ρ H x v->RDs ρ H xs vs->RDs ρ H (x :: xs) (v :: vs)
end
structure Ext0 (ρ:List Addr) (H:Hp) (ρ':List Addr) (H':Hp):Prop where
 pre:∀(n:Nat) (a:Addr),ρ[n]? = some a->ρ'[n]? = some a
 tup:∀a vs,H a=some (.tup vs)->H' a=some (.tup vs)
 frz:∀a o u,H a=some (.frz o u)->H' a=some (.frz o u)
structure Ext (ρ:List Addr) (H:Hp) (ρ':List Addr) (H':Hp):Prop extends Ext0 ρ H ρ' H' where
 out:∀a (vs:HO),H a=some vs->(∀n:Nat,ρ[n]?≠some a)->H' a=some vs/\∀n:Nat,ρ'[n]?≠some a
theorem Ext.refl (ρ:List Addr) (H:Hp):Ext ρ H ρ H:=⟨⟨λ_ _ h=>h,λ_ _ h=>h,λ_ _ _ h=>h⟩,λ_ _ h n=>⟨h,n⟩⟩
theorem Ext.trans {ρ ρ1 ρ2:List Addr}{H H1 H2:Hp}(a:Ext ρ H ρ1 H1) (b:Ext ρ1 H1 ρ2 H2):Ext ρ H ρ2 H2 :=
 ⟨⟨λn x h=>b.pre n x (a.pre n x h),λn x h=>b.tup n x (a.tup n x h),λn o x h=>b.frz n o x (a.frz n o x h)⟩,λx vs h n=>let ⟨h1,n1⟩:=a.out x vs h n;b.out x vs h1 n1⟩
section
variable {ρ ρ':List Addr}{H H':Hp}
mutual
theorem RD.mono0 (e:Ext0 ρ H ρ' H'):∀{d:D}{v:V},RD ρ H d v->RD ρ' H' d v
 | _,_,.non=>.non
 | _,_,.bl b=>.bl b
 | _,_,.int i=>.int i
 | _,_,.str x=>.str x
 | _,_,.tup h r=>.tup (e.tup _ _ h) (RDs.mono0 e r)
 | _,_,.ref h=>.ref (e.pre _ _ h)
 | _,_,.fn a=>.fn a
theorem RDs.mono0 (e:Ext0 ρ H ρ' H'):∀{d:List D}{v:List V},RDs ρ H d v->RDs ρ' H' d v
 | _,_,.nil=>.nil
 | _,_,.cons r q=>.cons (RD.mono0 e r) (RDs.mono0 e q)
end
theorem RD.mono {d:D}{v:V}(r:RD ρ H d v) (e:Ext ρ H ρ' H'):RD ρ' H' d v:=r.mono0 e.toExt0
theorem RDs.mono {d:List D}{v:List V}(r:RDs ρ H d v) (e:Ext ρ H ρ' H'):RDs ρ' H' d v:=r.mono0 e.toExt0
theorem RDs.length:∀{d:List D}{v:List V},RDs ρ H d v->d.length=v.length
 | _,_,.nil=>rfl
 | _,_,.cons _ q=>congrArg (· + 1) (RDs.length q)
theorem RDs.get:∀{d:List D}{v:List V}{i:Nat}{x:D},RDs ρ H d v->d[i]? = some x->∃u,v[i]? = some u/\RD ρ H x u
 | _,_,_,_,.nil,e=>by simp at e
 | _,_,0,_,.cons r _,e=>by simp at e;subst e;exact ⟨_,rfl,r⟩
 | _,_,i+1,x,.cons _ q,e=>by
  obtain ⟨u,h1,h2⟩:=RDs.get (i:=i) (x:=x) q (by simpa using e)
  exact ⟨u,by simpa using h1,h2⟩
theorem RDs.set {x:D}{u:V}(r:RD ρ H x u):∀{d:List D}{v:List V}(i:Nat),RDs ρ H d v->RDs ρ H (d.set i x) (v.set i u)
 | _,_,_,.nil=>.nil
 | _,_,0,.cons _ q=>.cons r q
 | _,_,i+1,.cons p q=>.cons p (RDs.set r i q)
theorem RDs.append:∀{d e:List D}{v w:List V},RDs ρ H d v->RDs ρ H e w->RDs ρ H (d++e) (v++w)
 | _,_,_,_,.nil,q=>q
 | _,_,_,_,.cons r p,q=>.cons r (RDs.append p q)
theorem RDs.take:∀{d:List D}{v:List V}(n:Nat),RDs ρ H d v->RDs ρ H (d.take n) (v.take n)
 | _,_,0,_=>.nil
 | _,_,_+1,.nil=>.nil
 | _,_,n+1,.cons r t=>.cons r (RDs.take n t)
theorem RDs.drop:∀{d:List D}{v:List V}(n:Nat),RDs ρ H d v->RDs ρ H (d.drop n) (v.drop n)
 | _,_,0,r=>r
 | _,_,_+1,.nil=>.nil
 | _,_,n+1,.cons _ t=>RDs.drop n t
theorem RDs.rep {xs:List D}{us:List V}(h:RDs ρ H xs us):∀k:Nat,RDs ρ H (List.replicate k xs).flatten (List.replicate k us).flatten
 | 0=>.nil
 | k+1=>by
  rw [List.replicate_succ,List.replicate_succ,List.flatten_cons,List.flatten_cons]
  exact RDs.append h (RDs.rep h k)
theorem RDs.one {x:D}{vs:List V}(h:RDs ρ H [x] vs):∃v,vs=[v]/\RD ρ H x v:=by
 cases h with
 | cons r q=>cases q;exact ⟨_,rfl,r⟩
theorem RDs.two {x y:D}{vs:List V}(h:RDs ρ H [x,y] vs):∃v u,vs=[v,u]/\RD ρ H x v/\RD ρ H y u:=by
 cases h with
 | cons r q=>obtain ⟨u,rfl,r2⟩:=q.one;exact ⟨_,_,rfl,r,r2⟩
end
def Fz (K:QFg) (H:Hp) (a:Addr) (xs:List V):Prop:=(∃o,H a=some (.frz o (.lst xs))) \/
  ∃(o:Obj) (its:Array Value) (n:Nat),K.lookup a=some o/\o.cls=.type "list"/\o.dict=none/\o.data=.seq its n/\its.size<=sizeLine/\Vals xs its.toList
theorem Fz.sq {K:QFg}{H:Hp}{a:Addr}{xs:List V}(h:Fz K H a xs):SqL K H a xs:=by
 rcases h with ⟨o,h⟩|h
 ·exact .inl (.inr ⟨o,h⟩)
 ·exact .inr h
def ObR (K:QFg) (ρ:List Addr) (H:Hp):Ob->Addr->Prop
 | .lst xs,a=>∃vs,H a=some (.lst vs)/\RDs ρ H xs vs
 | .flst xs,a=>∃vs,Fz K H a vs/\RDs ρ H xs vs
 | .iset f n,a=>H a=some (.set f n)
 | .dct kvs,a=>∃vs,H a=some (.dK ((kvs.map (·.1)).zip vs))/\RDs ρ H (kvs.map (·.2)) vs
 | .fdct kvs,a=>∃o vs,H a=some (.frz o (.dK ((kvs.map (·.1)).zip vs)))/\RDs ρ H (kvs.map (·.2)) vs
 | .tdct kvs,a=>∃vs,H a=some (.dT ((kvs.map (·.1)).zip vs))/\RDs ρ H (kvs.map (·.2)) vs
 | .ftdct kvs,a=>∃o vs,H a=some (.frz o (.dT ((kvs.map (·.1)).zip vs)))/\RDs ρ H (kvs.map (·.2)) vs
 | .tset ks,a=>∃xs:List (List Int × Addr),ks=xs.map (·.1)/\H a=some (.ext (TS.TSet a xs))/\∀p∈xs,H p.2=some (.tup (p.1.map V.int))
 | .fnc x,a=>PySem.W.nsIn K mainGlobals x=some (some (.ref a))/\∃o,K.lookup a=some o
 | .exc c,a=>∃C,PySem.W.nsIn K mainGlobals c=some (some (.ref C))/\H a=some (.ext (λh=>∃o,h.get? a=some o/\o.cls=.ref C))
structure Sim (K:QFg) (ρ:List Addr) (S:Sto) (H:Hp):Prop where
 len:ρ.length=S.length
 nd:∀(i j:Nat) (a:Addr) (o1 o2:Ob),ρ[i]? = some a->ρ[j]? = some a->S[i]? = some o1->S[j]? = some o2->o1.mut=true->o2.mut=true->i=j
 at':∀(n:Nat) (a:Addr) (o:Ob),ρ[n]? = some a->S[n]? = some o->ObR K ρ H o a
section
variable {K:QFg}{ρ ρ':List Addr}{H:Hp}{S:Sto}
theorem zfl {p:Addr}{o:HO}(hp:H p=none):Ext ρ H ρ (upd H p o) :=
 ⟨⟨λ_ _ h=>h,λa vs h=>by rw [za9 (zdo h hp)];exact h,λa o vs h=>by rw [za9 (zdo h hp)];exact h⟩,λa vs h n=>⟨by rw [za9 (zdo h hp)];exact h,n⟩⟩
theorem zjf {p:Addr}{o:HO}{ys:List V}(hp:H p=some (.lst ys)):Ext0 ρ H ρ (upd H p o) :=
 ⟨λ_ _ h=>h,λa vs h=>by rw [za9 (zhy h hp (by intro z;cases z))];exact h,λa o vs h=>by rw [za9 (zhy h hp (by intro z;cases z))];exact h⟩
def zk6 (u:HO):Prop:=(∀vs,u≠.tup vs)/\∀o v,u≠.frz o v
theorem zqf (ys:List V):zk6 (.lst ys):=⟨λ_ z=>(by cases z),λ_ _ z=>(by cases z)⟩
theorem zh2 {p:Addr}{o u:HO}(hp:H p=some u) (hu:zk6 u):Ext0 ρ H ρ (upd H p o) :=
 ⟨λ_ _ h=>h,λa vs h=>by rw [za9 (zhy h hp (λz=>hu.1 vs z.symm))];exact h,λa o vs h=>by rw [za9 (zhy h hp (λz=>hu.2 o vs z.symm))];exact h⟩
theorem zqg {p:Addr}{o:HO}{ys:List V}{n:Nat}(hn:ρ[n]? = some p) (hp:H p=some (.lst ys)):Ext ρ H ρ (upd H p o) :=
 ⟨zjf hp,λa vs h hm=>⟨by rw [za9 (λz=>hm n (by rw [z];exact hn))];exact h,hm⟩⟩
theorem ObR.laid {o:Ob}{a p:Addr}{u:HO}(h:ObR K ρ H o a) (hp:H p=none):ObR K ρ (upd H p u) o a:=by
 cases o with
 | lst xs =>
  obtain ⟨vs,e,r⟩:=h
  exact ⟨vs,by rw [za9 (zdo e hp)];exact e,r.mono (zfl hp)⟩
 | flst xs =>
  obtain ⟨vs,e,r⟩:=h
  refine ⟨vs,?_,r.mono (zfl hp)⟩
  rcases e with ⟨o,e⟩|e
  ·exact .inl ⟨o,by rw [za9 (zdo e hp)];exact e⟩
  ·exact .inr e
 | iset f n =>
  show upd H p u a=some (.set f n)
  have e:H a=some (.set f n):=h
  rw [za9 (zdo e hp)];exact e
 | dct kvs =>
  obtain ⟨vs,e,r⟩:=h
  exact ⟨vs,by rw [za9 (zdo e hp)];exact e,r.mono (zfl hp)⟩
 | fdct kvs =>
  obtain ⟨o,vs,e,r⟩:=h
  exact ⟨o,vs,by rw [za9 (zdo e hp)];exact e,r.mono (zfl hp)⟩
 | tdct kvs =>
  obtain ⟨vs,e,r⟩:=h
  exact ⟨vs,by rw [za9 (zdo e hp)];exact e,r.mono (zfl hp)⟩
 | ftdct kvs =>
  obtain ⟨o,vs,e,r⟩:=h
  exact ⟨o,vs,by rw [za9 (zdo e hp)];exact e,r.mono (zfl hp)⟩
 | tset ks =>
  obtain ⟨xs,e0,e,r⟩:=h
  exact ⟨xs,e0,by rw [za9 (zdo e hp)];exact e,λp hq=>by rw [za9 (zdo (r p hq) hp)];exact r p hq⟩
 | fnc x=>exact h
 | exc c =>
  obtain ⟨C,hc,e⟩:=h
  exact ⟨C,hc,by rw [za9 (zdo e hp)];exact e⟩
theorem ObR.writtenG {o:Ob}{a p:Addr}{u u0:HO}(h:ObR K ρ H o a) (hp:H p=some u0) (hu:zk6 u0) (hn:o.mut=true->a≠p):ObR K ρ (upd H p u) o a:=by
 cases o with
 | lst xs =>
  obtain ⟨vs,e,r⟩:=h
  exact ⟨vs,by rw [za9 (hn rfl)];exact e,r.mono0 (zh2 hp hu)⟩
 | flst xs =>
  obtain ⟨vs,e,r⟩:=h
  refine ⟨vs,?_,r.mono0 (zh2 hp hu)⟩
  rcases e with ⟨o,e⟩|e
  ·exact .inl ⟨o,by rw [za9 (zhy e hp (λz=>hu.2 _ _ z.symm))];exact e⟩
  ·exact .inr e
 | iset f n =>
  show upd H p u a=some (.set f n)
  rw [za9 (hn rfl)];exact h
 | dct kvs =>
  obtain ⟨vs,e,r⟩:=h
  exact ⟨vs,by rw [za9 (hn rfl)];exact e,r.mono0 (zh2 hp hu)⟩
 | tdct kvs =>
  obtain ⟨vs,e,r⟩:=h
  exact ⟨vs,by rw [za9 (hn rfl)];exact e,r.mono0 (zh2 hp hu)⟩
 | fdct kvs =>
  obtain ⟨o,vs,e,r⟩:=h
  exact ⟨o,vs,by rw [za9 (hn rfl)];exact e,r.mono0 (zh2 hp hu)⟩
 | ftdct kvs =>
  obtain ⟨o,vs,e,r⟩:=h
  exact ⟨o,vs,by rw [za9 (hn rfl)];exact e,r.mono0 (zh2 hp hu)⟩
 | tset ks =>
  obtain ⟨xs,e0,e,r⟩:=h
  exact ⟨xs,e0,by rw [za9 (hn rfl)];exact e,λp hq=>(zh2 (ρ:=ρ) hp hu).tup _ _ (r p hq)⟩
 | fnc x=>exact h
 | exc c =>
  obtain ⟨C,hc,e⟩:=h
  exact ⟨C,hc,by rw [za9 (hn rfl)];exact e⟩
theorem ObR.written {o:Ob}{a p:Addr}{u:HO}{ys:List V}(h:ObR K ρ H o a) (hp:H p=some (.lst ys)) (hn:o.mut=true->a≠p):ObR K ρ (upd H p u) o a:=h.writtenG hp (zqf ys) hn
theorem ObR.more {o:Ob}{a:Addr}(h:ObR K ρ H o a) (e:Ext0 ρ H ρ' H):ObR K ρ' H o a:=by
 cases o with
 | lst xs=>obtain ⟨vs,e1,r⟩:=h;exact ⟨vs,e1,r.mono0 e⟩
 | flst xs=>obtain ⟨vs,e1,r⟩:=h;exact ⟨vs,e1,r.mono0 e⟩
 | iset f n=>exact h
 | dct kvs=>obtain ⟨vs,e1,r⟩:=h;exact ⟨vs,e1,r.mono0 e⟩
 | tdct kvs=>obtain ⟨vs,e1,r⟩:=h;exact ⟨vs,e1,r.mono0 e⟩
 | fdct kvs=>obtain ⟨o,vs,e1,r⟩:=h;exact ⟨o,vs,e1,r.mono0 e⟩
 | ftdct kvs=>obtain ⟨o,vs,e1,r⟩:=h;exact ⟨o,vs,e1,r.mono0 e⟩
 | tset ks=>exact h
 | fnc x=>exact h
 | exc c=>exact h
theorem Sim.laid (s:Sim K ρ S H) {p:Addr}{u:HO}(hp:H p=none):Sim K ρ S (upd H p u) :=
 ⟨s.len,s.nd,λn a o h1 h2=>(s.at' n a o h1 h2).laid hp⟩
theorem Sim.lst {n:Nat}{xs:List D}(s:Sim K ρ S H) (h:S[n]? = some (.lst xs)):∃a vs,ρ[n]? = some a/\H a=some (.lst vs)/\RDs ρ H xs vs:=by
 have hl:n<ρ.length:=by rw [s.len];exact (qme h).1
 obtain ⟨vs,e,r⟩:=s.at' n _ _ (qge hl) h
 exact ⟨_,vs,qge hl,e,r⟩
noncomputable def lstOf (S:Sto) (n:Nat):Option (List D):=match S[n]? with
 | some (.lst xs)=>some xs
 | some (.flst xs)=>some xs
 | _=>none
theorem Sim.lstOf {n:Nat}{xs:List D}(s:Sim K ρ S H) (h:L3.lstOf S n=some xs):∃a vs,ρ[n]? = some a/\SqL K H a vs/\RDs ρ H xs vs:=by
 unfold L3.lstOf at h
 cases e:S[n]? with
 | none=>rw [e] at h;cases h
 | some o =>
  have hl:n<ρ.length:=by rw [s.len];exact (qme e).1
  have q:=s.at' n _ _ (qge hl) e
  rw [e] at h
  cases o with
  | lst ys =>
   cases h
   obtain ⟨vs,e1,r⟩:=q
   exact ⟨_,vs,qge hl,.inl (.inl e1),r⟩
  | flst ys =>
   cases h
   obtain ⟨vs,e1,r⟩:=q
   exact ⟨_,vs,qge hl,e1.sq,r⟩
  | iset f n=>cases h
  | dct kvs=>cases h
  | fdct kvs=>cases h
  | ftdct kvs=>cases h
  | tset ks=>cases h
  | fnc x=>cases h
  | tdct kvs=>cases h
  | exc c=>cases h
theorem Sim.setG {n:Nat}{a:Addr}{o0 o1:Ob}{u0 u1:HO}(s:Sim K ρ S H) (ha:ρ[n]? = some a) (hS:S[n]? = some o0) (hm0:o0.mut=true) (hH:H a=some u0) (hu:zk6 u0) (r:ObR K ρ (upd H a u1) o1 a):Sim K ρ (S.set n o1) (upd H a u1):=by
 have hl:n<S.length:=(qme hS).1
 have key:∀(m:Nat) (w:Ob),w.mut=true->(S.set n o1)[m]? = some w->∃w',S[m]? = some w'/\w'.mut=true:=λm w hw h=>by
  by_cases hmn:n=m
  ·subst hmn;exact ⟨_,hS,hm0⟩
  ·rw [List.getElem?_set_ne hmn] at h;exact ⟨_,h,hw⟩
 refine ⟨by rw [List.length_set];exact s.len,λi j b x1 x2 h1 h2 h3 h4 m1 m2=>?_,λm b o h1 h2=>?_⟩
 ·obtain ⟨_,h3,q3⟩:=key i x1 m1 h3
  obtain ⟨_,h4,q4⟩:=key j x2 m2 h4
  exact s.nd i j b _ _ h1 h2 h3 h4 q3 q4
 by_cases hmn:n=m
 ·subst hmn
  rw [ha] at h1;cases h1
  rw [List.getElem?_set_self hl] at h2
  cases h2
  exact r
 ·rw [List.getElem?_set_ne hmn] at h2
  exact (s.at' m b o h1 h2).writtenG hH hu (λe z=>hmn (s.nd n m a _ _ ha (by rw [h1,z]) hS h2 hm0 e))
theorem Sim.set {n:Nat}{a:Addr}{ys:List V}{xs zs:List D}{vs:List V}(s:Sim K ρ S H) (ha:ρ[n]? = some a) (hS:S[n]? = some (.lst zs)) (hH:H a=some (.lst ys)) (r:RDs ρ H xs vs):Sim K ρ (S.set n (.lst xs)) (upd H a (.lst vs)) :=
 s.setG ha hS rfl hH (zqf ys) ⟨vs,zfj,r.mono0 (zjf hH)⟩
theorem ext0_push {a:Addr}:Ext0 ρ H (ρ++[a]) H :=
 ⟨λn b h=>by rw [List.getElem?_append_left (qme h).1];exact h,λ_ _ h=>h,λ_ _ _ h=>h⟩
theorem zd5 {α:Type}{l:List α}{a b:α}{n:Nat}(h:(l++[a])[n]? = some b):l[n]? = some b\/(n=l.length/\b=a):=by
 by_cases hl:n<l.length
 ·rw [List.getElem?_append_left hl] at h;exact .inl h
 ·rw [List.getElem?_append_right (by omega)] at h
  have:n-l.length=0:=by
   have:=(qme h).1
   simp at this;omega
  rw [this] at h;simp at h
  exact .inr ⟨by omega,h.symm⟩
theorem zqh {a:Addr}{vs:List V}(ha:H a=none):Ext ρ H (ρ++[a]) (upd H a (.lst vs)) :=
 ⟨⟨ext0_push.pre (H:=H),λb us h=>by rw [za9 (zdo h ha)];exact h,λb o us h=>by rw [za9 (zdo h ha)];exact h⟩,λb us h n=>⟨by rw [za9 (zdo h ha)];exact h,λi hi=>by
  rcases zd5 hi with hi|⟨_,e⟩
  ·exact n i hi
  ·rw [e,ha] at h;cases h⟩⟩
theorem zqi {a:Addr}{u:HO}(ha:H a=none):Ext ρ H (ρ++[a]) (upd H a u) :=
 ⟨⟨ext0_push.pre (H:=H),λb us h=>by rw [za9 (zdo h ha)];exact h,λb o us h=>by rw [za9 (zdo h ha)];exact h⟩,λb us h n=>⟨by rw [za9 (zdo h ha)];exact h,λi hi=>by
  rcases zd5 hi with hi|⟨_,e⟩
  ·exact n i hi
  ·rw [e,ha] at h;cases h⟩⟩
theorem Sim.pushG {a:Addr}{o1:Ob}{u:HO}(s:Sim K ρ S H) (ha:H a=none) (r:ObR K (ρ++[a]) (upd H a u) o1 a):Sim K (ρ++[a]) (S++[o1]) (upd H a u):=by
 have no:∀(n:Nat) (o:Ob),o.mut=true->ρ[n]? = some a->S[n]? = some o->False:=λn o hm h1 h2=>by
  have q:=s.at' n a _ h1 h2
  cases o with
  | lst xs=>obtain ⟨vs,e,_⟩:=q;rw [ha] at e;cases e
  | flst xs=>cases hm
  | iset f n=>have q:H a=_:=q;rw [ha] at q;cases q
  | dct kvs=>obtain ⟨vs,e,_⟩:=q;rw [ha] at e;cases e
  | tdct kvs=>obtain ⟨vs,e,_⟩:=q;rw [ha] at e;cases e
  | fdct kvs=>obtain ⟨o,vs,e,_⟩:=q;rw [ha] at e;cases e
  | ftdct kvs=>obtain ⟨o,vs,e,_⟩:=q;rw [ha] at e;cases e
  | tset ks=>obtain ⟨xs,_,e,_⟩:=q;rw [ha] at e;cases e
  | fnc x=>cases hm
  | exc c=>obtain ⟨C,_,e⟩:=q;rw [ha] at e;cases e
 refine ⟨by simp [s.len],λi j b x1 x2 h1 h2 h3 h4 m1 m2=>?_,λn b o h1 h2=>?_⟩
 ·rcases zd5 h3 with h3|⟨e3,_⟩ <;> rcases zd5 h4 with h4|⟨e4,_⟩
  ·have l1:=(qme h3).1
   have l2:=(qme h4).1
   rcases zd5 h1 with h1|⟨e1,f1⟩ <;> rcases zd5 h2 with h2|⟨e2,f2⟩
   ·exact s.nd i j b _ _ h1 h2 h3 h4 m1 m2
   ·have:=s.len;omega
   ·have:=s.len;omega
   ·have:=s.len;omega
  ·have l1:=(qme h3).1
   rcases zd5 h2 with h2|⟨e2,f2⟩
   ·have:=(qme h2).1;have:=s.len;omega
   ·subst f2
    rcases zd5 h1 with h1|⟨e1,_⟩
    ·exact (no i _ m1 h1 h3).elim
    ·have:=s.len;omega
  ·have l1:=(qme h4).1
   rcases zd5 h1 with h1|⟨e2,f2⟩
   ·have:=(qme h1).1;have:=s.len;omega
   ·subst f2
    rcases zd5 h2 with h2|⟨e1,_⟩
    ·exact (no j _ m2 h2 h4).elim
    ·have:=s.len;omega
  ·omega
 ·rcases zd5 h2 with h2|⟨e2,f2⟩
  ·rcases zd5 h1 with h1|⟨e1,f1⟩
   ·exact ((s.at' n b o h1 h2).laid ha).more ext0_push
   ·have:=(qme h2).1;have:=s.len;omega
  ·rcases zd5 h1 with h1|⟨e1,f1⟩
   ·have:=(qme h1).1;have:=s.len;omega
   ·subst f1 f2
    exact r
theorem Sim.push {a:Addr}{xs:List D}{vs:List V}(s:Sim K ρ S H) (ha:H a=none) (r:RDs ρ H xs vs):Sim K (ρ++[a]) (S++[.lst xs]) (upd H a (.lst vs)) :=
 s.pushG ha ⟨vs,zfj,r.mono (zqh ha)⟩
theorem zdh {α:Type}(l:List α) (a:α):(l++[a])[l.length]? = some a:=by
 rw [List.getElem?_append_right (qlr _)];simp
end
structure RO (ρ:List Addr) (H:Hp) (l:Lo) (σ:St):Prop where
 len:l.length=σ.length
 get:∀(i:Nat) (d:D),l[i]? = some (some d)->∃v,σ[i]? = some (some v)/\RD ρ H d v
theorem RO.mono {ρ ρ':List Addr}{H H':Hp}{l:Lo}{σ:St}(r:RO ρ H l σ) (e:Ext ρ H ρ' H'):RO ρ' H' l σ :=
 ⟨r.len,λi d h=>let ⟨v,h1,h2⟩:=r.get i d h;⟨v,h1,h2.mono e⟩⟩
theorem RO.set {ρ:List Addr}{H:Hp}{l:Lo}{σ:St}{d:D}{v:V}(r:RO ρ H l σ) (i:Nat) (h:RD ρ H d v):RO ρ H (l.set i (some d)) (σ.set i (some v)):=by
 refine ⟨by simp [r.len],λj x hj=>?_⟩
 by_cases hij:i=j
 ·subst hij
  have hl:i<l.length:=by have:=(qme hj).1;simpa using this
  rw [List.getElem?_set_self hl] at hj
  cases hj
  exact ⟨v,List.getElem?_set_self (by rw [<-r.len];exact hl),h⟩
 ·rw [List.getElem?_set_ne hij] at hj
  rw [List.getElem?_set_ne hij]
  exact r.get j x hj
abbrev EM:=Lo->Sto->Option (D × Sto)
abbrev TM:=Lo->Sto->Option (Bool × Sto)
abbrev AM:=Lo->Sto->Option (List D × Sto)
abbrev FM:=List D->Sto->Option (D × Sto)
inductive Fl where
 | nx|bk|ct|rt (d:D)
abbrev SM:=Lo->Sto->Option (Fl × Lo × Sto)
abbrev GM:=D->Lo->Sto->Option (Lo × Sto)
abbrev GsM:=List D->Lo->Sto->Option (Lo × Sto)
def Pv (K:QFg) (ρ:List Addr) (H:Hp) (v:D) (S:Sto) (Q:VK):Prop:=∀ρ' H' v',Ext ρ H ρ' H'->Sim K ρ' S H'->RD ρ' H' v v'->Q v' H'
theorem Pv.ext {K:QFg}{ρ ρ1:List Addr}{H H1:Hp}{v:D}{S:Sto}{Q:VK}(p:Pv K ρ H v S Q) (e:Ext ρ H ρ1 H1):Pv K ρ1 H1 v S Q:=λρ' H' v' e' s r=>p ρ' H' v' (e.trans e') s r
inductive te (K:QFg) (m:EM) (σ:St) (H:Hp) (Q:VK):Prop
 | mk (ρ:_) (l:_) (S:_) (v:_) (S':_) (_:Sim K ρ S H) (_:RO ρ H l σ) (_:m l S=some (v,S')) (_:Pv K ρ H v S' Q)
inductive tt (K:QFg) (m:TM) (σ:St) (H:Hp) (Q:Bool->Hp->Prop):Prop
 | mk (ρ:_) (l:_) (S:_) (v:_) (S':_) (_:Sim K ρ S H) (_:RO ρ H l σ) (_:m l S=some (v,S')) (_:∀ρ' H',Ext ρ H ρ' H'->Sim K ρ' S' H'->Q v H')
inductive ta (K:QFg) (m:AM) (σ:St) (H:Hp) (Q:List V->Hp->Prop):Prop
 | mk (ρ:_) (l:_) (S:_) (v:_) (S':_) (_:Sim K ρ S H) (_:RO ρ H l σ) (_:m l S=some (v,S')) (_:∀ρ' H' vs,Ext ρ H ρ' H'->Sim K ρ' S' H'->RDs ρ' H' v vs->Q vs H')
def zk7 (ρ:List Addr) (H:Hp) (E:Ends) (σ:St):Fl->Prop
 | .nx=>E.nx σ H
 | .bk=>E.bk σ H
 | .ct=>E.ct σ H
 | .rt d=>∀v,RD ρ H d v->E.rt v H
inductive ts (K:QFg) (m:SM) (E:Ends) (σ:St) (H:Hp):Prop
 | mk (ρ:_) (l:_) (S:_) (f:_) (l':_) (S':_) (_:Sim K ρ S H) (_:RO ρ H l σ) (_:m l S=some (f,l',S')) (_:∀ρ' H' σ',Ext ρ H ρ' H'->Sim K ρ' S' H'->RO ρ' H' l' σ'->zk7 ρ' H' E σ' f)
inductive tg (K:QFg) (g:GM) (v:V) (σ:St) (H:Hp) (Q:St->Hp->Prop):Prop
 | mk (ρ:_) (l:_) (S:_) (d:_) (l':_) (S':_) (_:Sim K ρ S H) (_:RO ρ H l σ) (_:RD ρ H d v) (_:g d l S=some (l',S')) (_:∀ρ' H' σ',Ext ρ H ρ' H'->Sim K ρ' S' H'->RO ρ' H' l' σ'->Q σ' H')
inductive tgs (K:QFg) (g:GsM) (vs:List V) (σ:St) (H:Hp) (Q:St->Hp->Prop):Prop
 | mk (ρ:_) (l:_) (S:_) (ds:_) (l':_) (S':_) (_:Sim K ρ S H) (_:RO ρ H l σ) (_:RDs ρ H ds vs) (_:g ds l S=some (l',S')) (_:∀ρ' H' σ',Ext ρ H ρ' H'->Sim K ρ' S' H'->RO ρ' H' l' σ'->Q σ' H')
def PE3 (X:Cx) (e:Expr) (m:EM):Prop:=PE X e (te X.K m)
def PT3 (X:Cx) (e:Expr) (m:TM):Prop:=PT X e (tt X.K m)
def PW3 (X:Cx) (e:Expr) (m:TM):Prop:=PW X e (tt X.K m)
def PA3 (X:Cx) (es:List Expr) (m:AM):Prop:=PA X es (ta X.K m)
def PS3 (X:Cx) (st:Stmt) (m:SM):Prop:=PS X st (ts X.K m)
def zfm (X:Cx) (st:List Stmt) (m:SM):Prop:=PSs X st (ts X.K m)
def PG3 (X:Cx) (tg':Expr) (m:GM):Prop:=PG X tg' (tg X.K m)
def zk8 (X:Cx) (ts':List Expr) (m:GsM):Prop:=PGs X ts' (tgs X.K m)
theorem PE.imp {X:Cx}{e:Expr}{t u:TE}(h:PE X e t) (i:∀σ H Q,u σ H Q->t σ H Q):PE X e u:=λpins s σ H Q I q=>h pins s σ H Q I (i _ _ _ q)
theorem PT.imp {X:Cx}{e:Expr}{t u:TT}(h:PT X e t) (i:∀σ H Q,u σ H Q->t σ H Q):PT X e u:=λpins s σ H Q I q=>h pins s σ H Q I (i _ _ _ q)
theorem PW.imp {X:Cx}{e:Expr}{t u:TT}(h:PW X e t) (i:∀σ H Q,u σ H Q->t σ H Q):PW X e u:=λwh pins s σ H Q I q=>h wh pins s σ H Q I (i _ _ _ q)
theorem PA.imp {X:Cx}{e:List Expr}{t u:TA}(h:PA X e t) (i:∀σ H Q,u σ H Q->t σ H Q):PA X e u:=λpos pins s σ H Q I q=>h pos pins s σ H Q I (i _ _ _ q)
theorem PS.imp {X:Cx}{e:Stmt}{t u:TS}(h:PS X e t) (i:∀E σ H,u E σ H->t E σ H):PS X e u:=λpins s σ H Q I q=>h pins s σ H Q I (i _ _ _ q)
theorem PSs.imp {X:Cx}{e:List Stmt}{t u:TS}(h:PSs X e t) (i:∀E σ H,u E σ H->t E σ H):PSs X e u:=λpins s σ H Q I q=>h pins s σ H Q I (i _ _ _ q)
theorem PG.imp {X:Cx}{e:Expr}{t u:TG}(h:PG X e t) (i:∀v σ H Q,u v σ H Q->t v σ H Q):PG X e u:=λpins s σ H v w Q I r q=>h pins s σ H v w Q I r (i _ _ _ _ q)
theorem PGs.imp {X:Cx}{e:List Expr}{t u:TGs}(h:PGs X e t) (i:∀v σ H Q,u v σ H Q->t v σ H Q):PGs X e u:=λpins s σ H v w Q I r q=>h pins s σ H v w Q I r (i _ _ _ _ q)
inductive Bnd {α β:Type} (o:Option α) (f:α->Option β) (b:β):Prop
 | mk (a:α) (_:o=some a) (_:f a=some b)
theorem bnd {α β:Type}{o:Option α}{f:α->Option β}{b:β}(h:o.bind f=some b):Bnd o f b:=by
 obtain ⟨a,h1,h2⟩:=Option.bind_eq_some_iff.mp h
 exact ⟨a,h1,h2⟩
noncomputable def eVar (i:Nat):EM:=λl S=>match l[i]? with
 | some (some d)=>some (d,S)
 | _=>none
noncomputable def eC (d:D):EM:=λ_ S=>some (d,S)
noncomputable def eOp (f:D->D->Sto->Option (D × Sto)) (a b:EM):EM:=λl S=>(a l S).bind λp=>(b l p.2).bind λq=>f p.1 q.1 q.2
noncomputable def eUn (f:D->Sto->Option (D × Sto)) (a:EM):EM:=λl S=>(a l S).bind λp=>f p.1 p.2
noncomputable def zab:AM:=λ_ S=>some ([],S)
noncomputable def zaa (a:EM) (r:AM):AM:=λl S=>(a l S).bind λp=>(r l p.2).bind λq=>some (p.1 :: q.1,q.2)
noncomputable def zac (f:FM) (as:AM):EM:=λl S=>(as l S).bind λp=>f p.1 p.2
noncomputable def tE (a:EM):TM:=λl S=>(a l S).bind λp=>match p.1 with
 | .bl b=>some (b,p.2)
 | _=>none
noncomputable def zfb (a b:TM):TM:=λl S=>(a l S).bind λp=>if p.1=true then b l p.2 else some (false,p.2)
noncomputable def zdu (a b:TM):TM:=λl S=>(a l S).bind λp=>if p.1=true then some (true,p.2) else b l p.2
noncomputable def zdi (a:TM):TM:=λl S=>(a l S).bind λp=>some (!p.1,p.2)
noncomputable def zfc (a b:EM):EM:=λl S=>(a l S).bind λp=>match p.1 with
 | .bl true=>b l p.2
 | .bl false=>some (.bl false,p.2)
 | _=>none
noncomputable def zgd (a b:EM):EM:=λl S=>(a l S).bind λp=>match p.1 with
 | .bl true=>some (.bl true,p.2)
 | .bl false=>b l p.2
 | _=>none
noncomputable def zg7 (a:EM):EM:=λl S=>(a l S).bind λp=>match p.1 with
 | .bl b=>some (.bl (!b),p.2)
 | _=>none
noncomputable def zm0 (c:TM) (a b:EM):EM:=λl S=>(c l S).bind λp=>if p.1=true then a l p.2 else b l p.2
def Op3 (K:QFg) (f:D->D->Sto->Option (D × Sto)) (r:R2):Prop :=
 ∀ρ S H x y x' y' v S' Q,Sim K ρ S H->RD ρ H x x'->RD ρ H y y'->f x y S=some (v,S')->Pv K ρ H v S' Q->r x' y' H Q
def Fn3 (K:QFg) (f:FM) (r:List V->Hp->VK->Prop):Prop :=
 ∀ρ S H xs vs v S' Q,Sim K ρ S H->RDs ρ H xs vs->f xs S=some (v,S')->Pv K ρ H v S' Q->r vs H Q
def Mt3 (K:QFg) (f:D->List D->Sto->Option (D × Sto)) (r:V->List V->Hp->VK->Prop):Prop :=
 ∀ρ S H x x' xs vs v S' Q,Sim K ρ S H->RD ρ H x x'->RDs ρ H xs vs->f x xs S=some (v,S')->Pv K ρ H v S' Q->r x' vs H Q
theorem zk9 {K:QFg}{f:D->D->Sto->Option (D × Sto)}{r:R2}(h:Op3 K f r) {a b:EM}(σ:St) (H:Hp) (Q:VK) (q:te K (eOp f a b) σ H Q):tOp r (te K a) (te K b) σ H Q:=by
 obtain ⟨ρ,l,S,v,S',sim,ro,hm,p⟩:=q
 obtain ⟨⟨x,S1⟩,h1,hm⟩:=bnd hm
 obtain ⟨⟨y,S2⟩,h2,hm⟩:=bnd hm
 exact ⟨ρ,l,S,x,S1,sim,ro,h1,λρ1 H1 x' e1 s1 r1=>⟨ρ1,l,S1,y,S2,s1,ro.mono e1,h2,λρ2 H2 y' e2 s2 r2=>h ρ2 S2 H2 x y x' y' v S' Q s2 (r1.mono e2) r2 hm (p.ext (e1.trans e2))⟩⟩
section
variable {X:Cx}{a b c:Expr}{es:List Expr}{ma mb:EM}{mA:AM}{pos:Pos}
theorem zad (i:Nat) {x:Str}(hN:X.N[i]? = some x:=by rfl) (hv:Vis X.env.scope x:=by first|exact Or.inl rfl|exact Or.inr (Or.inl rfl)|exact Or.inr (Or.inr rfl)) (hd:(x == ("__debug__":Str))=false:=by decide)
  (hcd:(x == ("__classdict__":Str))=false:=by decide):PE3 X (.Name x pos) (eVar i) :=
 PE.imp (zv5 hN hv hd hcd) λσ H Q hx1_=>by
  obtain ⟨ρ,l,S,v,S',sim,ro,hm,p⟩:=hx1_
  unfold eVar at hm
  split at hm
  ·rename_i d e
   cases hm
   obtain ⟨w,h1,h2⟩:=ro.get i _ e
   exact ⟨w,h1,p ρ H w (Ext.refl ..) sim h2⟩
  ·cases hm
theorem zjg {K:QFg}{d:D}{v:V}(h:∀ρ H,RD ρ H d v) (σ:St) (H:Hp) (Q:VK) (q:te K (eC d) σ H Q):tC v σ H Q:=by
 obtain ⟨ρ,l,S,w,S',sim,ro,hm,p⟩:=q
 cases hm
 exact p ρ H v (Ext.refl ..) sim (h ρ H)
theorem zai {i j}:PE3 X (.Constant (.int i) j pos) (eC (.int i)):=PE.imp zv6 (zjg λ_ _=>.int i)
theorem zge {i j}:PE3 X (.Constant (.bool i) j pos) (eC (.bl i)):=PE.imp zv7 (zjg λ_ _=>.bl i)
theorem zd6 {j}:PE3 X (.Constant .none j pos) (eC .non):=PE.imp zv8 (zjg λ_ _=>.non)
theorem za3 {i j}:PE3 X (.Constant (.str i) j pos) (eC (.str i)):=PE.imp zo4 (zjg λ_ _=>.str i)
theorem zgf {x:Str}{i:Int}{t:Tok}(hg:Gl X x) (hm:X.mg x=some (.int i t)) (hd:(x == ("__debug__":Str))=false:=by decide):PE3 X (.Name x pos) (eC (.int i)) :=
 PE.imp (zv9 hg hm (v:=.int i) ⟨t,rfl⟩ hd) (zjg λ_ _=>.int i)
theorem zh3 {op:Operator}{f:D->D->Sto->Option (D × Sto)}{r:R2}(ho:OpR X (binaryOp op) r) (h3:Op3 X.K f r) (ha:PE3 X a ma) (hb:PE3 X b mb):PE3 X (.BinOp a op b pos) (eOp f ma mb):=PE.imp (zxh ho ha hb) (zk9 h3)
theorem zla {op:CmpOp}{f:D->D->Sto->Option (D × Sto)}{r:R2}(ho:OpR X (compareOp op) r) (h3:Op3 X.K f r) (ha:PE3 X a ma) (hb:PE3 X b mb) (hm:behindInMarks op b=false):PE3 X (.Compare a [op] [b] pos) (eOp f ma mb):=PE.imp (zxs ho ha hb hm) (zk9 h3)
theorem zm1 {K:QFg}{m:EM}(σ:St) (H:Hp) (Q:Bool->Hp->Prop) (q:tt K (tE m) σ H Q):te K m σ H λx H'=>∃k,x=.bl k/\Q k H':=by
 obtain ⟨ρ,l,S,v,S',sim,ro,hm,p⟩:=q
 obtain ⟨⟨x,S1⟩,h1,hm⟩:=bnd hm
 refine ⟨ρ,l,S,x,S1,sim,ro,h1,λρ' H' v' e s r=>?_⟩
 cases r with
 | bl k=>cases hm;exact ⟨_,rfl,p ρ' H' e s⟩
 | _=>cases hm
theorem zfn {op:CmpOp}{f:D->D->Sto->Option (D × Sto)}{r:R2}(ho:OpR X (compareOp op) r) (h3:Op3 X.K f r) (ha:PE3 X a ma) (hb:PE3 X b mb) (hm:behindInMarks op b=false):PT3 X (.Compare a [op] [b] pos) (tE (eOp f ma mb)) :=
 PT.imp (zxt ho ha hb hm) λσ H Q q=>zk9 h3 σ H _ (zm1 σ H Q q)
theorem zfo {m:EM}(h:PE3 X a m) (he:∀whole,isTrue a X.env whole=(do let v <-whole;standAt a.pos;holding [v] (truthy v)):=by intro _;rfl):PT3 X a (tE m) :=
 PT.imp (zwa h he) λσ H Q q=>zm1 σ H Q q
noncomputable def zhk (f g:D->D->Sto->Option (D × Sto)) (a b c:EM):EM:=λl S=>(a l S).bind λp=>(b l p.2).bind λq=>(f p.1 q.1 q.2).bind λr=>match r.1 with
 | .bl true=>(c l r.2).bind λs=>g q.1 s.1 s.2
 | .bl false=>some (.bl false,r.2)
 | _=>none
theorem zqj {K:QFg}{f g:D->D->Sto->Option (D × Sto)}{r r':R2}(h:Op3 K f r) (h':Op3 K g r') {a b c:EM}(σ:St) (H:Hp) (Q:VK) (q:te K (zhk f g a b c) σ H Q):zmr r r' (te K a) (te K b) (te K c) σ H Q:=by
 obtain ⟨ρ,l,S,v,S',sim,ro,hm,p⟩:=q
 obtain ⟨⟨x,S1⟩,h1,hm⟩:=bnd hm
 obtain ⟨⟨y,S2⟩,h2,hm⟩:=bnd hm
 obtain ⟨⟨z,S3⟩,h3,hm⟩:=bnd hm
 refine ⟨ρ,l,S,x,S1,sim,ro,h1,λρ1 H1 x' e1 s1 r1=>⟨ρ1,l,S1,y,S2,s1,ro.mono e1,h2,λρ2 H2 y' e2 s2 r2=>?_⟩⟩
 refine h ρ2 S2 H2 x y x' y' z S3 _ s2 (r1.mono e2) r2 h3 λρ3 H3 z' e3 s3 r3=>?_
 cases r3 with
 | bl k =>
  refine ⟨k,rfl,?_⟩
  cases k with
  | false =>
   cases hm
   exact zgc (p ρ3 H3 _ (e1.trans (e2.trans e3)) s3 (.bl false))
  | true =>
   obtain ⟨⟨w,S4⟩,h4,hm⟩:=bnd hm
   exact zfw ⟨ρ3,l,S3,w,S4,s3,ro.mono (e1.trans (e2.trans e3)),h4,λρ4 H4 w' e4 s4 r4=>h' ρ4 S4 H4 y w y' w' v S' Q s4 (r2.mono (e3.trans e4)) r4 hm (p.ext (e1.trans (e2.trans (e3.trans e4))))⟩
 | _=>cases hm
theorem zy4 {op op':CmpOp}{f g:D->D->Sto->Option (D × Sto)}{r r':R2}{mc:EM}(ho:OpR X (compareOp op) r) (ho':OpR X (compareOp op') r') (h3:Op3 X.K f r) (h3':Op3 X.K g r') (ha:PE3 X a ma) (hb:PE3 X b mb) (hc:PE3 X c mc)
  (hm:lastMarks [op,op'] [b,c]=false:=by with_unfolding_all rfl):PE3 X (.Compare a [op,op'] [b,c] pos) (zhk f g ma mb mc):=PE.imp (zxu ho ho' ha hb hc hm) (zqj h3 h3')
theorem zy5 {op op':CmpOp}{f g:D->D->Sto->Option (D × Sto)}{r r':R2}{mc:EM}(ho:OpR X (compareOp op) r) (ho':OpR X (compareOp op') r') (h3:Op3 X.K f r) (h3':Op3 X.K g r') (ha:PE3 X a ma) (hb:PE3 X b mb) (hc:PE3 X c mc)
  (hm:lastMarks [op,op'] [b,c]=false:=by with_unfolding_all rfl):PT3 X (.Compare a [op,op'] [b,c] pos) (tE (zhk f g ma mb mc)) :=
 PT.imp (zxv ho ho' ha hb hc hm) λσ H Q q=>zqj h3 h3' σ H _ (zm1 σ H Q q)
variable {t u:TM}{rest:List Expr}
theorem zy6 {K:QFg}(σ:St) (H:Hp) (Q:Bool->Hp->Prop) (q:tt K (zfb t u) σ H Q):L2.tAnd (tt K t) (tt K u) σ H Q:=by
 obtain ⟨ρ,l,S,v,S',sim,ro,hm,p⟩:=q
 obtain ⟨⟨x,S1⟩,h1,hm⟩:=bnd hm
 refine ⟨ρ,l,S,x,S1,sim,ro,h1,λρ1 H1 e1 s1=>?_⟩
 cases x with
 | true=>exact zfw ⟨ρ1,l,S1,v,S',s1,ro.mono e1,hm,λρ2 H2 e2 s2=>p ρ2 H2 (e1.trans e2) s2⟩
 | false=>cases hm;exact zgc (p ρ1 H1 e1 s1)
theorem zy7 {K:QFg}(σ:St) (H:Hp) (Q:Bool->Hp->Prop) (q:tt K (zdu t u) σ H Q):L2.tOr (tt K t) (tt K u) σ H Q:=by
 obtain ⟨ρ,l,S,v,S',sim,ro,hm,p⟩:=q
 obtain ⟨⟨x,S1⟩,h1,hm⟩:=bnd hm
 refine ⟨ρ,l,S,x,S1,sim,ro,h1,λρ1 H1 e1 s1=>?_⟩
 cases x with
 | false=>exact zgc ⟨ρ1,l,S1,v,S',s1,ro.mono e1,hm,λρ2 H2 e2 s2=>p ρ2 H2 (e1.trans e2) s2⟩
 | true=>cases hm;exact zfw (p ρ1 H1 e1 s1)
theorem zm2 (ha:PT3 X a t):PW3 X (.BoolOp .And [a] pos) t:=zwc ha
theorem zgg (ha:PT3 X a t):PW3 X (.BoolOp .Or [a] pos) t:=zwd ha
theorem zm3 (ha:PT3 X a t) (hb:PW3 X (.BoolOp .And (b :: rest) pos) u):PW3 X (.BoolOp .And (a :: b :: rest) pos) (zfb t u):=PW.imp (zwe ha hb) zy6
theorem zfx (ha:PT3 X a t) (hb:PW3 X (.BoolOp .Or (b :: rest) pos) u):PW3 X (.BoolOp .Or (a :: b :: rest) pos) (zdu t u):=PW.imp (zwf ha hb) zy7
theorem zfd (h:PW3 X a t):PT3 X a t:=PW.pt h
theorem zfe (ha:PT3 X a t):PT3 X (.UnaryOp .Not a pos) (zdi t):=PT.imp (zwg ha) λσ H Q hx2_=>by
 obtain ⟨ρ,l,S,v,S',sim,ro,hm,p⟩:=hx2_
 obtain ⟨⟨x,S1⟩,h1,hm⟩:=bnd hm
 cases hm
 exact ⟨ρ,l,S,x,S1,sim,ro,h1,p⟩
theorem zik {op}(h:PE3 X a ma):PE3 X (.BoolOp op [a] pos) ma:=zwk h
theorem zjh (ha:PE3 X a ma) (hb:PE3 X (.BoolOp .And (b :: rest) pos) mb):PE3 X (.BoolOp .And (a :: b :: rest) pos) (zfc ma mb):=PE.imp (zwl ha hb) λσ H Q hx3_=>by
 obtain ⟨ρ,l,S,v,S',sim,ro,hm,p⟩:=hx3_
 obtain ⟨⟨x,S1⟩,h1,hm⟩:=bnd hm
 refine ⟨ρ,l,S,x,S1,sim,ro,h1,λρ1 H1 x' e1 s1 r1=>?_⟩
 cases r1 with
 | bl k =>
  refine ⟨k,rfl,?_⟩
  cases k with
  | true=>exact zfw ⟨ρ1,l,S1,v,S',s1,ro.mono e1,hm,p.ext e1⟩
  | false=>cases hm;exact zgc (p ρ1 H1 _ e1 s1 (.bl false))
 | _=>cases hm
theorem zm4 (ha:PE3 X a ma) (hb:PE3 X (.BoolOp .Or (b :: rest) pos) mb):PE3 X (.BoolOp .Or (a :: b :: rest) pos) (zgd ma mb):=PE.imp (zwm ha hb) λσ H Q hx4_=>by
 obtain ⟨ρ,l,S,v,S',sim,ro,hm,p⟩:=hx4_
 obtain ⟨⟨x,S1⟩,h1,hm⟩:=bnd hm
 refine ⟨ρ,l,S,x,S1,sim,ro,h1,λρ1 H1 x' e1 s1 r1=>?_⟩
 cases r1 with
 | bl k =>
  refine ⟨k,rfl,?_⟩
  cases k with
  | false=>exact zgc ⟨ρ1,l,S1,v,S',s1,ro.mono e1,hm,p.ext e1⟩
  | true=>cases hm;exact zfw (p ρ1 H1 _ e1 s1 (.bl true))
 | _=>cases hm
theorem zqk (ha:PE3 X a ma):PE3 X (.UnaryOp .Not a pos) (zg7 ma):=PE.imp (zwn ha) λσ H Q hx5_=>by
 obtain ⟨ρ,l,S,v,S',sim,ro,hm,p⟩:=hx5_
 obtain ⟨⟨x,S1⟩,h1,hm⟩:=bnd hm
 refine ⟨ρ,l,S,x,S1,sim,ro,h1,λρ1 H1 x' e1 s1 r1=>?_⟩
 cases r1 with
 | bl k=>cases hm;exact ⟨k,rfl,p ρ1 H1 _ e1 s1 (.bl _)⟩
 | _=>cases hm
theorem zy8 {mc:TM}(hc:PT3 X c mc) (ha:PE3 X a ma) (hb:PE3 X b mb):PE3 X (.IfExp c a b pos) (zm0 mc ma mb):=PE.imp (zo6 hc ha hb) λσ H Q hx6_=>by
 obtain ⟨ρ,l,S,v,S',sim,ro,hm,p⟩:=hx6_
 obtain ⟨⟨x,S1⟩,h1,hm⟩:=bnd hm
 refine ⟨ρ,l,S,x,S1,sim,ro,h1,λρ1 H1 e1 s1=>?_⟩
 cases x with
 | true=>exact zfw ⟨ρ1,l,S1,v,S',s1,ro.mono e1,hm,p.ext e1⟩
 | false=>exact zgc ⟨ρ1,l,S1,v,S',s1,ro.mono e1,hm,p.ext e1⟩
theorem zaf:PA3 X [] zab:=PA.imp zhz λσ H Q hx7_=>by
 obtain ⟨ρ,l,S,v,S',sim,ro,hm,p⟩:=hx7_
 cases hm
 exact p ρ H [] (Ext.refl ..) sim .nil
theorem zae (ha:PE3 X a ma) (hr:PA3 X es mA) (hs:starEach (a :: es) X.env=(false,eval a X.env) :: starEach es X.env:=by rfl):PA3 X (a :: es) (zaa ma mA):=PA.imp (zfk ha hr hs) λσ H Q hx8_=>by
 obtain ⟨ρ,l,S,v,S',sim,ro,hm,p⟩:=hx8_
 obtain ⟨⟨x,S1⟩,h1,hm⟩:=bnd hm
 obtain ⟨⟨y,S2⟩,h2,hm⟩:=bnd hm
 cases hm
 exact ⟨ρ,l,S,x,S1,sim,ro,h1,λρ1 H1 x' e1 s1 r1=>⟨ρ1,l,S1,y,_,s1,ro.mono e1,h2,λρ2 H2 vs e2 s2 r2=>p ρ2 H2 _ (e1.trans e2) s2 (.cons (r1.mono e2) r2)⟩⟩
noncomputable def zbo:FM:=λxs S=>if xs.length<=sizeLine then some (.tup xs,S) else none
noncomputable def za6:FM:=λxs S=>if xs.length<=sizeLine then some (.ref S.length,S++[.lst xs]) else none
theorem zdl {α:Type}{c:Prop} [Decidable c] {a b:α}(h:(if c then some a else none)=some b):c/\a=b:=by
 by_cases hc:c
 ·rw [if_pos hc] at h;exact ⟨hc,qoi h⟩
 ·rw [if_neg hc] at h;cases h
theorem zil {K:QFg}{ρ:List Addr}{S:Sto}{H:Hp}{xs:List D}{vs:List V}{Q:VK}(sim:Sim K ρ S H) (r:RDs ρ H xs vs) (p:Pv K ρ H (.tup xs) S Q):∀a,H a=none->Q (.ref a) (upd H a (.tup vs)):=λa ha =>
 p ρ _ _ (zfl ha) (sim.laid ha) (.tup zfj (r.mono (zfl ha)))
theorem zh4 {K:QFg}{ρ:List Addr}{S:Sto}{H:Hp}{xs:List D}{vs:List V}{Q:VK}(sim:Sim K ρ S H) (r:RDs ρ H xs vs) (p:Pv K ρ H (.ref S.length) (S++[.lst xs]) Q):∀a,H a=none->Q (.ref a) (upd H a (.lst vs)):=λa ha =>
 p (ρ++[a]) _ _ (zqh ha) (sim.push ha r) (.ref (by rw [<-sim.len];exact zdh ρ a))
theorem zec {x1}(h:PA3 X es mA):PE3 X (.Tuple es x1 pos) (zac zbo mA):=PE.imp (zms h) λσ H Q hx9_=>by
 obtain ⟨ρ,l,S,v,S',sim,ro,hm,p⟩:=hx9_
 obtain ⟨⟨x,S1⟩,h1,hm⟩:=bnd hm
 obtain ⟨hz,e⟩:=zdl hm
 cases e
 exact ⟨ρ,l,S,x,_,sim,ro,h1,λρ1 H1 vs e1 s1 r1=>⟨by rw [<-r1.length];exact hz,zil s1 r1 (p.ext e1)⟩⟩
theorem zdm (h:PA3 X es mA):PE3 X (.List es pos) (zac za6 mA):=PE.imp (zx6 h) λσ H Q hx10_=>by
 obtain ⟨ρ,l,S,v,S',sim,ro,hm,p⟩:=hx10_
 obtain ⟨⟨x,S1⟩,h1,hm⟩:=bnd hm
 obtain ⟨hz,e⟩:=zdl hm
 cases e
 exact ⟨ρ,l,S,x,_,sim,ro,h1,λρ1 H1 vs e1 s1 r1=>⟨by rw [<-r1.length];exact hz,zh4 s1 r1 (p.ext e1)⟩⟩
theorem zql {K:QFg}{f:FM}{r:List V->Hp->VK->Prop}(h3:Fn3 K f r) (σ:St) (H:Hp) (Q:VK) (q:te K (zac f mA) σ H Q):tCB r (ta K mA) σ H Q:=by
 obtain ⟨ρ,l,S,v,S',sim,ro,hm,p⟩:=q
 obtain ⟨⟨x,S1⟩,h1,hm⟩:=bnd hm
 exact ⟨ρ,l,S,x,S1,sim,ro,h1,λρ1 H1 vs e1 s1 r1=>h3 ρ1 S1 H1 x vs v S' Q s1 r1 hm (p.ext e1)⟩
theorem zji {x:Str}{p:Pos}{id:String}{f:FM}{r:List V->Hp->VK->Prop}(hc:CallR X (.builtin id) r) (h3:Fn3 X.K f r) (hg:Gl X x) (hm:X.mg x=none) (hv:bootBuiltins x=some (.builtin id)) (ha:PA3 X (a :: es) mA) (hn:x≠"__name__":=by decide) (hdb:(x == ("__debug__":Str))=false:=by decide)
  (he:starEach (a :: es) X.env=(false,eval a X.env) :: starEach es X.env:=by rfl) (hpl:(backTo pos (starEach es X.env)).any (·.1)=false:=by rfl):PE3 X (.Call (.Name x p) (a :: es) [] pos) (zac f mA) :=
 PE.imp (zje hc hg hm hv ha hn hdb he hpl) (zql h3)
theorem zlb {x:Str}{p:Pos}{T:String}{f:FM}{r:List V->Hp->VK->Prop}(hc:CallR X (.type T) r) (h3:Fn3 X.K f r) (hg:Gl X x) (hm:X.mg x=none) (hv:bootBuiltins x=some (.type T)) (ha:PA3 X (a :: es) mA) (hn:x≠"__name__":=by decide) (hdb:(x == ("__debug__":Str))=false:=by decide)
  (he:starEach (a :: es) X.env=(false,eval a X.env) :: starEach es X.env:=by rfl) (hpl:(backTo pos (starEach es X.env)).any (·.1)=false:=by rfl):PE3 X (.Call (.Name x p) (a :: es) [] pos) (zac f mA) :=
 PE.imp (zpy hc hg hm hv ha hn hdb he hpl) (zql h3)
end
noncomputable def oI (C:Int->Int->Bool) (g:Int->Int->D):D->D->Sto->Option (D × Sto)
 | .int i,.int j,S=>if C i j=true then some (g i j,S) else none
 | _,_,_=>none
noncomputable def oI0 (g:Int->Int->D):D->D->Sto->Option (D × Sto)
 | .int i,.int j,S=>some (g i j,S)
 | _,_,_=>none
theorem zm5 {K:QFg}{C:Int->Int->Bool}{C':Int->Int->Prop}{g:Int->Int->D}{g':Int->Int->V}(hC:∀i j,C i j=true->C' i j) (hg:∀ρ H i j,RD ρ H (g i j) (g' i j)):Op3 K (oI C g) (rI C' g'):=by
 intro ρ S H x y x' y' v S' Q sim rx ry h p
 unfold oI at h
 split at h
 ·rename_i i j
  cases rx;cases ry
  obtain ⟨hc,e⟩:=zdl h
  cases e
  exact ⟨i,j,rfl,rfl,hC i j hc,p ρ H _ (Ext.refl ..) sim (hg ρ H i j)⟩
 ·cases h
theorem zg8 {K:QFg}{g:Int->Int->D}{g':Int->Int->V}(hg:∀ρ H i j,RD ρ H (g i j) (g' i j)):Op3 K (oI0 g) (rI0 g'):=by
 intro ρ S H x y x' y' v S' Q sim rx ry h p
 unfold oI0 at h
 split at h
 ·rename_i i j
  cases rx;cases ry
  cases h
  exact ⟨i,j,rfl,rfl,p ρ H _ (Ext.refl ..) sim (hg ρ H i j)⟩
 ·cases h
theorem Op3.or {K:QFg}{f:D->D->Sto->Option (D × Sto)}{g:D->D->Sto->Option (D × Sto)}{r r':R2}(h:Op3 K f r) (h':Op3 K g r'):Op3 K (λx y S=>match f x y S with|some v=>some v|none=>g x y S) (λx y H Q=>r x y H Q\/r' x y H Q):=by
 intro ρ S H x y x' y' v S' Q sim rx ry hm p
 dsimp only at hm
 cases e:f x y S with
 | some w=>rw [e] at hm;cases hm;exact .inl (h ρ S H x y x' y' _ _ Q sim rx ry e p)
 | none=>rw [e] at hm;exact .inr (h' ρ S H x y x' y' _ _ Q sim rx ry hm p)
noncomputable abbrev zjj:=oI0 λi j=>.int (i-j)
noncomputable abbrev zm6:=oI (λi j=>decide (0<j/\j<1073741824)) λi j=>.int (i / j)
noncomputable abbrev zfy:=oI (λi j=>decide (0<j)) λi j=>.int (i % j)
noncomputable abbrev zjk:=oI (λi j=>decide (0<=j/\j<=1000000/\i.natAbs<2 ^ 64)) λi j=>.int (i ^ j.toNat)
noncomputable abbrev dLt:=oI0 λi j=>.bl (decide (i<j))
noncomputable abbrev dLe:=oI0 λi j=>.bl (decide (i<=j))
noncomputable abbrev dGt:=oI0 λi j=>.bl (decide (j<i))
noncomputable abbrev dGe:=oI0 λi j=>.bl (decide (j<=i))
section
variable {X:Cx}{a b:Expr}{ma mb:EM}{pos:Pos}
theorem zqm (ha:PE3 X a ma) (hb:PE3 X b mb):PE3 X (.BinOp a .Sub b pos) (eOp zjj ma mb):=zh3 zxi (zg8 λ_ _ _ _=>.int _) ha hb
theorem zqn (ha:PE3 X a ma) (hb:PE3 X b mb):PE3 X (.BinOp a .FloorDiv b pos) (eOp zm6 ma mb):=zh3 zxj (zm5 (λi j h=>by first|(unfold CMul;exact of_decide_eq_true h)|(unfold zk3;exact of_decide_eq_true h)|(unfold zk4;exact of_decide_eq_true h)|exact of_decide_eq_true h) λ_ _ _ _=>.int _) ha hb
theorem zgh (ha:PE3 X a ma) (hb:PE3 X b mb):PE3 X (.BinOp a .Mod b pos) (eOp zfy ma mb):=zh3 zxk (zm5 (λi j h=>by first|(unfold CMul;exact of_decide_eq_true h)|(unfold zk3;exact of_decide_eq_true h)|(unfold zk4;exact of_decide_eq_true h)|exact of_decide_eq_true h) λ_ _ _ _=>.int _) ha hb
theorem zlc (ha:PE3 X a ma) (hb:PE3 X b mb):PE3 X (.BinOp a .Pow b pos) (eOp zjk ma mb):=zh3 zxl (zm5 (λi j h=>by first|(unfold CMul;exact of_decide_eq_true h)|(unfold zk3;exact of_decide_eq_true h)|(unfold zk4;exact of_decide_eq_true h)|exact of_decide_eq_true h) λ_ _ _ _=>.int _) ha hb
theorem zy9 (ha:PE3 X a ma) (hb:PE3 X b mb):PE3 X (.Compare a [.Lt] [b] pos) (eOp dLt ma mb):=zla zmp (zg8 λ_ _ _ _=>.bl _) ha hb (zfa b)
theorem zm7 (ha:PE3 X a ma) (hb:PE3 X b mb):PT3 X (.Compare a [.Lt] [b] pos) (tE (eOp dLt ma mb)):=zfn zmp (zg8 λ_ _ _ _=>.bl _) ha hb (zfa b)
theorem zjl (ha:PE3 X a ma) (hb:PE3 X b mb):PT3 X (.Compare a [.Gt] [b] pos) (tE (eOp dGt ma mb)):=zfn zxo (zg8 λ_ _ _ _=>.bl _) ha hb (zfa b)
theorem zqo (ha:PE3 X a ma) (hb:PE3 X b mb):PT3 X (.Compare a [.GtE] [b] pos) (tE (eOp dGe ma mb)):=zfn zxp (zg8 λ_ _ _ _=>.bl _) ha hb (zfa b)
end
noncomputable def sEq:D->D->Option Bool
 | .non,.non=>some true | .non,.int _=>some false | .int _,.non=>some false | .non,.bl _=>some false | .bl _,.non=>some false | .non,.str _=>some false | .str _,.non=>some false
 | .int i,.int j=>some (decide (i=j)) | .bl i,.bl j=>some (decide (i=j)) | .str i,.str j=>some (decide (i=j))
 | .int _,.str _=>some false | .str _,.int _=>some false | .bl _,.str _=>some false | .str _,.bl _=>some false
 | _,_=>none
noncomputable def dEq:D->D->Sto->Option (D × Sto):=λx y S=>(sEq x y).bind λb=>some (.bl b,S)
noncomputable def dNe:D->D->Sto->Option (D × Sto):=λx y S=>(sEq x y).bind λb=>some (.bl (!b),S)
theorem zqp {ρ:List Addr}{H:Hp}{x y:D}{x' y':V}{b:Bool}(rx:RD ρ H x x') (ry:RD ρ H y y') (h:sEq x y=some b):zmo x' y' = true/\decide (x' = y')=b:=by
 cases rx <;> cases ry <;> first
  | (cases (show (none:Option Bool)=some b from h))
  | (have h:=qoi h;subst h;exact ⟨rfl,rfl⟩)
  | (have h:=qoi h;subst h;exact ⟨rfl,by simp⟩)
theorem zza {K:QFg}:Op3 K dEq rEq:=by
 intro ρ S H x y x' y' v S' Q sim rx ry h p
 obtain ⟨b,h1,h⟩:=bnd h
 cases h
 obtain ⟨h2,h3⟩:=zqp rx ry h1
 exact ⟨h2,by rw [h3];exact p ρ H _ (Ext.refl ..) sim (.bl b)⟩
theorem zzb {K:QFg}:Op3 K dNe rNe:=by
 intro ρ S H x y x' y' v S' Q sim rx ry h p
 obtain ⟨b,h1,h⟩:=bnd h
 cases h
 obtain ⟨h2,h3⟩:=zqp rx ry h1
 exact ⟨h2,by rw [h3];exact p ρ H _ (Ext.refl ..) sim (.bl _)⟩
noncomputable def zel:D->Bool
 | .non=>true
 | _=>false
noncomputable def dIs:D->D->Sto->Option (D × Sto)
 | x,.non,S=>some (.bl (zel x),S)
 | _,_,_=>none
noncomputable def zim:D->D->Sto->Option (D × Sto)
 | x,.non,S=>some (.bl (!zel x),S)
 | _,_,_=>none
theorem zqq {ρ:List Addr}{H:Hp}{x:D}{x':V}(r:RD ρ H x x'):decide (x' = .non)=zel x:=by
 cases r <;> simp [zel]
theorem zqr {K:QFg}:Op3 K dIs (λx y H Q=>y=.non/\Q (.bl (decide (x=.non))) H):=by
 intro ρ S H x y x' y' v S' Q sim rx ry h p
 unfold dIs at h
 split at h
 ·cases h;cases ry
  exact ⟨rfl,by rw [zqq rx];exact p ρ H _ (Ext.refl ..) sim (.bl _)⟩
 ·cases h
theorem zzc {K:QFg}:Op3 K zim (λx y H Q=>y=.non/\Q (.bl (!decide (x=.non))) H):=by
 intro ρ S H x y x' y' v S' Q sim rx ry h p
 unfold zim at h
 split at h
 ·cases h;cases ry
  exact ⟨rfl,by rw [zqq rx];exact p ρ H _ (Ext.refl ..) sim (.bl _)⟩
 ·cases h
section
variable {X:Cx}{a b:Expr}{ma mb:EM}{pos:Pos}
theorem zqs (ha:PE3 X a ma) (hb:PE3 X b mb):PE3 X (.Compare a [.Is] [b] pos) (eOp dIs ma mb):=zla zpl zqr ha hb (zfa b)
theorem zdn (ha:PE3 X a ma) (hb:PE3 X b mb):PT3 X (.Compare a [.Eq] [b] pos) (tE (eOp dEq ma mb)):=zfn zxm zza ha hb (zfa b)
theorem zgt (ha:PE3 X a ma) (hb:PE3 X b mb):PT3 X (.Compare a [.NotEq] [b] pos) (tE (eOp dNe ma mb)):=zfn zxn zzb ha hb (zfa b)
theorem zm8 (ha:PE3 X a ma) (hb:PE3 X b mb):PT3 X (.Compare a [.Is] [b] pos) (tE (eOp dIs ma mb)):=zfn zpl zqr ha hb (zfa b)
theorem zzd (ha:PE3 X a ma) (hb:PE3 X b mb):PT3 X (.Compare a [.IsNot] [b] pos) (tE (eOp zim ma mb)):=zfn zxq zzc ha hb (zfa b)
end
noncomputable def dIx:D->D->Sto->Option (D × Sto)
 | .tup xs,.int i,S=>(atI xs i).bind λv=>some (v,S)
 | .ref n,.int i,S=>(lstOf S n).bind λxs=>(atI xs i).bind λv=>some (v,S)
 | _,_,_=>none
theorem zqt {ρ:List Addr}{H:Hp}{xs:List D}{vs:List V}{i:Int}{x:D}(r:RDs ρ H xs vs) (h:atI xs i=some x):∃v,atI vs i=some v/\RD ρ H x v:=by
 unfold atI at h ⊢
 rw [<-r.length]
 cases e:ixN xs.length i with
 | none=>rw [e] at h;cases h
 | some j =>
  rw [e] at h
  exact r.get (i:=j) h
theorem zze {K:QFg}:Op3 K dIx (rIx K):=by
 intro ρ S H x y x' y' v S' Q sim rx ry h p
 unfold dIx at h
 split at h
 ·cases ry
  obtain ⟨w,h1,h⟩:=bnd h
  cases h
  cases rx with
  | tup ha r =>
   obtain ⟨u,h2,r2⟩:=zqt r h1
   exact .inr (.inl ⟨_,_,_,u,rfl,rfl,SqT.of ha,h2,p ρ H u (Ext.refl ..) sim r2⟩)
 ·cases ry
  obtain ⟨xs,h0,h⟩:=bnd h
  obtain ⟨w,h1,h⟩:=bnd h
  cases h
  cases rx with
  | ref hn =>
   obtain ⟨a,vs,ha,sq,r⟩:=sim.lstOf h0
   rw [ha] at hn;cases hn
   obtain ⟨u,h2,r2⟩:=zqt r h1
   exact .inl ⟨_,_,_,u,rfl,rfl,sq,h2,p ρ H u (Ext.refl ..) sim r2⟩
 ·cases h
section
variable {X:Cx}{a b:Expr}{ma mb:EM}{pos:Pos}
end
abbrev OM:=Lo->Sto->Option (Option Int × Sto)
noncomputable def zda:OM:=λ_ S=>some (none,S)
noncomputable def zbb (m:EM):OM:=λl S=>(m l S).bind λp=>match p.1 with
 | .int i=>some (some i,p.2)
 | _=>none
noncomputable def zg9 (xs:List D) (lo hi:Option Int):List D:=(xs.drop (HT.sIx xs.length 0 lo)).take (HT.sIx xs.length xs.length hi-HT.sIx xs.length 0 lo)
inductive tO (K:QFg) (m:OM) (σ:St) (H:Hp) (Q:Option Int->Hp->Prop):Prop
 | mk (ρ:_) (l:_) (S:_) (v:_) (S':_) (_:Sim K ρ S H) (_:RO ρ H l σ) (_:m l S=some (v,S')) (_:∀ρ' H',Ext ρ H ρ' H'->Sim K ρ' S' H'->Q v H')
def PO3 (X:Cx) (e:Option Expr) (m:OM):Prop:=PO X e (tO X.K m)
section
variable {X:Cx}{a b:Expr}{ma mb:EM}{pos p2:Pos}{lo hi:Option Expr}{ml mh:OM}
theorem PO.imp {e:Option Expr}{t u:TO}(h:PO X e t) (i:∀σ H Q,u σ H Q->t σ H Q):PO X e u:=λpins s σ H Q I q=>h pins s σ H Q I (i _ _ _ q)
theorem ze3:PO3 X none zda:=PO.imp zyf λσ H Q hx1_=>by
 obtain ⟨ρ,l,S,v,S',sim,ro,hm,p⟩:=hx1_
 cases hm
 exact p ρ H (Ext.refl ..) sim
theorem zd7 (h:PE3 X a ma):PO3 X (some a) (zbb ma):=PO.imp (zyg h) λσ H Q hx2_=>by
 obtain ⟨ρ,l,S,v,S',sim,ro,hm,p⟩:=hx2_
 obtain ⟨⟨x,S1⟩,h1,hm⟩:=bnd hm
 refine ⟨ρ,l,S,x,S1,sim,ro,h1,λρ1 H1 x' e1 s1 r1=>?_⟩
 cases r1 with
 | int i=>cases hm;exact ⟨i,rfl,p ρ1 H1 e1 s1⟩
 | _=>cases hm
end
end L3
namespace HT
open PySem PyProof.Rows
section
variable {prog:Program}{w:World}{A:Around}{E:Value->Shared->Prop}{s:Shared}
theorem getItem_tuple_whole {t sl:Addr}{items:Array Value}{vl vu:Value}{lo hi:Option Int}{Q:Value->Shared->Prop}(ht:IsTup s.heap t items) (hs:s.heap.IsSliceOf sl vl vu .none) (pl:IsPart vl lo) (pu:IsPart vu hi)
  (hw:sIx items.size 0 lo=0/\sIx items.size items.size hi=items.size)
  (h:Q (.ref t) s):wpAny (model prog w) A (getItem (.ref t) (.ref sl)) Q E s:=by
 obtain ⟨os,hos,hcs,hds⟩:=id hs
 have hTs:s.TypeIs (.ref sl) "slice":=⟨os,hos,hcs⟩
 unfold getItem
 try with_reducible refine wpAny_holding ?_
 first|refine qwb (qwp ?_)|skip
 refine qwb (wpAny_sequenceKey ht.typeIs (by decide) ?_)
 refine qwb (wpAny_callSpecial?_slot (name:=Str.ofString "__getitem__") ht.typeIs PyProof.Rows.slot_tuple_getitem
  (wpAny_call_entry PyProof.Rows.slot_tuple_getitem ht.typeIs entry_tuple_getitem ?_ (args_tuple_getitem _ _)))
 show wpAny _ _ (Builtin.Tuple.tupleItemsOf (.ref t) >>= _) _ _ s
 refine qwb (tupleItemsOf_ ht ?_)
 refine qwb (wpAny_typeOf hTs ?_)
 rw [if_pos (by decide)]
 refine qwb (zp1 hs pl pu ?_)
 have hyes:((((sIx items.size 0 lo:Nat):Int) == 0 && (1:Int) == 1 && (sIx items.size items.size hi-sIx items.size 0 lo) == items.size)=true):=by
  rw [hw.1,hw.2];simp
 show wpAny _ _ (if (((sIx items.size 0 lo:Nat):Int) == 0 && (1:Int) == 1 && (sIx items.size items.size hi-sIx items.size 0 lo) == items.size)=true then _ else _) _ _ s
 rw [if_pos hyes]
 unfold Builtin.Tuple.tupleIsExact
 refine qwb (qwb (wpAny_typeOf ht.typeIs (qwp ?_)))
 rw [if_pos (by decide)]
 exact qwb (wpAny_rule (qwb (qwp (qwp ⟨_,rfl,qwp h⟩))))
end
end HT
namespace L3
open PySem PySem.Spec PyProof.Rows L2
section
variable {X:Cx}{a b:Expr}{ma mb:EM}{pos p2:Pos}{lo hi:Option Expr}{ml mh:OM}
def zzf (K:QFg):V->Option Int->Option Int->Hp->VK->Prop:=λx lo hi H Q=>∃a xs,x=.ref a/\SqT K H a xs /\
 (HT.sIx xs.length 0 lo=0/\HT.sIx xs.length xs.length hi=xs.length)/\Q (.ref a) H
theorem zzg:SlR X (zzf X.K):=by
 intro pins s σ H x v vl vu lo hi sl Q I rx hs pl pu h
 obtain ⟨a,xs,rfl,hx,hw,q⟩:=h
 cases rx
 obtain ⟨its,r,ht,hz⟩:=I.tuple hx
 have hlen:its.toArray.size=xs.length:=by rw [List.size_toArray];exact r.length.symm
 refine ⟨"tuple",_,PyProof.Rows.slot_tuple_getitem.lookup,ht.typeIs,?_⟩
 exact HT.getItem_tuple_whole ht hs pl pu (by rw [hlen];exact hw) ⟨.ref a,H,I,rfl,q⟩
theorem zzh (xs:List D) (lo hi:Option Int) (h:HT.sIx xs.length 0 lo=0/\HT.sIx xs.length xs.length hi=xs.length):zg9 xs lo hi=xs:=by
 unfold zg9;rw [h.1,h.2];simp
end
noncomputable def zm9:D->D->Sto->Option (D × Sto)
 | .tup xs,.tup ys,S=>if xs.length+ys.length<=sizeLine then some (.tup (xs++ys),S) else none
 | _,_,_=>none
def zna (K:QFg):R2:=λx y H Q=>∃a b ys,x=.ref a/\y=.ref b/\SqT K H a []/\SqT K H b ys/\Q (.ref b) H
theorem zzi {X:Cx}:OpR X (binaryOp .Add) (zna X.K):=by
 intro pins s σ H x y v u Q I rx ry h
 obtain ⟨a,b,ys,rfl,rfl,ha,hb,q⟩:=h
 cases rx
 cases ry
 obtain ⟨its,r1,p1,_⟩:=I.tuple ha
 obtain ⟨its2,r2,p2,_⟩:=I.tuple hb
 cases r1
 obtain ⟨⟨cls,dd,data,sl⟩,ho,hc,n,hd⟩:=id p1
 obtain ⟨⟨cls2,dd2,data2,sl2⟩,ho2,hc2,n2,hd2⟩:=id p2
 simp only at hc hd hc2 hd2
 subst hc hd hc2 hd2
 exact concat_meets ⟨_,ho,rfl⟩ ⟨_,ho2,rfl⟩ noFill_tuple_add seq_tuple_add PySem.F.slot_tuple_add PySem.F.entry_tuple_add (PySem.F.args_tuple_add_2 _ _)
   (tuple_addW0 a b ([]:List Value).toArray its2.toArray n n2 dd dd2 sl sl2 (by simp)) ⟨ho,ho2,⟨.ref b,H,I,rfl,q⟩⟩
theorem zzj {K:QFg}:Op3 K zm9 (λx y H Q=>zmt K x y H Q\/zna K x y H Q):=by
 intro ρ S H x y x' y' v S' Q sim rx ry h p
 unfold zm9 at h
 split at h
 ·obtain ⟨hz,e⟩:=zdl h
  cases e
  cases rx with
  | @tup xs a vs ha r =>
   cases ry with
   | @tup ys b ws hb q =>
    cases r with
    | nil=>exact .inr ⟨a,b,ws,rfl,rfl,SqT.of ha,SqT.of hb,p ρ H _ (Ext.refl ..) sim (.tup hb q)⟩
    | cons r1 r2 =>
     refine .inl ⟨a,b,_,ws,rfl,rfl,SqT.of ha,SqT.of hb,by simp,by rw [<-(RDs.cons r1 r2).length,<-q.length];exact hz,λe=>?_,λ_=>?_⟩
     ·subst e
      cases q
      rw [List.append_nil] at p
      exact p ρ H _ (Ext.refl ..) sim (.tup ha (.cons r1 r2))
     ·exact zil sim ((RDs.cons r1 r2).append q) p
 ·cases h
section
variable {X:Cx}{a b:Expr}{ma mb:EM}{pos:Pos}
end
noncomputable def zjm:FM
 | [.tup xs],S=>some (.int xs.length,S)
 | [.ref n],S=>(lstOf S n).bind λxs=>some (.int xs.length,S)
 | _,_=>none
noncomputable def znb:FM
 | [.int i],S=>some (.int i,S)
 | [.bl b],S=>some (.int (if b then 1 else 0),S)
 | _,_=>none
noncomputable def zdb:FM
 | [.tup xs],S=>some (.tup xs,S)
 | [.ref n],S=>(lstOf S n).bind λxs=>some (.tup xs,S)
 | _,_=>none
noncomputable def zjn:FM
 | [.tup xs],S=>some (.ref S.length,S++[.lst xs])
 | [.ref n],S=>(lstOf S n).bind λxs=>some (.ref S.length,S++[.lst xs])
 | _,_=>none
noncomputable def zjo:FM
 | [.int i,.int j],S=>some (.int (if j<i then j else i),S)
 | _,_=>none
noncomputable def zjp:FM
 | [.int i,.int j],S=>some (.int (if j > i then j else i),S)
 | _,_=>none
section
variable {K:QFg}
theorem zzk:Fn3 K zjm (λxs H Q=>∃p ys,xs=[.ref p]/\(SqL K H p ys\/SqT K H p ys)/\Q (.int ys.length) H):=by
 intro ρ S H xs vs v S' Q sim r h p
 unfold zjm at h
 split at h
 ·cases h
  obtain ⟨w,rfl,rw'⟩:=r.one
  cases rw' with
  | tup ha r2=>exact ⟨_,_,rfl,.inr (SqT.of ha),by rw [<-r2.length];exact p ρ H _ (Ext.refl ..) sim (.int _)⟩
 ·obtain ⟨ys,h1,h⟩:=bnd h
  cases h
  obtain ⟨w,rfl,rw'⟩:=r.one
  obtain ⟨a,us,ha,sq,r2⟩:=sim.lstOf h1
  cases rw' with
  | ref hn =>
   rw [ha] at hn;cases hn
   exact ⟨_,_,rfl,.inl sq,by rw [<-r2.length];exact p ρ H _ (Ext.refl ..) sim (.int _)⟩
 ·cases h
theorem zzl:Fn3 K znb (λxs H Q=>(∃i,xs=[.int i]/\Q (.int i) H)\/∃k,xs=[.bl k]/\Q (.int (if k then 1 else 0)) H):=by
 intro ρ S H xs vs v S' Q sim r h p
 unfold znb at h
 split at h
 ·cases h
  obtain ⟨w,rfl,rw'⟩:=r.one
  cases rw'
  exact .inl ⟨_,rfl,p ρ H _ (Ext.refl ..) sim (.int _)⟩
 ·cases h
  obtain ⟨w,rfl,rw'⟩:=r.one
  cases rw'
  exact .inr ⟨_,rfl,p ρ H _ (Ext.refl ..) sim (.int _)⟩
 ·cases h
theorem zzm:Fn3 K zjo (λxs H Q=>∃i j,xs=[.int i,.int j]/\Q (.int (if j<i then j else i)) H):=by
 intro ρ S H xs vs v S' Q sim r h p
 unfold zjo at h
 split at h
 ·cases h
  obtain ⟨w,u,rfl,rw',ru⟩:=r.two
  cases rw';cases ru
  exact ⟨_,_,rfl,p ρ H _ (Ext.refl ..) sim (.int _)⟩
 ·cases h
theorem zzn:Fn3 K zjp (λxs H Q=>∃i j,xs=[.int i,.int j]/\Q (.int (if j > i then j else i)) H):=by
 intro ρ S H xs vs v S' Q sim r h p
 unfold zjp at h
 split at h
 ·cases h
  obtain ⟨w,u,rfl,rw',ru⟩:=r.two
  cases rw';cases ru
  exact ⟨_,_,rfl,p ρ H _ (Ext.refl ..) sim (.int _)⟩
 ·cases h
theorem zzo:Fn3 K zdb (λxs H Q=>∃p ys,xs=[.ref p]/\((SqL K H p ys/\∀l,H l=none->Q (.ref l) (upd H l (.tup ys)))\/(SqT K H p ys/\Q (.ref p) H))):=by
 intro ρ S H xs vs v S' Q sim r h p
 unfold zdb at h
 split at h
 ·cases h
  obtain ⟨w,rfl,rw'⟩:=r.one
  cases rw' with
  | tup ha r2=>exact ⟨_,_,rfl,.inr ⟨SqT.of ha,p ρ H _ (Ext.refl ..) sim (.tup ha r2)⟩⟩
 ·obtain ⟨ys,h1,h⟩:=bnd h
  cases h
  obtain ⟨w,rfl,rw'⟩:=r.one
  obtain ⟨a,us,ha,sq,r2⟩:=sim.lstOf h1
  cases rw' with
  | ref hn =>
   rw [ha] at hn;cases hn
   exact ⟨_,_,rfl,.inl ⟨sq,zil sim r2 p⟩⟩
 ·cases h
theorem zzp:Fn3 K zjn (λxs H Q=>∃p ys,xs=[.ref p]/\(SqL K H p ys\/SqT K H p ys)/\∀l,H l=none->Q (.ref l) (upd H l (.lst ys))):=by
 intro ρ S H xs vs v S' Q sim r h p
 unfold zjn at h
 split at h
 ·cases h
  obtain ⟨w,rfl,rw'⟩:=r.one
  cases rw' with
  | tup ha r2=>exact ⟨_,_,rfl,.inr (SqT.of ha),zh4 sim r2 p⟩
 ·obtain ⟨ys,h1,h⟩:=bnd h
  cases h
  obtain ⟨w,rfl,rw'⟩:=r.one
  obtain ⟨a,us,ha,sq,r2⟩:=sim.lstOf h1
  cases rw' with
  | ref hn =>
   rw [ha] at hn;cases hn
   exact ⟨_,_,rfl,.inl sq,zh4 sim r2 p⟩
 ·cases h
end
noncomputable def tyD (S:Sto):D->Option String
 | .non=>some "NoneType" | .bl _=>some "bool" | .int _=>some "int" | .str _=>some "str" | .tup _=>some "tuple"
 | .ref n=>match S[n]? with
  | some (.lst _)=>some "list"
  | some (.dct _)=>some "dict"
  | _=>none
 | .fn _=>none
noncomputable def isI (T U:String):Bool:=T == U || (T == "bool" && U == "int")
noncomputable def zfp (U:String):D->Sto->Option (D × Sto):=λx S=>(tyD S x).bind λT=>some (.bl (isI T U),S)
noncomputable def zfq:D->List D->Sto->Option (D × Sto)
 | .ref n,[x],S=>match S[n]? with
  | some (.lst xs)=>if xs.length<sizeLine then some (.non,S.set n (.lst (xs++[x]))) else none
  | _=>none
 | _,_,_=>none
section
variable {K:QFg}
theorem zzq:Mt3 K zfq zp9:=by
 intro ρ S H x x' xs vs v S' Q sim rx r h p
 unfold zfq at h
 split at h
 ·split at h
  ·rename_i n y S ys e
   obtain ⟨hz,e2⟩:=zdl h
   cases e2
   obtain ⟨w,rfl,rw'⟩:=r.one
   obtain ⟨a,us,ha,hH,r2⟩:=sim.lst e
   cases rx with
   | ref hn =>
    rw [ha] at hn;cases hn
    exact ⟨a,us,w,rfl,rfl,hH,by rw [<-r2.length];exact hz,p ρ _ _ (zqg ha hH) (sim.set ha e hH (r2.append (.cons rw' .nil))) .non⟩
  ·cases h
 ·cases h
end
noncomputable def zhl:D->Sto->Option (List D)
 | .ref n,S=>lstOf S n
 | _,_=>none
noncomputable def zfr (f:D->List D->Sto->Option (D × Sto)) (o:EM) (as:AM):EM:=λl S=>(o l S).bind λp=>(zhl p.1 p.2).bind λ_=>(as l p.2).bind λq=>f p.1 q.1 q.2
section
variable {X:Cx}{a o e:Expr}{es:List Expr}{mo:EM}{mA:AM}{name:Str}{apos cpos pos:Pos}{id:String}{f:D->List D->Sto->Option (D × Sto)}{r:V->List V->Hp->VK->Prop}
theorem zzr {K:QFg}{ρ:List Addr}{S:Sto}{H:Hp}{x:D}{x':V}{xs:List D}(sim:Sim K ρ S H) (rx:RD ρ H x x') (h:zhl x S=some xs):tyV K "list" x' H:=by
 unfold zhl at h
 split at h
 ·obtain ⟨a,us,ha,sq,r2⟩:=sim.lstOf h
  cases rx with
  | ref hn =>
   rw [ha] at hn;cases hn
   exact .inl ⟨rfl,us,sq⟩
 ·cases h
theorem zzs (slot:Slot "list" name id) (hty:typeOf (.builtin id)=pure (.type "method_descriptor")) (hm:MtM X id r) (h3:Mt3 X.K f r) (ho:PE3 X o mo) (ha:PA3 X (e :: es) mA)
  (hbase:attributeBase o name X.env (eval o X.env)=eval o X.env:=by rfl)
  (hfew:((backTo cpos (starEach (e :: es) X.env)).all (λx=>!x.1) && (backToKw cpos (keywordEach [] X.env)).all (λx=>x.1.isSome)
   && decide ((e :: es).length+([]:List Keyword).length+(if ([]:List Keyword).isEmpty then 0 else 1)<30))=true:=by rfl)
  (hline:(apos.endLine == cpos.line)=true:=by rfl) (hs:starEach (e :: es) X.env=(false,eval e X.env) :: starEach es X.env:=by rfl) (hplain:(backTo cpos (starEach es X.env)).any (·.1)=false:=by rfl) :
  PE3 X (.Call (.Attribute o name apos) (e :: es) [] cpos) (zfr f mo mA) :=
 PE.imp (zmx PySem.F.plainAttrs_list slot hty hm ho ha hbase hfew hline hs hplain) λσ H Q hx1_=>by
  obtain ⟨ρ,l,S,v,S',sim,ro,hq,p⟩:=hx1_
  obtain ⟨⟨x,S1⟩,h1,hq⟩:=bnd hq
  obtain ⟨xs,h2,hq⟩:=bnd hq
  obtain ⟨⟨ys,S2⟩,h4,hq⟩:=bnd hq
  exact ⟨ρ,l,S,x,S1,sim,ro,h1,λρ1 H1 x' e1 s1 r1=>⟨zzr s1 r1 h2,ρ1,l,S1,ys,S2,s1,ro.mono e1,h4,λρ2 H2 vs e2 s2 r2=>h3 ρ2 S2 H2 x x' ys vs v S' Q s2 (r1.mono e2) r2 hq (p.ext (e1.trans e2))⟩⟩
theorem zld {m:EM}(ho:PE3 X o mo) (he:PE3 X e m)
  (hbase:attributeBase o "append" X.env (eval o X.env)=eval o X.env:=by rfl)
  (hfew:((backTo cpos (starEach [e] X.env)).all (λx=>!x.1) && (backToKw cpos (keywordEach [] X.env)).all (λx=>x.1.isSome)
   && decide ([e].length+([]:List Keyword).length+(if ([]:List Keyword).isEmpty then 0 else 1)<30))=true:=by rfl)
  (hline:(apos.endLine == cpos.line)=true:=by rfl) (hs:starEach [e] X.env=(false,eval e X.env) :: starEach [] X.env:=by rfl) :
  PE3 X (.Call (.Attribute o "append" apos) [e] [] cpos) (zfr zfq mo (zaa m zab)) :=
 zzs PySem.F.slot_list_append PySem.F.type_list_append zqa zzq ho (zae he zaf hs) hbase hfew hline hs
end
section
variable {X:Cx}{a:Expr}{ma:EM}{pos p p2:Pos}
theorem zzt {K:QFg}{T U:String}(hT:T∈["NoneType","bool","int","str","tuple","list","dict"]) (hU:U∈["bool","int","str","tuple","list"]):PySem.W.kitOne K (.type T) (.type U)=some (isI T U):=by
 simp only [List.mem_cons,List.not_mem_nil,or_false] at hT hU
 rcases hT with rfl|rfl|rfl|rfl|rfl|rfl|rfl <;> rcases hU with rfl|rfl|rfl|rfl|rfl <;> rfl
theorem zhm {U:String}{y:Str}(hg:Gl X "isinstance") (hm:X.mg "isinstance" = none) (hgy:Gl X y) (hmy:X.mg y=none) (hv:bootBuiltins y=some (.type U)) (hU:U∈["bool","int","str","tuple","list"]) (ha:PE3 X a ma)
  (hn:y≠"__name__":=by decide) (hdb:(y == ("__debug__":Str))=false:=by decide)
  (he:starEach (a :: [.Name y p2]) X.env=(false,eval a X.env) :: starEach [.Name y p2] X.env:=by rfl) (he2:starEach [.Name y p2] X.env=(false,eval (.Name y p2) X.env) :: starEach [] X.env:=by rfl) (hpl:(backTo pos (starEach [.Name y p2] X.env)).any (·.1)=false:=by rfl) :
  PE3 X (.Call (.Name "isinstance" p) [a,.Name y p2] [] pos) (eUn (zfp U) ma):=by
 have hy:PE X (.Name y p2) (tC (.ty U)):=zo5 hgy hmy hv rfl hn hdb
 refine PE.imp (zje (id:="isinstance") (r:=λxs H Q=>∃x T,xs=[x,.ty U]/\TyOf X.K H x (.type T)/\T∈["NoneType","bool","int","str","tuple","list","dict"]/\Q (.bl (isI T U)) H) ?_ hg hm (by decide +kernel) (zfk ha (zfk hy zhz he2) he) (by decide) (by decide) he hpl) ?_
 ·intro pins s σ H xs us Q I r h
  obtain ⟨x,T,rfl,ty,hT,q⟩:=h
  obtain ⟨u1,u2,rfl,r1,r2⟩:=r.two
  cases r2
  exact zx2 I r1 ty (zzt hT hU) λtk=>⟨.bl _,H,I.tok tk,rfl,q⟩
 ·rintro σ H Q ⟨ρ,l,S,v,S',sim,ro,hq,p⟩
  obtain ⟨⟨x,S1⟩,h1,hq⟩:=bnd hq
  obtain ⟨T,h2,hq⟩:=bnd hq
  cases hq
  refine ⟨ρ,l,S,x,_,sim,ro,h1,λρ1 H1 x' e1 s1 r1=>⟨x',T,rfl,?_⟩⟩
  have fin:=p ρ1 H1 _ e1 s1 (.bl (isI T U))
  cases r1 with
  | non=>cases h2;exact ⟨.non,by decide,fin⟩
  | bl b=>cases h2;exact ⟨.bl b,by decide,fin⟩
  | int b=>cases h2;exact ⟨.int b,by decide,fin⟩
  | str b=>cases h2;exact ⟨.str b,by decide,fin⟩
  | tup hh rr=>cases h2;exact ⟨.tup hh,by decide,fin⟩
  | @ref n b hn =>
   unfold tyD at h2
   dsimp only at h2
   split at h2
   ·rename_i ys ey
    cases h2
    obtain ⟨a',us,ha',hH,r2⟩:=s1.lst ey
    rw [ha'] at hn;cases hn
    exact ⟨.lst hH,by decide,fin⟩
   ·rename_i kvs ey
    cases h2
    obtain ⟨us,hH,r2⟩:=s1.at' n b _ hn ey
    exact ⟨.dK hH,by decide,fin⟩
   ·cases h2
  | fn b=>cases h2
end
def sp3 (K:QFg) (n:Nat) (f:FM):Sp:=λvs H Q _=>vs.length=n/\∃ρ ds S v S',Sim K ρ S H/\RDs ρ H ds vs/\f ds S=some (v,S')/\Pv K ρ H v S' Q
section
variable {X:Cx}{a:Expr}{es:List Expr}{mA:AM}{pos p:Pos}{x:Str}{k:Nat}{f:Addr}{fd:FuncData}{ps:List Str}{m:FM}
theorem zzu {n:Nat}(F:FnOk X.prog X.w X.K X.mg X.base CX0 k f fd ps (sp3 X.K n m)) (hr:Room k X.A) (hg:Gl X x) (hm:X.mg x=some (.ref f)) (hk:PySem.W.keepIn X.K (.ref f)=true) (hb:Binds X.K fd ps [])
  (ha:PA3 X (a :: es) mA) (hl:∀l S v S',mA l S=some (v,S')->v.length=n) (hdb:(x == ("__debug__":Str))=false:=by decide) (he:starEach (a :: es) X.env=(false,eval a X.env) :: starEach es X.env:=by rfl) (hpl:(backTo pos (starEach es X.env)).any (·.1)=false:=by rfl) :
  PE3 X (.Call (.Name x p) (a :: es) [] pos) (zac m mA) :=
 PE.imp (zpr F hr hg hm hk hb .nil zqe ha hdb he hpl) λσ H Q hx3_=>by
  obtain ⟨ρ,l,S,v,S',sim,ro,hq,p⟩:=hx3_
  obtain ⟨⟨xs,S1⟩,h1,hq⟩:=bnd hq
  exact ⟨ρ,l,S,xs,S1,sim,ro,h1,λρ1 H1 vs e1 s1 r1=>⟨by rw [List.append_nil,<-r1.length];exact hl _ _ _ _ h1,ρ1,xs,S1,v,S',s1,by rw [List.append_nil];exact r1,hq,p.ext e1⟩⟩
theorem zao:∀l S v S',zab l S=some (v,S')->v.length=0:=λl S v S' h=>by cases h;rfl
theorem zah {n:Nat}{m:EM}{mA:AM}(h:∀l S v S',mA l S=some (v,S')->v.length=n):∀l S v S',zaa m mA l S=some (v,S')->v.length=n+1:=λl S v S' q=>by
 obtain ⟨⟨x,S1⟩,h1,q⟩:=bnd q
 obtain ⟨⟨y,S2⟩,h2,q⟩:=bnd q
 cases q
 rw [List.length_cons,h _ _ _ _ h2]
end
noncomputable def zat:SM:=λl S=>some (.nx,l,S)
noncomputable def zag (a b:SM):SM:=λl S=>(a l S).bind λp=>match p.1 with
 | .nx=>b p.2.1 p.2.2
 | f=>some (f,p.2)
noncomputable def zdz (e:EM):SM:=λl S=>(e l S).bind λp=>some (.nx,l,p.2)
noncomputable def sRet (e:EM):SM:=λl S=>(e l S).bind λp=>some (.rt p.1,l,p.2)
noncomputable def sIf (c:TM) (a b:SM):SM:=λl S=>(c l S).bind λp=>if p.1=true then a l p.2 else b l p.2
noncomputable def zaj (e:EM) (g:GM):SM:=λl S=>(e l S).bind λp=>(g p.1 l p.2).bind λq=>some (.nx,q)
noncomputable def gName3 (i:Nat):GM:=λd l S=>some (l.set i (some d),S)
noncomputable def zgu:GsM
 | [],l,S=>some (l,S)
 | _,_,_=>none
noncomputable def zd3 (g:GM) (r:GsM):GsM
 | x :: xs,l,S=>(g x l S).bind λp=>r xs p.1 p.2
 | _,_,_=>none
noncomputable def zgv (n:Nat) (g:GsM):GM
 | .tup xs,l,S=>if xs.length=n then g xs l S else none
 | _,_,_=>none
noncomputable def zgi:D->D->D->Sto->Option Sto
 | .ref n,.int i,v,S=>match S[n]? with
  | some (.lst xs)=>(ixN xs.length i).bind λj=>some (S.set n (.lst (xs.set j v)))
  | _=>none
 | _,_,_,_=>none
noncomputable def zin (o i:EM):GM:=λv l S=>(o l S).bind λp=>(i l p.2).bind λq=>(zgi p.1 q.1 v q.2).bind λS'=>some (l,S')
section
variable {X:Cx}{st:Stmt}{rest:List Stmt}{m n:SM}{e c:Expr}{me:EM}{pos:Pos}
theorem zbt:zfm X [] zat:=PSs.imp zwr λE σ H hx1_=>by
 obtain ⟨ρ,l,S,f,l',S',sim,ro,hm,p⟩:=hx1_
 cases hm
 exact p ρ H σ (Ext.refl ..) sim ro
theorem zal (h1:PS3 X st m) (h2:zfm X rest n):zfm X (st :: rest) (zag m n):=PSs.imp (zmm h1 h2) λE σ H hx2_=>by
 obtain ⟨ρ,l,S,f,l',S',sim,ro,hm,p⟩:=hx2_
 obtain ⟨⟨g,l1,S1⟩,q1,hm⟩:=bnd hm
 refine ⟨ρ,l,S,g,l1,S1,sim,ro,q1,λρ1 H1 σ1 e1 s1 r1=>?_⟩
 cases g with
 | nx=>exact ⟨ρ1,l1,S1,f,l',S',s1,r1,hm,λρ2 H2 σ2 e2 s2 r2=>p ρ2 H2 σ2 (e1.trans e2) s2 r2⟩
 | bk=>cases hm;exact p ρ1 H1 σ1 e1 s1 r1
 | ct=>cases hm;exact p ρ1 H1 σ1 e1 s1 r1
 | rt d=>cases hm;exact p ρ1 H1 σ1 e1 s1 r1
theorem zan (h1:PS3 X st m):zfm X [st] m:=zws h1
theorem zgw (he:PE3 X e me) (hs:swapsWith e none pos.line X.env=pure false:=by rfl):PS3 X (.Expr e pos) (zdz me):=PS.imp (zo7 he hs) λE σ H hx6_=>by
 obtain ⟨ρ,l,S,f,l',S',sim,ro,hm,p⟩:=hx6_
 obtain ⟨⟨x,S1⟩,q1,hm⟩:=bnd hm
 cases hm
 exact ⟨ρ,l,S,x,_,sim,ro,q1,λρ1 H1 x' e1 s1 _=>p ρ1 H1 σ e1 s1 (ro.mono e1)⟩
theorem zba (he:PE3 X e me):PS3 X (.Return (some e) pos) (sRet me):=PS.imp (zo8 he) λE σ H hx7_=>by
 obtain ⟨ρ,l,S,f,l',S',sim,ro,hm,p⟩:=hx7_
 obtain ⟨⟨x,S1⟩,q1,hm⟩:=bnd hm
 cases hm
 exact ⟨ρ,l,S,x,_,sim,ro,q1,λρ1 H1 x' e1 s1 r1=>p ρ1 H1 σ e1 s1 (ro.mono e1) x' r1⟩
theorem zbn {c:Expr}{a b:List Stmt}{mc:TM}(hc:PT3 X c mc) (ha:zfm X a m) (hb:zfm X b n):PS3 X (.If c a b pos) (sIf mc m n):=PS.imp (zo9 hc ha hb) λE σ H hx9_=>by
 obtain ⟨ρ,l,S,f,l',S',sim,ro,hm,p⟩:=hx9_
 obtain ⟨⟨x,S1⟩,q1,hm⟩:=bnd hm
 refine ⟨ρ,l,S,x,S1,sim,ro,q1,λρ1 H1 e1 s1=>?_⟩
 cases x with
 | true=>exact zfw ⟨ρ1,l,S1,f,l',S',s1,ro.mono e1,hm,λρ2 H2 σ2 e2 s2 r2=>p ρ2 H2 σ2 (e1.trans e2) s2 r2⟩
 | false=>exact zgc ⟨ρ1,l,S1,f,l',S',s1,ro.mono e1,hm,λρ2 H2 σ2 e2 s2 r2=>p ρ2 H2 σ2 (e1.trans e2) s2 r2⟩
noncomputable def ze4:SM:=λ_ _=>none
theorem zh5:PS3 X st ze4:=PS.imp zwx λE σ H hx10_=>by obtain ⟨ρ,l,S,f,l',S',sim,ro,hm,p⟩:=hx10_;cases hm
variable {tgt o i:Expr}{g:GM}{gs:GsM}{ts':List Expr}{mo mi:EM}
theorem zcp (j:Nat) {x:Str}(hN:X.N.Nodup) (hi:X.N[j]? = some x:=by rfl) (hx:Loc X.env.scope x:=by first|exact Or.inl rfl|exact Or.inr rfl) (hf:X.fn x=true\/X.env.scope.names.lookup x=some .local:=by first|exact .inl rfl|exact .inr rfl|assumption):PG3 X (.Name x pos) (gName3 j) :=
 PG.imp (zwy hN hi hx hf) λv σ H Q hx11_=>by
  obtain ⟨ρ,l,S,d,l',S',sim,ro,rd,hm,p⟩:=hx11_
  cases hm
  exact p ρ H _ (Ext.refl ..) sim (ro.set j rd)
theorem zjq:zk8 X [] zgu:=PGs.imp zw1 λv σ H Q hx12_=>by
 obtain ⟨ρ,l,S,d,l',S',sim,ro,rd,hm,p⟩:=hx12_
 cases rd with
 | nil=>cases hm;exact ⟨rfl,p ρ H _ (Ext.refl ..) sim ro⟩
 | cons _ _=>cases hm
theorem zfz (h1:PG3 X tgt g) (h2:zk8 X ts' gs) (hs:(assignEach (tgt :: ts') X.env).map (·.2)=assign tgt X.env :: (assignEach ts' X.env).map (·.2):=by rfl):zk8 X (tgt :: ts') (zd3 g gs):=PGs.imp (zw2 h1 h2 hs) λv σ H Q hx13_=>by
 obtain ⟨ρ,l,S,d,l',S',sim,ro,rd,hm,p⟩:=hx13_
 cases rd with
 | nil=>cases hm
 | @cons x v' xs vs r1 r2 =>
  obtain ⟨⟨l1,S1⟩,q1,hm⟩:=bnd hm
  exact ⟨v',vs,rfl,ρ,l,S,x,l1,S1,sim,ro,r1,q1,λρ1 H1 σ1 e1 s1 ro1=>⟨ρ1,l1,S1,xs,l',S',s1,ro1,r2.mono e1,hm,λρ2 H2 σ2 e2 s2 ro2=>p ρ2 H2 σ2 (e1.trans e2) s2 ro2⟩⟩
theorem zjr {es:List Expr}{k n:Nat}(hc:X.calm=true) (h:zk8 X es gs) (hn:(assignEach es X.env).length=n:=by rfl) (hst:(assignEach es X.env).findIdx? (·.1)=none:=by rfl):PG3 X (.Tuple es k pos) (zgv n gs) :=
 PG.imp (zw4 hc h hn hst) λv σ H Q hx14_=>by
  obtain ⟨ρ,l,S,d,l',S',sim,ro,rd,hm,p⟩:=hx14_
  cases rd with
  | @tup xs a vs ha r =>
   have hm:(if xs.length=n then gs xs l S else none)=some (l',S'):=hm
   by_cases hl:xs.length=n
   ·rw [if_pos hl] at hm
    exact ⟨a,vs,rfl,SqT.of ha,by rw [<-r.length];exact hl,ρ,l,S,xs,l',S',sim,ro,r,hm,p⟩
   ·rw [if_neg hl] at hm;cases hm
  | _=>cases hm
theorem zzv {K:QFg}{ρ:List Addr}{S S':Sto}{H:Hp}{x y z:D}{x' y' z':V}{Q:Hp->Prop}(sim:Sim K ρ S H) (rx:RD ρ H x x') (ry:RD ρ H y y') (rz:RD ρ H z z') (h:zgi x y z S=some S') (q:∀H',Ext ρ H ρ H'->Sim K ρ S' H'->Q H'):rSetL x' y' z' H Q:=by
 unfold zgi at h
 split at h
 ·split at h
  ·rename_i hx
   obtain ⟨j,hj,h⟩:=bnd h
   cases h
   cases ry
   obtain ⟨a,us,ha',hH,r3⟩:=sim.lst hx
   cases rx with
   | ref hn =>
    rw [ha'] at hn;cases hn
    exact ⟨a,us,_,j,rfl,rfl,hH,by rw [<-r3.length];exact hj,q _ (zqg ha' hH) (sim.set ha' hx hH (r3.set rz j))⟩
  ·cases h
 ·cases h
theorem znc (ho:PE3 X o mo) (hi:PE3 X i mi)
  (ha:∀v,assign (.Subscript o i pos) X.env v=(do
   let ov <-holding [v] (eval o X.env)
   let iv <-holding [v,ov] (eval i X.env)
   standAt pos
   holding [v,ov,iv] (setItem ov iv v)
   release [v,ov,iv] []):=by intro _;rfl):PG3 X (.Subscript o i pos) (zin mo mi) :=
 PG.imp (zw6 ho hi zym ha) λv σ H Q hx15_=>by
  obtain ⟨ρ,l,S,d,l',S',sim,ro,rd,hm,p⟩:=hx15_
  obtain ⟨⟨x,S1⟩,q1,hm⟩:=bnd hm
  obtain ⟨⟨y,S2⟩,q2,hm⟩:=bnd hm
  obtain ⟨S3,q3,hm⟩:=bnd hm
  cases hm
  exact ⟨ρ,l,S,x,S1,sim,ro,q1,λρ1 H1 x' e1 s1 r1=>⟨ρ1,l,S1,y,S2,s1,ro.mono e1,q2,λρ2 H2 y' e2 s2 r2=>zzv s2 (r1.mono e2) r2 (rd.mono (e1.trans e2)) q3 λH3 e3 s3=>p ρ2 H3 σ (e1.trans (e2.trans e3)) s3 (ro.mono (e1.trans (e2.trans e3)))⟩⟩
theorem zh6 (he:PE3 X e me) (hg:PG3 X tgt g) (hs:swapsWithSole [tgt] e pos.line X.env=pure false:=by rfl) (hw:swappedStores [tgt] e X.env=pure none:=by rfl)
  (h1:(assignEach [tgt] X.env).map (·.2)=[assign tgt X.env]:=by rfl):PS3 X (.Assign [tgt] e pos) (zaj me g):=PS.imp (zpb he hg hs hw h1) λE σ H hx16_=>by
 obtain ⟨ρ,l,S,f,l',S',sim,ro,hm,p⟩:=hx16_
 obtain ⟨⟨x,S1⟩,q1,hm⟩:=bnd hm
 obtain ⟨⟨l2,S2⟩,q2,hm⟩:=bnd hm
 cases hm
 exact ⟨ρ,l,S,x,S1,sim,ro,q1,λρ1 H1 x' e1 s1 r1=>⟨ρ1,l,S1,x,_,_,s1,ro.mono e1,r1,q2,λρ2 H2 σ2 e2 s2 r2=>p ρ2 H2 σ2 (e1.trans e2) s2 r2⟩⟩
theorem za4 (j:Nat) {x:Str}{pos':Pos}(hN:X.N.Nodup) (he:PE3 X e me) (hi:X.N[j]? = some x:=by rfl) (hx:Loc X.env.scope x:=by first|exact Or.inl rfl|exact Or.inr rfl) (hs:swapsWith e (some (.Name x pos')) pos.line X.env=pure false:=by rfl) (hf:X.fn x=true\/X.env.scope.names.lookup x=some .local:=by first|exact .inl rfl|exact .inr rfl|assumption) :
  PS3 X (.Assign [.Name x pos'] e pos) (zaj me (gName3 j)):=PS.imp (zw7 hN hi hx he hs hf) λE σ H hx17_=>by
 obtain ⟨ρ,l,S,f,l',S',sim,ro,hm,p⟩:=hx17_
 obtain ⟨⟨x,S1⟩,q1,hm⟩:=bnd hm
 cases hm
 exact ⟨ρ,l,S,x,_,sim,ro,q1,λρ1 H1 x' e1 s1 r1=>p ρ1 H1 _ e1 s1 ((ro.mono e1).set j r1)⟩
end
noncomputable def zf0 (g:GM) (b:SM):List D->SM
 | [],l,S=>some (.nx,l,S)
 | x :: xs,l,S=>(g x l S).bind λp=>(b p.1 p.2).bind λq=>match q.1 with
  | .nx=>zf0 g b xs q.2.1 q.2.2
  | .ct=>zf0 g b xs q.2.1 q.2.2
  | .bk=>some (.nx,q.2)
  | .rt d=>some (.rt d,q.2)
noncomputable def zf1 (g:GM) (b:SM) (n:Nat):Nat->Nat->SM
 | 0,_,_,_=>none
 | k+1,i,l,S=>(lstOf S n).bind λxs=>match xs[i]? with
  | none=>some (.nx,l,S)
  | some x=>(g x l S).bind λp=>(b p.1 p.2).bind λq=>match q.1 with
   | .nx=>zf1 g b n k (i+1) q.2.1 q.2.2
   | .ct=>zf1 g b n k (i+1) q.2.1 q.2.2
   | .bk=>some (.nx,q.2)
   | .rt d=>some (.rt d,q.2)
noncomputable def zf2 (e:EM) (g:GM) (b:SM):SM:=λl S=>(e l S).bind λp=>match p.1 with
 | .tup xs=>zf0 g b xs l p.2
 | .ref n=>(lstOf p.2 n).bind λxs=>zf1 g b n (xs.length+1) 0 l p.2
 | _=>none
noncomputable def zd8 (lo:Int) (n:Nat):List D:=(List.range n).map λ(i:Nat)=>.int (lo+i)
noncomputable def zeg (as:AM):Lo->Sto->Option ((Int × Nat) × Sto):=λl S=>(as l S).bind λp=>match p.1 with
 | [.int j]=>if -(2 ^ 62)<=j/\j<2 ^ 62 then some ((0,j.toNat),p.2) else none
 | _=>none
noncomputable def zgj (r:Lo->Sto->Option ((Int × Nat) × Sto)) (g:GM) (b:SM):SM:=λl S=>(r l S).bind λp=>zf0 g b (zd8 p.1.1 p.1.2) l p.2
section
variable {K:QFg}{g:GM}{b:SM}{E:Ends}
theorem zqu {next:SM}{x:D}{v:V}{ρ:List Addr}{l:Lo}{S:Sto}{H:Hp}{σ:St}{f:Fl}{l':Lo}{S':Sto}(sim:Sim K ρ S H) (ro:RO ρ H l σ) (rx:RD ρ H x v)
  (hm:((g x l S).bind λp=>(b p.1 p.2).bind λq=>match q.1 with
   | .nx=>next q.2.1 q.2.2
   | .ct=>next q.2.1 q.2.2
   | .bk=>some (.nx,q.2)
   | .rt d=>some (.rt d,q.2))=some (f,l',S')) (p:∀ρ' H' σ',Ext ρ H ρ' H'->Sim K ρ' S' H'->RO ρ' H' l' σ'->zk7 ρ' H' E σ' f)
  {N:St->Hp->Prop} (hN:∀ρ1 H1 σ1 l1 S1,Ext ρ H ρ1 H1->Sim K ρ1 S1 H1->RO ρ1 H1 l1 σ1->next l1 S1=some (f,l',S')->N σ1 H1) :
  tg K g v σ H λσ2 H2=>ts K b { E with nx:=N,ct:=N,bk:=E.nx } σ2 H2:=by
 obtain ⟨⟨l1,S1⟩,q1,hm⟩:=bnd hm
 obtain ⟨⟨fl,l2,S2⟩,q2,hm⟩:=bnd hm
 refine ⟨ρ,l,S,x,l1,S1,sim,ro,rx,q1,λρ1 H1 σ1 e1 s1 r1=>⟨ρ1,l1,S1,fl,l2,S2,s1,r1,q2,λρ2 H2 σ2 e2 s2 r2=>?_⟩⟩
 cases fl with
 | nx=>exact hN ρ2 H2 σ2 l2 S2 (e1.trans e2) s2 r2 hm
 | ct=>exact hN ρ2 H2 σ2 l2 S2 (e1.trans e2) s2 r2 hm
 | bk=>cases hm;exact p ρ2 H2 σ2 (e1.trans e2) s2 r2
 | rt d=>cases hm;exact p ρ2 H2 σ2 (e1.trans e2) s2 r2
end
section
variable {X:Cx}{tgt iter:Expr}{body:List Stmt}{g:GM}{b:SM}{m:EM}{pos:Pos}
theorem zqv {K:QFg}{J:It}{vs:List V}{xs:List D}{ρ:List Addr}{l:Lo}{S:Sto}{H:Hp}{σ:St}{f:Fl}{l':Lo}{S':Sto}{E:Ends}(R:List Addr->Hp->Prop) (hR:∀ρ H ρ' H',Ext ρ H ρ' H'->R ρ H->R ρ' H')
  (hgo:∀(i:Nat) ρ H v,R ρ H->vs[i]? = some v->J.go i H) (hy:∀(i:Nat) ρ H v H',R ρ H->i<vs.length->J.yld i H v H'->H' = H/\vs[i]? = some v) (hst:∀ρ H,R ρ H->J.stop vs.length H)
  (hv:∀ρ H,R ρ H->RDs ρ H xs vs) (r0:R ρ H)
  (sim:Sim K ρ S H) (ro:RO ρ H l σ) (hm:zf0 g b xs l S=some (f,l',S')) (p:∀ρ' H' σ',Ext ρ H ρ' H'->Sim K ρ' S' H'->RO ρ' H' l' σ'->zk7 ρ' H' E σ' f) :
  ∃W:Nat->Nat->St->Hp->Prop,(∃m,W 0 m σ H)/\∀i m σ H,W i m σ H ->
   (J.stop i H/\E.nx σ H)\/(J.go i H/\∃N:St->Hp->Prop,(∀σ' H',N σ' H'->∃m',m' < m/\W (i+1) m' σ' H')/\∀x H',J.yld i H x H'->tg K g x σ H' λσ2 H2=>ts K b { E with nx:=N,ct:=N,bk:=E.nx } σ2 H2):=by
 refine ⟨λi m σ1 H1=>m=xs.length-i/\i<=xs.length/\∃ρ1 l1 S1,Ext ρ H ρ1 H1/\Sim K ρ1 S1 H1/\RO ρ1 H1 l1 σ1/\zf0 g b (xs.drop i) l1 S1=some (f,l',S'),⟨xs.length,by simp,Nat.zero_le _,ρ,l,S,Ext.refl ..,sim,ro,hm⟩,?_⟩
 rintro i m σ1 H1 ⟨rfl,hi,ρ1,l1,S1,e1,s1,ro1,hm1⟩
 have R1:=hR _ _ _ _ e1 r0
 have hlen:=(hv _ _ r0).length
 by_cases hlt:i<xs.length
 ·have hx:xs[i]? = some xs[i]:=qge hlt
  obtain ⟨v,hvi,rv⟩:=(hv _ _ R1).get hx
  rw [List.drop_eq_getElem_cons hlt] at hm1
  refine .inr ⟨hgo i ρ1 H1 v R1 hvi,_,λσ' H' h=>h,λy H' hyl=>?_⟩
  obtain ⟨e,hy2⟩:=hy i ρ1 H1 y H' R1 (by omega) hyl
  subst e
  rw [hvi] at hy2;cases hy2
  refine zqu (next:=zf0 g b (xs.drop (i+1))) s1 ro1 rv hm1 (λρ' H' σ' e'=>p ρ' H' σ' (e1.trans e')) λρ2 H2 σ2 l2 S2 e2 s2 ro2 hm2=>?_
  exact ⟨xs.length-(i+1),by omega,rfl,hlt,ρ2,l2,S2,e1.trans e2,s2,ro2,hm2⟩
 ·have hil:i=xs.length:=by omega
  subst hil
  rw [List.drop_length] at hm1
  cases hm1
  exact .inl ⟨by rw [hlen];exact hst _ _ R1,p ρ1 H1 σ1 e1 s1 ro1⟩
theorem zzw (ρ:List Addr) (H:Hp) (lo:Int) (n:Nat):RDs ρ H (zd8 lo n) ((List.range n).map λ(i:Nat)=>V.int (lo+i)):=by
 unfold zd8
 generalize List.range n=l
 induction l with
 | nil=>exact .nil
 | cons a r ih=>exact .cons (.int _) ih
theorem zzx {lo:Int}{n i:Nat}{v:V}(h:i<n) (hv:v=.int (lo+i)):((List.range n).map λ(i:Nat)=>V.int (lo+i))[i]? = some v:=by
 rw [qgm,List.getElem?_range h,hv];rfl
theorem PI.or {wi wj:TI}(h:PI X tgt iter wi) (h':PI X tgt iter wj):PI X tgt iter (λσ H R=>wi σ H R\/wj σ H R):=by
 intro pins s σ H R I q
 rcases q with q|q
 ·exact h pins s σ H R I q
 ·exact h' pins s σ H R I q
theorem zzy {K:QFg}{n:Nat}{a:Addr}{ρ:List Addr}{l:Lo}{S:Sto}{H:Hp}{σ:St}{f:Fl}{l':Lo}{S':Sto}{E:Ends}{k:Nat}(ha:ρ[n]? = some a)
  (sim:Sim K ρ S H) (ro:RO ρ H l σ) (hm:zf1 g b n k 0 l S=some (f,l',S')) (p:∀ρ' H' σ',Ext ρ H ρ' H'->Sim K ρ' S' H'->RO ρ' H' l' σ'->zk7 ρ' H' E σ' f) :
  ∃W:Nat->Nat->St->Hp->Prop,(∃m,W 0 m σ H)/\∀i m σ H,W i m σ H ->
   ((Itl K a).stop i H/\E.nx σ H)\/((Itl K a).go i H/\∃N:St->Hp->Prop,(∀σ' H',N σ' H'->∃m',m' < m/\W (i+1) m' σ' H')/\∀x H',(Itl K a).yld i H x H'->tg K g x σ H' λσ2 H2=>ts K b { E with nx:=N,ct:=N,bk:=E.nx } σ2 H2):=by
 refine ⟨λi m σ1 H1=>∃ρ1 l1 S1,Ext ρ H ρ1 H1/\Sim K ρ1 S1 H1/\RO ρ1 H1 l1 σ1/\zf1 g b n m i l1 S1=some (f,l',S'),⟨k,ρ,l,S,Ext.refl ..,sim,ro,hm⟩,?_⟩
 rintro i m σ1 H1 ⟨ρ1,l1,S1,e1,s1,ro1,hm1⟩
 cases m with
 | zero=>cases hm1
 | succ m =>
  have ha1:=e1.pre n a ha
  unfold zf1 at hm1
  obtain ⟨xs,hx,hm1⟩:=bnd hm1
  obtain ⟨a',vs,ha',sq,rv⟩:=s1.lstOf hx
  rw [ha1] at ha';cases ha'
  cases hi:xs[i]? with
  | none =>
   rw [hi] at hm1
   cases hm1
   have hl:xs.length<=i:=List.getElem?_eq_none_iff.mp hi
   exact .inl ⟨⟨vs,sq,by rw [<-rv.length];exact hl⟩,p ρ1 H1 σ1 e1 s1 ro1⟩
  | some x =>
   rw [hi] at hm1
   obtain ⟨v,hvi,r⟩:=rv.get hi
   refine .inr ⟨⟨vs,v,sq,hvi⟩,_,λσ' H' h=>h,λy H' hyl=>?_⟩
   obtain ⟨e,hy2⟩:=hyl
   subst e
   have hy3:=hy2 vs sq
   rw [hvi] at hy3;cases hy3
   refine zqu (next:=zf1 g b n m (i+1)) s1 ro1 r hm1 (λρ' H' σ' e'=>p ρ' H' σ' (e1.trans e')) λρ2 H2 σ2 l2 S2 e2 s2 ro2 hm2=>?_
   exact ⟨m,Nat.lt_succ_self m,ρ2,l2,S2,e1.trans e2,s2,ro2,hm2⟩
theorem znd (hp:PassesOwn (model X.prog X.w) X.A X.env X.xe) (hc:X.calm=true) (hi:PE3 X iter m) (hg:PG3 X tgt g) (hb:zfm X body b)
  (hs:∀x,foldedSetIterable iter X.env x=pure x:=by intro _;rfl):PS3 X (.For tgt iter body [] pos) (zf2 m g b) :=
 PS.imp (zpf hp hc (PI.or (zpc hi) (zpd hi)) hg hb hs) λE σ H hx18_=>by
  obtain ⟨ρ,l,S,f,l',S',sim,ro,hm,p⟩:=hx18_
  obtain ⟨⟨x,S1⟩,q1,hm⟩:=bnd hm
  dsimp only at hm
  split at hm
  ·rename_i xs
   refine .inr ⟨ρ,l,S,.tup xs,S1,sim,ro,q1,λρ1 H1 x' e1 s1 r1=>?_⟩
   cases r1 with
   | @tup xs a vs ha r =>
    refine ⟨a,rfl,⟨vs,SqT.of ha⟩,zqv (vs:=vs) (λρ' H'=>H' a=some (.tup vs)/\RDs ρ' H' xs vs) (λρ H ρ' H' e ⟨h1,h2⟩=>⟨e.tup _ _ h1,h2.mono e⟩)
     (λi ρ H v ⟨h1,_⟩ hv=>⟨vs,v,SqT.of h1,hv⟩) (λi ρ H v H' ⟨h1,_⟩ _ hy=>⟨hy.1,hy.2 vs (SqT.of h1)⟩) (λρ H ⟨h1,_⟩=>⟨vs,SqT.of h1,qlr _⟩) (λρ H h=>h.2) ⟨ha,r⟩ s1 (ro.mono e1) hm λρ' H' σ' e'=>p ρ' H' σ' (e1.trans e')⟩
  ·rename_i n
   obtain ⟨xs,hx,hm⟩:=bnd hm
   refine .inl ⟨ρ,l,S,.ref n,S1,sim,ro,q1,λρ1 H1 x' e1 s1 r1=>?_⟩
   obtain ⟨a,vs,ha,sq,rv⟩:=s1.lstOf hx
   cases r1 with
   | ref hn =>
    rw [ha] at hn;cases hn
    exact ⟨a,rfl,⟨vs,sq⟩,zzy ha s1 (ro.mono e1) hm (λρ' H' σ' e'=>p ρ' H' σ' (e1.trans e'))⟩
  ·cases hm
theorem zjs {a:Expr}{mA:AM}{p0 pos':Pos}(hp:PassesOwn (model X.prog X.w) X.A X.env X.xe) (hc:X.calm=true) (hgl:Gl X "range") (hmg:X.mg "range" = none) (ha:PA3 X [a] mA) (hg:PG3 X tgt g) (hb:zfm X body b)
  (hs:∀x,foldedSetIterable (.Call (.Name "range" p0) [a] [] pos') X.env x=pure x:=by intro _;rfl) (hst:starEach [a] X.env=[(false,eval a X.env)]:=by rfl):PS3 X (.For tgt (.Call (.Name "range" p0) [a] [] pos') body [] pos) (zgj (zeg mA) g b) :=
 PS.imp (zpf hp hc (zpe hgl hmg ha hst) hg hb hs) λE σ H hx19_=>by
  obtain ⟨ρ,l,S,f,l',S',sim,ro,hm,p⟩:=hx19_
  obtain ⟨⟨⟨lo,n⟩,S1⟩,q1,hm⟩:=bnd hm
  obtain ⟨⟨xs,S2⟩,q2,q1⟩:=bnd q1
  dsimp only at q1 hm
  split at q1
  ·rename_i j
   obtain ⟨hz,e⟩:=zdl q1
   cases e
   refine ⟨ρ,l,S,[.int j],S1,sim,ro,q2,λρ1 H1 vs e1 s1 r1=>?_⟩
   obtain ⟨v,rfl,rv⟩:=r1.one
   cases rv
   refine ⟨j,rfl,hz.1,hz.2,zqv (vs:=(List.range j.toNat).map λ(i:Nat)=>V.int (0+i)) (λ_ _=>True) (λ_ _ _ _ _ h=>h) (λi ρ H v _ hv=>?_) (λi ρ H v H' _ hl hy=>⟨hy.1,?_⟩) (λρ H _=>?_) (λρ H _=>zzw ρ H 0 j.toNat) trivial s1 (ro.mono e1) hm λρ' H' σ' e'=>p ρ' H' σ' (e1.trans e')⟩
   ·have:=(qme hv).1
    simp at this
    show i<j.toNat
    omega
   ·obtain ⟨_,hy⟩:=hy
    exact zzx (by simpa using hl) hy
   ·show j.toNat<=_
    simp
  ·cases q1
end
noncomputable def zc9 (n:Nat) (b:SM):FM:=λds S=>(b (ds.map some++List.replicate (n-ds.length) none) S).bind λp=>match p.1 with
 | .rt d=>some (d,p.2.2)
 | .nx=>some (.non,p.2.2)
 | _=>none
theorem RDs.locals {ρ:List Addr}{H:Hp}{ds:List D}{vs:List V}(r:RDs ρ H ds vs) (N:List Str):RO ρ H (ds.map some++List.replicate (N.length-ds.length) none) (L2.start N vs):=by
 unfold L2.start
 rw [<-r.length]
 refine ⟨by simp [r.length],λi d h=>?_⟩
 by_cases hl:i<ds.length
 ·rw [List.getElem?_append_left (by simpa using hl),qgm] at h
  cases e:ds[i]? with
  | none=>rw [e] at h;cases h
  | some d' =>
   rw [e] at h
   have h':some (some d')=some (some d):=h
   cases h'
   obtain ⟨v,h1,h2⟩:=r.get e
   exact ⟨v,by rw [List.getElem?_append_left (by rw [qlm,<-r.length];exact hl),qgm,h1];rfl,h2⟩
 ·rw [List.getElem?_append_right (by simpa using hl),List.getElem?_replicate] at h
  split at h
  ·cases h
  ·cases h
theorem zqw {P:Program}{w:World}{K:QFg}{mg:Str->Option Value}{base:Heap}{x qual:Str}{st:Stmt}{f:Addr}{fd:FuncData}{N ps:List Str}{k n:Nat}{b:SM}(F:Fun K x qual st f fd) (S:FnScope N ps (za2 st)) (hn:ps.length=n)
  (hbody:∀(cdv:Value),PySem.W.codeIn K cdv qual=true->∀(A:Around) (outer:List Env) (s:Shared) (H:Hp) (E:XK),Room k (A.deeper (envOfC qual (za2 st) s.heap.objs.size f cdv)) ->
   zfm (zdp CX0 P w K mg base N qual (za2 st) f cdv A outer s H E).nox (zfv st) b):FnOk P w K mg base CX0 (k+1) f fd ps (sp3 K n (zc9 N.length b)):=by
 obtain ⟨oc,od,kV,doc,pm,an,cdv,ct,osl,rfl,lk,hcd⟩:=F.ex
 refine zpx lk hcd S (λvs H Q E h=>by rw [h.1,hn]) λA outer s H vs Q E hr h=>?_
 obtain ⟨hl,ρ,ds,S0,v,S',sim,rd,hm,p⟩:=h
 refine ⟨_,PSs.nox (hbody cdv hcd A outer s H E hr),?_⟩
 obtain ⟨⟨fl,l',S1⟩,q,hm⟩:=bnd hm
 refine ⟨ρ,_,S0,fl,l',S1,sim,rd.locals N,q,λρ' H' σ' e' s' r'=>?_⟩
 cases fl with
 | nx=>cases hm;exact p ρ' H' _ e' s' .non
 | rt d=>cases hm;exact λv' rv=>p ρ' H' v' e' s' rv
 | bk=>cases hm
 | ct=>cases hm
noncomputable def zeq (env:Env):List (Str × NameKind)->List (Str × Addr)->List (Str × Addr)
 | [],cs=>cs
 | (n,k) :: r,cs=>if k == .free then (match env.cells.lookup n with|some c=>zeq env r ((n,c) :: cs)|none=>zeq env r cs) else zeq env r cs
theorem zqx (env:Env):∀(names:List (Str × NameKind)) (cs:List (Str × Addr)),(∀x∈names,x.2=.free->∃c,env.cells.lookup x.1=some c) ->
  (forIn names cs (λx r=>if (x.2 == NameKind.free)=true then do let c <-cellOf env x.1;pure (ForInStep.yield ((x.1,c) :: r)) else pure (ForInStep.yield r)):Sem (List (Str × Addr)))=pure (zeq env names cs)
 | [],cs,_=>rfl
 | (n,k) :: r,cs,h=>by
  have ih:=λcs=>zqx env r cs λx hx=>h x (List.mem_cons_of_mem _ hx)
  rw [List.forIn_cons]
  by_cases hk:k=.free
  ·subst hk
   obtain ⟨c,hc⟩:=h (n,.free) List.mem_cons_self rfl
   simp only [beq_self_eq_true,if_true,cellOf,hc,zeq,pure_bind,bind_assoc]
   exact ih _
  ·have hb:(k == NameKind.free)=false:=by simpa using hk
   simp only [hb,qbf,if_false,zeq,pure_bind]
   exact ih _
theorem zzz (scope:Scope) (env:Env) (h:∀x∈scope.names,x.2=.free->∃c,env.cells.lookup x.1=some c):closureFor scope env=pure (zeq env scope.names []):=by
 have e:=zqx env scope.names [] h
 unfold closureFor
 show (forIn scope.names ([]:List (Str × Addr)) (λ(x:Str × NameKind) (r:List (Str × Addr))=>if (x.2 == NameKind.free)=true then do let c <-cellOf env x.1;pure (ForInStep.yield ((x.1,c) :: r)) else pure (ForInStep.yield r)) >>= λcs=>pure cs)=_
 rw [e,pure_bind]
theorem zle (env:Env):∀(names:List (Str × NameKind)) (cs:List (Str × Addr)),(∀x c,cs.lookup x=some c->env.cells.lookup x=some c)->∀x c,(zeq env names cs).lookup x=some c->env.cells.lookup x=some c
 | [],cs,h,x,c,q=>h x c q
 | (n,k) :: r,cs,h,x,c,q=>by
  unfold zeq at q
  split at q
  ·split at q
   ·rename_i c' e
    refine zle env r _ (λy d hy=>?_) x c q
    rw [List.lookup_cons] at hy
    split at hy
    ·rename_i hb
     have:y=n:=by simpa using hb
     cases hy
     rw [this];exact e
    ·exact h y d hy
   ·exact zle env r cs h x c q
  ·exact zle env r cs h x c q
theorem zjt (env:Env):∀(names:List (Str × NameKind)) (cs:List (Str × Addr)) (x:Str),((x,NameKind.free)∈names\/∃c,cs.lookup x=some c)->(∃c,env.cells.lookup x=some c)->∃c,(zeq env names cs).lookup x=some c
 | [],cs,x,h,_=>by
  rcases h with h|h
  ·cases h
  ·exact h
 | (n,k) :: r,cs,x,h,hx=>by
  unfold zeq
  by_cases hk:(k == NameKind.free)=true
  ·rw [if_pos hk]
   split
   ·rename_i c' e
    refine zjt env r _ x ?_ hx
    by_cases hxn:x=n
    ·exact .inr ⟨c',by rw [hxn,List.lookup_cons];simp⟩
    ·rcases h with h|⟨c,h⟩
     ·rcases List.mem_cons.mp h with h|h
      ·cases h;exact absurd rfl hxn
      ·exact .inl h
     ·exact .inr ⟨c,by
       rw [List.lookup_cons]
       have:(x == n)=false:=by simpa using hxn
       rw [this];exact h⟩
   ·rename_i e
    refine zjt env r _ x ?_ hx
    rcases h with h|h
    ·rcases List.mem_cons.mp h with h|h
     ·cases h
      obtain ⟨c,hc⟩:=hx
      rw [hc] at e;cases e
     ·exact .inl h
    ·exact .inr h
  ·rw [if_neg hk]
   refine zjt env r _ x ?_ hx
   rcases h with h|h
   ·rcases List.mem_cons.mp h with h|h
    ·cases h;exact absurd rfl hk
    ·exact .inl h
   ·exact .inr h
noncomputable def cxC (X:Cx) (N':List Str) (scope:Scope) (C:Addr) (s:Shared) (H:Hp) (fp:List Addr) (pins:List (Addr × Obj)):Cx where
 prog:=X.prog
 w:=X.w
 K:=X.K
 mg:=X.mg
 base:=X.base
 A:=X.A
 N:=N'
 s₀:=s
 H₀:=H
 env:=compEnvC scope (zeq X.env scope.names []) C X.env
 outer:=X.stack
 stack:=X.stack
 ex:=fp
 fn:=λ_=>false
 calm:=X.calm
 pn:=X.pn++pins
 xe:=λ_ _=>False
section
variable {prog:Program}{w:World}{A:Around}{R:Result->Shared->Prop}{s:Shared}
theorem zz0 {elt target iter:Expr}{ifs:List Expr}{scope:Scope}{pos:Pos}{it acc:Value}{env:Env}(I:Nat->Shared->Prop)
  (turn:∀n s,I n s->wpAny (model prog w) A (pyNext it) (λr s₁=>match r with
   | none=>R (.ok .next) s₁
   | some v=>wpAny (model prog w) A (letOwnedTupleGo target it v) (λ_ s₁'=>wpAny (model prog w) A (assign target env v) (λ_ s₂ =>
     wpAny (model prog w) A (forIn ifs true λc r=>if r=true then do let ok <-isTrue c env (eval c env);pure (ForInStep.yield ok) else pure (ForInStep.yield r)) (λok s₃ =>
      if ok=true then wpAny (model prog w) A (eval elt env) (λx s₄ =>
       wpAny (model prog w) A (call (.builtin "list.append") [acc,x]) (λ_ s₅=>∃m,m<n/\I m s₅) (notedBy (model prog w) A env λe s'=>R (.error e) s') s₄) (notedBy (model prog w) A env λe s'=>R (.error e) s') s₃
      else ∃m,m<n/\I m s₃) (notedBy (model prog w) A env λe s'=>R (.error e) s') s₂) (notedBy (model prog w) A env λe s'=>R (.error e) s') s₁') (notedBy (model prog w) A env λe s'=>R (.error e) s') s₁) (notedBy (model prog w) A env λe s'=>R (.error e) s') s)
  (n:Nat) (h:I n s) :
  codeAny (model prog w) A (.compLoop (.ListComp elt [⟨target,iter,ifs,0⟩] scope pos) 0 it acc env) R s:=by
 refine codeAny_loop rfl I (λn s hI=>?_) n h
 show wpAny _ A ((compTurn (.ListComp elt [⟨target,iter,ifs,0⟩] scope pos) 0 it acc env).onRaise (λx=>do noteFrame x env;theTreesLotGoes x)) _ _ s
 refine wpAny_noted ?_
 rw [compTurn_list]
 refine qwb (wpAny_standAt (qwb (wpAny_mono (turn n s hI) (λr s₁ h₁=>?_) λ_ _ h'=>h')))
 cases r with
 | none=>exact qwp h₁
 | some v =>
  refine qwb (wpAny_mono h₁ (λ_ s₁' h₁=>?_) λ_ _ h'=>h')
  refine qwb (wpAny_mono h₁ (λ_ s₂ h₂=>qwb (wpAny_mono h₂ (λok s₃ h₃=>?_) λ_ _ h'=>h')) λ_ _ h'=>h')
  cases ok with
  | false=>exact qwp ⟨rfl,h₃⟩
  | true =>
   exact qwb (qwb (wpAny_mono h₃ (λx s₄ h₄=>qwb (wpAny_mono h₄ (λ_ s₅ h₅=>qwp (qwp ⟨rfl,h₅⟩)) λ_ _ h'=>h')) λ_ _ h'=>h'))
end
def PTs (X:Cx) (ifs:List Expr) (t:TT):Prop:=∀(pins:List (Addr × Obj)) (s:Shared) (σ:St) (H:Hp) (Q:Bool->Hp->Prop),Inv X pins σ H s->t σ H Q ->
 wpAny (model X.prog X.w) X.A (forIn ifs true λc r=>if r=true then do let ok <-isTrue c X.env (eval c X.env);pure (ForInStep.yield ok) else pure (ForInStep.yield r)) (TP X pins σ Q) X.xe s
theorem zz1 {X:Cx}:PTs X [] (λ_ H Q=>Q true H):=λ_ _ _ H _ I h=>wpAny_tests_nil ⟨H,I,h⟩
theorem zz2 {X:Cx}{c:Expr}{t:TT}(h:PT X c t):PTs X [c] t:=λpins s σ H Q I q=>wpAny_tests_one (h pins s σ H Q I q)
def zh7 (K:QFg) (wi:TI) (src:St->St) (g:TG) (tts:TT) (t:TE):TE:=λσ H Q=>wi σ H λJ H1=>∀D,H1 D=none->K.lookup D=none->∃W:Nat->Nat->St->Hp->Prop,
 (∃m,W 0 m (src σ) (upd H1 D (.lst [])))/\∀i m σ' H',W i m σ' H' ->
  (J.stop i H'/\Q (.ref D) H')\/(J.go i H'/\∃N:St->Hp->Prop,(∀σ' H',N σ' H'->∃m',m' < m/\W (i+1) m' σ' H') /\
   ∀x H'',J.yld i H' x H''->g x σ' H'' λσ2 H2=>tts σ2 H2 λb H3=>if b=true then t σ2 H3 (λv H4=>∃ys,H4 D=some (.lst ys)/\ys.length<sizeLine/\N σ2 (upd H4 D (.lst (ys++[v])))) else N σ2 H3)
theorem zqy {scope:Scope}{env:Env}:∀{names:List (Str × NameKind)}{x:Str},names.lookup x=some .free ->
  ((names.map λ(n,k)=>if (k == NameKind.free && env.scope.kind == .function && env.kindOf n == some .cell) then (n,NameKind.cell) else (n,k)).lookup x=some .cell \/
   (names.map λ(n,k)=>if (k == NameKind.free && env.scope.kind == .function && env.kindOf n == some .cell) then (n,NameKind.cell) else (n,k)).lookup x=some .free)
 | [],x,h=>by simp at h
 | (n,k) :: r,x,h=>by
  have ih:=@zqy scope env r x
  show List.lookup x ((if (k == NameKind.free && env.scope.kind == .function && env.kindOf n == some .cell)=true then (n,NameKind.cell) else (n,k)) :: _)=_\/List.lookup x ((if (k == NameKind.free && env.scope.kind == .function && env.kindOf n == some .cell)=true then (n,NameKind.cell) else (n,k)) :: _)=_
  cases hx:x == n with
  | true =>
   simp only [List.lookup_cons,hx] at h
   cases h
   by_cases hc:(NameKind.free == NameKind.free && env.scope.kind == .function && env.kindOf n == some .cell)=true
   ·rw [if_pos hc];simp [List.lookup_cons,hx]
   ·rw [if_neg hc];simp [List.lookup_cons,hx]
  | false =>
   simp only [List.lookup_cons,hx] at h
   by_cases hc:(k == NameKind.free && env.scope.kind == .function && env.kindOf n == some .cell)=true
   ·rw [if_pos hc];simp only [List.lookup_cons,hx];exact ih h
   ·rw [if_neg hc];simp only [List.lookup_cons,hx];exact ih h
structure CompSc (X:Cx) (N':List Str) (scope:Scope) (src:St->St):Prop where
 kind:scope.kind=.function
 nocell:∀y∈scope.names,y.2≠.cell
 names:∀y∈scope.names,y.2=.local->scope.names.lookup y.1=some .local
 free:∀y∈scope.names,y.2=.free->X.env.kindOf y.1=some .cell\/X.env.kindOf y.1=some .free
 rel:∀y,(relabel scope X.env).names.lookup y=some .cell\/(relabel scope X.env).names.lookup y=some .free->(y,NameKind.free)∈scope.names
 len:∀σ,(src σ).length=N'.length
 src:∀σ (i:Nat) v x,(src σ)[i]? = some (some v)->N'[i]? = some x->∃j:Nat,X.N[j]? = some x/\σ[j]? = some (some v)/\scope.names.lookup x=some .free
theorem zlf {X:Cx}{N':List Str}{elt iter tgt:Expr}{ifs:List Expr}{scope:Scope}{pos pos':Pos}{use:Option (Value->Sem Unit)}{R:Value->Shared->Prop}{pins:List (Addr × Obj)}{s:Shared}{σ:St}{H:Hp}{Q:VK}{wi:TI}{src:St->St}{g:TG}{tts:TT}{t:TE}{xb:Addr->Value->Shared->Prop}{B:Addr->Shared->Hp->List Addr->List (Addr × Obj)->Prop}(hcalm:X.calm=true) (sc:CompSc X N' scope src)
  (hi:PI X tgt iter wi) (hg:∀C s H fp pins,PG ((cxC X N' scope C s H fp pins).wish (xb C)) tgt g) (ht:∀C s H fp pins,PTs ((cxC X N' scope C s H fp pins).wish (xb C)) ifs tts) (he:∀C s H fp pins,B C s H fp pins->PE ((cxC X N' scope C s H fp pins).wish (xb C)) elt t)
  (hxb:∀D C x s',xb C x s'->notedBy (model X.prog X.w) X.A (compEnvC scope (zeq X.env scope.names []) C X.env) (λx s''=>compPost (model X.prog X.w) X.A X.xe use R (.ref D) C (.error x) s'') x s')
  (hB:∀s3 H3 fp,Inv X pins σ H3 s3->(∀b∈fp,zfu X pins H3 b)->B s3.heap.objs.size s3 H3 fp pins)
  (hs:∀x,foldedSetIterable iter X.env x=pure x) (I:Inv X pins σ H s) (h:zh7 X.K wi src g tts t σ H Q)
  (fin:∀D H5 s6 C mC,Inv X pins σ H5 s6->zfu X pins H5 C->s6.heap.Ns C mC->Q (.ref D) H5->compPost (model X.prog X.w) X.A X.xe use R (.ref D) C (.ok .next) s6) :
  wpAny (model X.prog X.w) X.A (comprehension (.ListComp elt [⟨tgt,iter,ifs,0⟩] scope pos) scope X.env pos' (newList []) false (eval iter X.env) use) R X.xe s:=by
 have hasC:∀x∈scope.names,x.2=.free->∃c,X.env.cells.lookup x.1=some c:=λx hx hf=>I.ok.has x.1 (sc.free x hx hf)
 refine wpAny_comprehension_free (use:=use) (env:=X.env) rfl hs (zzz scope X.env hasC) sc.kind sc.names ?_
 show wpAny (model X.prog X.w) X.A (eval iter X.env) _ _ s
 refine wpAny_mono (hi pins s σ H _ I h) (λv s1 h1=>wpAny_mono h1 (λitv s2 h2=>?_) λ_ _ z=>z) λ_ _ z=>z
 obtain ⟨it,fp,tn,J,H2,rfl,I2,T,st2,f2,q⟩:=h2
 refine wpAny_newObj_type ?_ (by show 0<=sizeLine;exact Nat.zero_le _)
 have hD:H2 s2.heap.objs.size=none:=I2.hok.fresh (qlr _)
 have I3:Inv X pins σ (upd H2 s2.heap.objs.size (.lst [])) { s2 with heap:=s2.heap.push { cls:=.type "list",data:=.seq ([]:List Value).toArray } }:=I2.lnew (t':=s2.toks) .nil (Nat.zero_le _)
 obtain ⟨W,⟨m0,w0⟩,turn⟩:=q s2.heap.objs.size hD (by
  cases e:X.K.lookup s2.heap.objs.size with
  | none=>rfl
  | some o=>exact absurd (Heap.lt_size (I2.kIn _ o e)) (Nat.lt_irrefl _))
 refine wpAny_newFunctionEnv sc.nocell (by intro y hy;simp at hy) (λh' hns hsb=>?_) sc.kind
 have fpIn:∀b∈fp,∃o,s2.heap.get? b=some o/\∀v,o.data≠.cell v:=T.obj 0 s2.heap st2
 have fpD:∀b∈fp,b≠s2.heap.objs.size:=λb hb=>let ⟨o,e,_⟩:=fpIn b hb;Nat.ne_of_lt (Heap.lt_size e)
 have f3:∀b∈fp,zfu X pins (upd H2 s2.heap.objs.size (.lst [])) b:=λb hb=>⟨by rw [za9 (fpD b hb)];exact (f2 b hb).1,(f2 b hb).2⟩
 have st3:tn 0 (s2.heap.push { cls:=.type "list",data:=.seq ([]:List Value).toArray }):=T.keep _ _ _ st2 λb hb o e=>qps _ e
 clear q hD h st2 f2 fpD
 generalize upd H2 s2.heap.objs.size (.lst [])=H3 at *
 generalize hDe:s2.heap.objs.size=D at *
 have fpIn3:∀b∈fp,∃o,(s2.heap.push { cls:=.type "list",data:=.seq ([]:List Value).toArray }).get? b=some o/\∀v,o.data≠.cell v:=T.obj 0 _ st3
 clear fpIn
 generalize s2.heap.push { cls:=.type "list",data:=.seq ([]:List Value).toArray }=h3 at *
 have old:∀b o,h3.get? b=some o->h'.get? b=some o:=λb o e=>hsb.extBut b o (Nat.ne_of_lt (Heap.lt_size e)) (qps _ e)
 have stkNo:∀b,b≠X.env.locals->b ∉ X.fs->b ∉ frs X.stack:=λb h1 h2 hb=>by
  rcases List.mem_cons.mp (I3.stkSub b hb) with z|z
  ·exact h1 z
  ·exact h2 z
 have sub:=zle X.env scope.names [] (λx c z=>by simp at z)
 have cNe:∀b o,h3.get? b=some o->b≠h3.objs.size:=λb o e=>Nat.ne_of_lt (Heap.lt_size e)
 have I4:Inv (cxC X N' scope h3.objs.size { s2 with heap:=h3 } H3 fp pins) [] (src σ) H3 { s2 with heap:=h',toks:=s2.toks+([]:List (Str × Value)).length }:=by
  refine ⟨⟨I3.ok.mod,sc.kind,I3.ok.glob,I3.ok.blt,qlr _,λx y c h1 h2=>I3.ok.inj x y c (sub x c h1) (sub y c h2),λx hx=>?_,λx c z=>absurd (show false=true from z) Bool.false_ne_true,I3.ok.hd,I3.ok.frames,.inl rfl,λb hb=>⟨?_,λx c z=>(f3 b hb).2.2.2.2.1 x c (sub x c z)⟩,λb o e=>I3.bs b o e,Nat.le_trans I3.ok.bsz I3.sz,λb o e hb=>?_,λb hb=>stkNo b (f3 b hb).2.1 (f3 b hb).2.2.1,I3.stack,I3.stkFree⟩,
   rfl,I3.bare,Un.kept old,⟨_,hns,λi x v h1 h2 h3'=>?_⟩,λx c z=>?_,I3.hok.fresh (qlr _),λx c z=>I3.freeC x c (sub x c z),λp hp=>?_,I3.hok.kept old,sc.len σ⟩
  ·have hm:=sc.rel x hx
   exact zjt X.env scope.names [] x (.inl hm) (hasC _ hm rfl)
  ·obtain ⟨o,e,_⟩:=fpIn3 b hb
   exact cNe b o e
  ·rcases (f3 b hb).2.2.2.1 with z|z
   ·exact I3.ok.noex b o e z
   ·have:=Heap.lt_size (I3.ok.bs b o e).1
    exact absurd (Nat.lt_of_lt_of_le this z) (Nat.lt_irrefl _)
  ·obtain ⟨j,e1,e2,e3⟩:=sc.src σ i v x h2 h1
   obtain ⟨m,hn,hl⟩:=I3.loc
   have hmem:=PySem.mem_of_lookup e3
   have hk:=sc.free (x,.free) hmem rfl
   have vis:Vis X.env.scope x:=by
    rcases hk with k|k
    ·exact .inr (.inl k)
    ·exact .inr (.inr k)
   obtain ⟨u,r,lk⟩:=hl j x v e1 e2 vis
   refine ⟨u,r,.inr ⟨?_,?_⟩⟩
   ·exact zqy (scope:=scope) e3
   ·rcases lk with ⟨k,_⟩|⟨_,c,hc,hcell⟩
    ·rcases hk with k' | k' <;> (rw [k] at k';cases k')
    ·obtain ⟨c',hc'⟩:=zjt X.env scope.names [] x (.inl hmem) ⟨c,hc⟩
     have:=sub x c' hc'
     rw [hc] at this;cases this
     obtain ⟨o,ho,hd⟩:=hcell
     exact ⟨c,hc',o,old _ _ ho,hd⟩
  ·obtain ⟨v,o,ho,hd⟩:=I3.cell x c (sub x c z)
   exact ⟨v,o,old _ _ ho,hd⟩
  ·have hp':p∈X.pn++pins:=by simpa [cxC] using hp
   obtain ⟨e,n,ne,nf,d⟩:=I3.pin p hp'
   exact ⟨old _ _ e,n,cNe _ _ e,stkNo _ ne nf,d⟩
 have I4:=I4.wish (xb h3.objs.size)
 have hb:B h3.objs.size { s2 with heap:=h3 } H3 fp pins:=hB { s2 with heap:=h3 } H3 fp I3 f3
 have st4:tn 0 h':=T.keep _ _ _ st3 λb hb o e=>old b o e
 have fr4:∀b∈fp,H3 b=none:=λb hb=>(f3 b hb).1
 have stat:∀{H':Hp},(∀b∈fp,H' b=none)->∀b∈fp,zfu ((cxC X N' scope h3.objs.size { s2 with heap:=h3 } H3 fp pins).wish (xb h3.objs.size)) [] H' b:=λhn b hb=>by
  obtain ⟨g0,g1,g2,g3,g4,g5⟩:=f3 b hb
  obtain ⟨o,e,_⟩:=fpIn3 b hb
  exact ⟨hn b hb,cNe b o e,stkNo b g1 g2,.inl hb,λx c z=>g4 x c (sub x c z),λp hp=>g5 p (by simpa [cxC,Cx.wish] using hp)⟩
 have loop:codeAny (model X.prog X.w) X.A (.compLoop (.ListComp elt [⟨tgt,iter,ifs,0⟩] scope pos) 0 (.ref it) (.ref D) (compEnvC scope (zeq X.env scope.names []) h3.objs.size X.env))
   (compPost (model X.prog X.w) X.A X.xe use R (.ref D) h3.objs.size) { s2 with heap:=h',toks:=s2.toks+([]:List (Str × Value)).length }:=by
  refine zz0 (λn s'=>∃i σ' H',Inv ((cxC X N' scope h3.objs.size { s2 with heap:=h3 } H3 fp pins).wish (xb h3.objs.size)) [] σ' H' s'/\tn i s'.heap/\(∀b∈fp,H' b=none)/\W i n σ' H') ?_ m0 ⟨0,src σ,H3,I4,st4,fr4,w0⟩
  rintro n s5 ⟨i,σ5,H5,I5,st5,fr5,w5⟩
  rcases turn i n σ5 H5 w5 with ⟨stop,qn⟩|⟨go,N,hN,step⟩
  ·refine wpAny_mono (T.done ((cxC X N' scope h3.objs.size { s2 with heap:=h3 } H3 fp pins).wish (xb h3.objs.size)) rfl rfl rfl hcalm i [] s5 σ5 H5 _ I5 (stat fr5) st5 stop) (λr s6 hr=>?_) λ_ _ z=>z
   obtain ⟨hr,I6⟩:=hr
   subst hr
   obtain ⟨mC,hnC,_⟩:=I6.loc
   have IX:Inv X pins σ H5 s6:=I3.call' (s':=s6) (ch:=fp) I6.os I6.base I6.hok I6.bare λb hb=>⟨(f3 b hb).2.2.2.1,(f3 b hb).2.1,(f3 b hb).2.2.2.2.1,(f3 b hb).2.2.2.2.2⟩
   exact fin D H5 s6 h3.objs.size mC IX (I3.fpOk (qlr _) I6.free) hnC qn
  ·refine wpAny_mono (T.item ((cxC X N' scope h3.objs.size { s2 with heap:=h3 } H3 fp pins).wish (xb h3.objs.size)) rfl rfl rfl hcalm i [] s5 σ5 H5 _ I5 (stat fr5) st5 go) (λr s6 hr=>?_) λ_ _ z=>z
   obtain ⟨u,hr,h6⟩:=hr
   subst hr
   refine wpAny_mono h6 (λ_ s7 h7=>?_) λ_ _ z=>z
   obtain ⟨x,H7,I7,r7,y7,st7,fr7⟩:=h7
   have I7':=I7.pinned (stat fr7) (T.obj _ _ st7)
   refine wpAny_mono (hg _ _ _ _ _ _ s7 σ5 H7 x u _ I7' r7 (step x H7 y7)) (λ_ s8 h8=>?_) λx s' z=>hxb D _ x s' z
   obtain ⟨σ8,H8,I8,q8⟩:=h8
   have again:∀{H9:Hp} {s9:Shared},Inv ((cxC X N' scope h3.objs.size { s2 with heap:=h3 } H3 fp pins).wish (xb h3.objs.size)) ([]++zjd fp s7.heap) σ8 H9 s9->N σ8 H9->∃m,m<n/\∃i σ' H',Inv ((cxC X N' scope h3.objs.size { s2 with heap:=h3 } H3 fp pins).wish (xb h3.objs.size)) [] σ' H' s9/\tn i s9.heap/\(∀b∈fp,H' b=none)/\W i m σ' H':=λ{H9 s9} I9 n9=>by
    obtain ⟨m',hm,w9⟩:=hN σ8 H9 n9
    refine ⟨m',hm,i+1,σ8,H9,I9.unpinned,T.keep _ _ _ st7 λb hb o e=>(I9.pin (b,o) (List.mem_append_right _ (List.mem_append_right _ (zk1 hb e)))).1,λb hb=>?_,w9⟩
    obtain ⟨o,e,d⟩:=T.obj _ _ st7 b hb
    exact (I9.pin (b,o) (List.mem_append_right _ (List.mem_append_right _ (zk1 hb e)))).2.1
   refine wpAny_mono (ht _ _ _ _ _ _ s8 σ8 H8 _ I8 q8) (λok s9 h9=>?_) λx s' z=>hxb D _ x s' z
   obtain ⟨H9,I9,q9⟩:=h9
   cases ok with
   | false=>exact again I9 q9
   | true =>
    refine wpAny_mono (he _ _ _ _ _ hb _ s9 σ8 H9 _ I9 q9) (λy s10 h10=>?_) λx s' z=>hxb D _ x s' z
    obtain ⟨vy,H10,I10,r10,ys,hys,hz,nx⟩:=h10
    refine wpAny_mono (zqa (X:=(cxC X N' scope h3.objs.size { s2 with heap:=h3 } H3 fp pins).wish (xb h3.objs.size)) _ s10 σ8 H10 (.ref D) [vy] (.ref D) [y] (λ_ H'=>N σ8 H') I10 rfl (.cons r10 .nil) ⟨D,ys,vy,rfl,rfl,hys,hz,nx⟩) (λ_ s11 h11=>?_) λx s' z=>hxb D _ x s' z
    obtain ⟨_,H11,I11,_,n11⟩:=h11
    exact again I11 n11
 exact codeAny_compStart_list loop (T.self _ 0 _ _ _ st4 loop)
theorem zz3 {X:Cx}{N':List Str}{elt iter tgt:Expr}{ifs:List Expr}{scope:Scope}{pos:Pos}{wi:TI}{src:St->St}{g:TG}{tts:TT}{t:TE}(hcalm:X.calm=true) (sc:CompSc X N' scope src)
  (hi:PI X tgt iter wi) (hg:∀C s H fp pins,PG (cxC X N' scope C s H fp pins) tgt g) (ht:∀C s H fp pins,PTs (cxC X N' scope C s H fp pins) ifs tts) (he:∀C s H fp pins,PE (cxC X N' scope C s H fp pins) elt t)
  (hs:∀x,foldedSetIterable iter X.env x=pure x:=by intro _;rfl):PE X (.ListComp elt [⟨tgt,iter,ifs,0⟩] scope pos) (zh7 X.K wi src g tts t):=by
 intro pins s σ H Q I h
 rw [eval_ListComp]
 refine zlf (xb:=λ_ _ _=>False) (B:=λ_ _ _ _ _=>True) (use:=none) hcalm sc hi hg ht (λC s H fp pins _=>he C s H fp pins) (λ_ _ _ _ z=>z.elim) (λ_ _ _ _ _=>trivial) hs I h λD H5 s6 C mC IX fp hn q=>⟨mC,hn,λh'' sb=>⟨.ref D,H5,?_,rfl,q⟩⟩
 exact IX.turned (t':=s6.toks) (λb o hb e=>sb.extBut b o hb e) fp.1 fp.2.1 fp.2.2.2.1 fp.2.2.2.2.1 fp.2.2.2.2.2
theorem zz4 {X:Cx}{N':List Str}{elt iter tgt:Expr}{ifs:List Expr}{scope:Scope}{pos spos py:Pos}{wi:TI}{src:St->St}{g:TG}{tts:TT}{t:TE}{i:Nat}{y:Str}(hN:X.N.Nodup) (hi':X.N[i]? = some y) (hx:Loc X.env.scope y)
  (hsw:swapsWith (.ListComp elt [⟨tgt,iter,ifs,0⟩] scope pos) (some (.Name y py)) spos.line X.env=pure true) (hf:X.fn y=true\/X.env.scope.names.lookup y=some .local)
  (hcalm:X.calm=true) (sc:CompSc X N' scope src)
  (hi:PI X tgt iter wi) (hg:∀C s H fp pins,PG (cxC X N' scope C s H fp pins) tgt g) (ht:∀C s H fp pins,PTs (cxC X N' scope C s H fp pins) ifs tts) (he:∀C s H fp pins,PE (cxC X N' scope C s H fp pins) elt t)
  (hs:∀x,foldedSetIterable iter X.env x=pure x:=by intro _;rfl):PS X (.Assign [.Name y py] (.ListComp elt [⟨tgt,iter,ifs,0⟩] scope pos) spos) (zkz (zh7 X.K wi src g tts t) (zky i)):=by
 intro pins s σ H D I h
 rw [exec_Assign_Name_used _ _ _ _ hsw]
 refine qwb (wpAny_standAt (qwb ?_))
 show wpAny _ X.A (do let _ <-comprehension (.ListComp elt [⟨tgt,iter,ifs,0⟩] scope pos) scope X.env _ (newList []) false (eval iter X.env) (some (assign (.Name y py) X.env))) _ _ s
 refine qwb (wpAny_mono (zlf (xb:=λ_ _ _=>False) (B:=λ_ _ _ _ _=>True) (use:=some (assign (.Name y py) X.env)) (R:=λ_ s'=>SP X pins D .next s') hcalm sc hi hg ht (λC s H fp pins _=>he C s H fp pins) (λ_ _ _ _ z=>z.elim) (λ_ _ _ _ _=>trivial) hs I h λD' H5 s6 C mC IX fp hn q=>?_) (λ_ s' hq=>qwp (qwp hq)) λ_ _ e=>e)
 show wpAny _ X.A (assign (.Name y py) X.env (.ref D')) _ _ s6
 refine wpAny_assign_Name (zmk (v:=.ref D') IX hN hi' hx rfl (λs' I' ha=>?_) hf)
 obtain ⟨a,sb,ha⟩:=ha
 have hCa:C≠a:=by
  rcases ha with ha|ha
  ·rw [ha];exact fp.2.1
  ·exact λz=>fp.2.2.2.2.1 y a ha z.symm
 refine ⟨mC,hn.sameBut sb hCa,λh'' sb''=>⟨_,H5,?_,q⟩⟩
 exact I'.turned (t':=s'.toks) (λb o hb e=>sb''.extBut b o hb e) fp.1 fp.2.1 fp.2.2.2.1 fp.2.2.2.2.1 fp.2.2.2.2.2
section
variable {K:QFg}{ρ ρ':List Addr}{H H':Hp}{S:Sto}
theorem Sim.notin {a:Addr}(s:Sim K ρ S H) (h1:H a=none) (h2:K.lookup a=none):∀n:Nat,ρ[n]?≠some a:=λn hn=>by
 have hl:n<S.length:=by rw [<-s.len];exact (qme hn).1
 have q:=s.at' n a _ hn (qge hl)
 cases e:S[n] with
 | lst xs=>rw [e] at q;obtain ⟨vs,z,_⟩:=q;rw [h1] at z;cases z
 | flst xs =>
  rw [e] at q
  obtain ⟨vs,z,_⟩:=q
  rcases z with ⟨o,z⟩|⟨o,_,_,z,_⟩
  ·rw [h1] at z;cases z
  ·rw [h2] at z;cases z
 | iset g m=>rw [e] at q;have q:H a=_:=q;rw [h1] at q;cases q
 | dct kvs=>rw [e] at q;obtain ⟨vs,z,_⟩:=q;rw [h1] at z;cases z
 | tdct kvs=>rw [e] at q;obtain ⟨vs,z,_⟩:=q;rw [h1] at z;cases z
 | fdct kvs=>rw [e] at q;obtain ⟨o,vs,z,_⟩:=q;rw [h1] at z;cases z
 | ftdct kvs=>rw [e] at q;obtain ⟨o,vs,z,_⟩:=q;rw [h1] at z;cases z
 | tset ks=>rw [e] at q;obtain ⟨xs,_,z,_⟩:=q;rw [h1] at z;cases z
 | fnc x=>rw [e] at q;obtain ⟨_,o,z⟩:=q;rw [h2] at z;cases z
 | exc c=>rw [e] at q;obtain ⟨C,_,z⟩:=q;rw [h1] at z;cases z
theorem Sim.adopt {a:Addr}{xs:List D}{vs:List V}(s:Sim K ρ S H) (ha:H a=some (.lst vs)) (hn:∀n:Nat,ρ[n]?≠some a) (r:RDs ρ H xs vs):Sim K (ρ++[a]) (S++[.lst xs]) H:=by
 refine ⟨by simp [s.len],λi j b x1 x2 h1 h2 h3 h4 m1 m2=>?_,λn b o h1 h2=>?_⟩
 ·rcases zd5 h1 with g1|⟨e1,f1⟩ <;> rcases zd5 h2 with g2|⟨e2,f2⟩
  ·rcases zd5 h3 with h3|⟨e3,_⟩ <;> rcases zd5 h4 with h4|⟨e4,_⟩
   ·exact s.nd i j b _ _ g1 g2 h3 h4 m1 m2
   ·have:=(qme g2).1;have:=s.len;omega
   ·have:=(qme g1).1;have:=s.len;omega
   ·omega
  ·subst f2;exact absurd g1 (hn i)
  ·subst f1;exact absurd g2 (hn j)
  ·omega
 ·rcases zd5 h1 with h1|⟨e1,f1⟩
  ·rcases zd5 h2 with h2|⟨e2,f2⟩
   ·exact (s.at' n b o h1 h2).more ext0_push
   ·have:=(qme h1).1;have:=s.len;omega
  ·subst f1
   rcases zd5 h2 with h2|⟨e2,f2⟩
   ·have:=(qme h2).1;have:=s.len;omega
   ·subst f2
    exact ⟨vs,ha,r.mono0 ext0_push⟩
theorem Sim.beside {a:Addr}{ys:List V}{u:HO}(s:Sim K ρ S H) (ha:H a=some (.lst ys)) (hn:∀n:Nat,ρ[n]?≠some a):Sim K ρ S (upd H a u) :=
 ⟨s.len,s.nd,λn b o h1 h2=>(s.at' n b o h1 h2).written ha λ_ z=>hn n (by rw [h1,z])⟩
theorem Ext.beside {a:Addr}{ys:List V}{u:HO}{ρ0:List Addr}{H0:Hp}(e:Ext ρ0 H0 ρ H) (h0:H0 a=none) (ha:H a=some (.lst ys)):Ext ρ0 H0 ρ (upd H a u) :=
 ⟨⟨e.pre,λb vs h=>by rw [za9 (zhy (e.tup b vs h) ha (by intro z;cases z))];exact e.tup b vs h,λb o vs h=>by rw [za9 (zhy (e.frz b o vs h) ha (by intro z;cases z))];exact e.frz b o vs h⟩,λb vs h n=>⟨by rw [za9 (zdo h h0)];exact (e.out b vs h n).1,(e.out b vs h n).2⟩⟩
theorem Ext.adopt {a:Addr}{ρ0:List Addr}{H0:Hp}(e:Ext ρ0 H0 ρ H) (h0:H0 a=none):Ext ρ0 H0 (ρ++[a]) H :=
 ⟨⟨λn b h=>(ext0_push (H:=H)).pre n b (e.pre n b h),e.tup,e.frz⟩,λb vs h n=>⟨(e.out b vs h n).1,λi hi=>by
  rcases zd5 hi with hi|⟨_,z⟩
  ·exact (e.out b vs h n).2 i hi
  ·rw [z,h0] at h;cases h⟩⟩
end
abbrev ItM:=Nat->Sto->Option (Option D)
abbrev IM:=Lo->Sto->Option (ItM × Nat × Sto)
def zju (K:QFg) (ρ:List Addr) (H:Hp) (it:ItM) (J:It):Prop:=∀(i:Nat) ρ' S' H',Ext ρ H ρ' H'->Sim K ρ' S' H' ->
 (it i S' = some none->J.stop i H')/\∀x,it i S' = some (some x)->J.go i H'/\∀y H'',J.yld i H' y H''->H'' = H'/\RD ρ' H' x y
inductive ti (K:QFg) (im:IM) (σ:St) (H:Hp) (R:It->Hp->Prop):Prop
 | mk (ρ:_) (l:_) (S:_) (it:_) (k:_) (S':_) (_:Sim K ρ S H) (_:RO ρ H l σ) (_:im l S=some (it,k,S')) (_:∀ρ' H' J,Ext ρ H ρ' H'->Sim K ρ' S' H'->zju K ρ' H' it J->R J H')
def PI3 (X:Cx) (tgt iter:Expr) (im:IM):Prop:=PI X tgt iter (ti X.K im)
theorem PI.imp {X:Cx}{tgt iter:Expr}{t u:TI}(h:PI X tgt iter t) (i:∀σ H R,u σ H R->t σ H R):PI X tgt iter u:=λpins s σ H Q I q=>h pins s σ H Q I (i _ _ _ q)
noncomputable def itX (xs:List D):ItM:=λi _=>some xs[i]?
noncomputable def itL (n:Nat):ItM:=λi S=>(lstOf S n).bind λxs=>some xs[i]?
noncomputable def zdj (e:EM):IM:=λl S=>(e l S).bind λp=>match p.1 with
 | .tup xs=>some (itX xs,xs.length+1,p.2)
 | .ref n=>(lstOf p.2 n).bind λxs=>some (itL n,xs.length+1,p.2)
 | _=>none
noncomputable def zjv (r:Lo->Sto->Option ((Int × Nat) × Sto)):IM:=λl S=>(r l S).bind λp=>some (itX (zd8 p.1.1 p.1.2),p.1.2+1,p.2)
section
variable {K:QFg}
theorem zz5 {ρ:List Addr}{H:Hp}{a:Addr}{xs:List D}{vs:List V}(ha:H a=some (.tup vs)) (r:RDs ρ H xs vs):zju K ρ H (itX xs) (Itt K a):=by
 intro i ρ' S' H' e s
 have ha':=SqT.of (K:=K) (e.tup _ _ ha)
 have r':=r.mono e
 refine ⟨λh=>?_,λx h=>?_⟩
 ·have h:xs[i]? = none:=qoi h
  exact ⟨vs,ha',by rw [<-r.length];exact List.getElem?_eq_none_iff.mp h⟩
 ·have h:xs[i]? = some x:=qoi h
  obtain ⟨v,hv,rv⟩:=r'.get h
  refine ⟨⟨vs,v,ha',hv⟩,λy H'' ⟨e1,e2⟩=>⟨e1,?_⟩⟩
  have:=e2 vs ha'
  rw [hv] at this;cases this
  exact rv
theorem zz6 {ρ:List Addr}{H:Hp}{a:Addr}{n:Nat}(ha:ρ[n]? = some a):zju K ρ H (itL n) (Itl K a):=by
 intro i ρ' S' H' e s
 have ha':=e.pre _ _ ha
 refine ⟨λh=>?_,λx h=>?_⟩
 ·obtain ⟨xs,h1,h⟩:=bnd h
  have h:xs[i]? = none:=qoi h
  obtain ⟨b,vs,hb,sq,r⟩:=s.lstOf h1
  rw [ha'] at hb;cases hb
  exact ⟨vs,sq,by rw [<-r.length];exact List.getElem?_eq_none_iff.mp h⟩
 ·obtain ⟨xs,h1,h⟩:=bnd h
  have h:xs[i]? = some x:=qoi h
  obtain ⟨b,vs,hb,sq,r⟩:=s.lstOf h1
  rw [ha'] at hb;cases hb
  obtain ⟨v,hv,rv⟩:=r.get h
  refine ⟨⟨vs,v,sq,hv⟩,λy H'' ⟨e1,e2⟩=>⟨e1,?_⟩⟩
  have:=e2 vs sq
  rw [hv] at this;cases this
  exact rv
theorem zz7 {ρ:List Addr}{H:Hp}{lo:Int}{n:Nat}:zju K ρ H (itX (zd8 lo n)) (Itr lo n):=by
 intro i ρ' S' H' e s
 refine ⟨λh=>?_,λx h=>?_⟩
 ·have h:(zd8 lo n)[i]? = none:=qoi h
  have:=List.getElem?_eq_none_iff.mp h
  simp [zd8] at this
  exact this
 ·have h:(zd8 lo n)[i]? = some x:=qoi h
  have hl:=(qme h).1
  simp only [zd8,qlm,List.length_range] at hl
  refine ⟨hl,λy H'' ⟨e1,e2⟩=>⟨e1,?_⟩⟩
  unfold zd8 at h
  rw [qgm,List.getElem?_range hl] at h
  cases h
  rw [e2]
  exact .int _
end
section
variable {X:Cx}{tgt iter:Expr}{m:EM}{mA:AM}{p0 pos':Pos}{a a2:Expr}
theorem ze5 (hi:PE3 X iter m):PI3 X tgt iter (zdj m):=PI.imp (PI.or (zpc hi) (zpd hi)) λσ H R hx1_=>by
 obtain ⟨ρ,l,S,it,k,S',sim,ro,hm,p⟩:=hx1_
 obtain ⟨⟨x,S1⟩,q1,hm⟩:=bnd hm
 dsimp only at hm
 split at hm
 ·rename_i xs
  cases hm
  refine .inr ⟨ρ,l,S,.tup xs,_,sim,ro,q1,λρ1 H1 x' e1 s1 r1=>?_⟩
  cases r1 with
  | @tup xs a vs ha r=>exact ⟨a,rfl,⟨vs,SqT.of ha⟩,p ρ1 H1 _ e1 s1 (zz5 ha r)⟩
 ·rename_i n
  obtain ⟨xs,hx,hm⟩:=bnd hm
  cases hm
  refine .inl ⟨ρ,l,S,.ref n,_,sim,ro,q1,λρ1 H1 x' e1 s1 r1=>?_⟩
  obtain ⟨a,vs,ha,sq,rv⟩:=s1.lstOf hx
  cases r1 with
  | ref hn =>
   rw [ha] at hn;cases hn
   exact ⟨a,rfl,⟨vs,sq⟩,p ρ1 H1 _ e1 s1 (zz6 ha)⟩
 ·cases hm
theorem zqz (hgl:Gl X "range") (hmg:X.mg "range" = none) (ha:PA3 X [a] mA) (hst:starEach [a] X.env=[(false,eval a X.env)]:=by rfl):PI3 X tgt (.Call (.Name "range" p0) [a] [] pos') (zjv (zeg mA)) :=
 PI.imp (zpe hgl hmg ha hst) λσ H R hx2_=>by
  obtain ⟨ρ,l,S,it,k,S',sim,ro,hm,p⟩:=hx2_
  obtain ⟨⟨⟨lo,n⟩,S1⟩,q1,hm⟩:=bnd hm
  cases hm
  obtain ⟨⟨xs,S2⟩,q2,q1⟩:=bnd q1
  dsimp only at q1
  split at q1
  ·rename_i j
   obtain ⟨hz,e⟩:=zdl q1
   cases e
   refine ⟨ρ,l,S,[.int j],_,sim,ro,q2,λρ1 H1 vs e1 s1 r1=>?_⟩
   obtain ⟨v,rfl,rv⟩:=r1.one
   cases rv
   exact ⟨j,rfl,hz.1,hz.2,p ρ1 H1 _ e1 s1 zz7⟩
  ·cases q1
end
noncomputable def zd9 (it:ItM) (g:GM) (t:TM) (e:EM):Nat->Nat->Lo->Sto->Option (List D × Sto)
 | 0,_,_,_=>none
 | k+1,i,l,S=>(it i S).bind λo=>match o with
  | none=>some ([],S)
  | some x=>(g x l S).bind λp=>(t p.1 p.2).bind λq=>if q.1=true then (e p.1 q.2).bind λr=>(zd9 it g t e k (i+1) p.1 r.2).bind λz=>some (r.1 :: z.1,z.2) else zd9 it g t e k (i+1) p.1 q.2
noncomputable def zbp {α:Type}(ixs:List (Option Nat)) (l:List (Option α)):List (Option α):=ixs.map λo=>match o with
 | some j=>(l[j]?).join
 | none=>none
noncomputable def zbv (im:IM) (ixs:List (Option Nat)) (g:GM) (t:TM) (e:EM):EM:=λl S=>(im l S).bind λp=>(zd9 p.1 g t e p.2.1 0 (zbp ixs l) p.2.2).bind λz=>if z.1.length<=sizeLine then some (.ref z.2.length,z.2++[.lst z.1]) else none
noncomputable def zbc:TM:=λ_ S=>some (true,S)
theorem zq0 {ρ:List Addr}{H:Hp}{l:Lo}{σ:St}(ixs:List (Option Nat)) (r:RO ρ H l σ):RO ρ H (zbp ixs l) (zbp ixs σ):=by
 refine ⟨by simp [zbp],λi d h=>?_⟩
 unfold zbp at h ⊢
 rw [qgm] at h ⊢
 cases e:ixs[i]? with
 | none=>rw [e] at h;cases h
 | some o =>
  rw [e] at h
  cases o with
  | none=>cases h
  | some j =>
   have h:((l[j]?).join:Option D)=some d:=qoi h
   cases e2:l[j]? with
   | none=>rw [e2] at h;cases h
   | some o2 =>
    rw [e2] at h
    have h:o2=some d:=h
    subst h
    obtain ⟨v,h1,h2⟩:=r.get j d e2
    exact ⟨v,by show some ((σ[j]?).join)=_;rw [h1];rfl,h2⟩
inductive CI3 (K:QFg) (it:ItM) (g:GM) (t:TM) (e:EM) (S2:Sto) (all:List D) (ρ1:List Addr) (H1:Hp) (Da:Addr) (i m:Nat) (σ':St) (H':Hp):Prop
 | mk (ρ':List Addr) (l':Lo) (S':Sto) (ds:List D) (vs:List V) (rest:List D) (_:Ext ρ1 H1 ρ' H') (_:Sim K ρ' S' H') (_:RO ρ' H' l' σ') (_:H' Da=some (.lst vs)) (_:(∀n:Nat,ρ'[n]?≠some Da)) (_:RDs ρ' H' ds vs) (_:zd9 it g t e m i l' S' = some (rest,S2)) (_:ds++rest=all)
theorem zq1 {K:QFg}{im:IM}{ixs:List (Option Nat)}{g:GM}{t:TM}{e:EM}(σ:St) (H:Hp) (Q:VK) (q:te K (zbv im ixs g t e) σ H Q):zh7 K (ti K im) (zbp ixs) (tg K g) (tt K t) (te K e) σ H Q:=by
 obtain ⟨ρ,l,S,v,S',sim,ro,hm,p⟩:=q
 obtain ⟨⟨it,k,S1⟩,q1,hm⟩:=bnd hm
 obtain ⟨⟨all,S2⟩,q2,hm⟩:=bnd hm
 obtain ⟨hz,he⟩:=zdl hm
 cases he
 refine ⟨ρ,l,S,it,k,S1,sim,ro,q1,λρ1 H1 J e1 s1 io D hD hK=>?_⟩
 dsimp only at q2 hz p
 refine ⟨λi m σ' H'=>CI3 K it g t e S2 all ρ1 H1 D i m σ' H',⟨k,?_⟩,?_⟩
 ·exact ⟨ρ1,zbp ixs l,S1,[],[],all,zfl hD,s1.laid hD,(zq0 ixs (ro.mono e1)).mono (zfl hD),zfj,s1.notin hD hK,.nil,q2,rfl⟩
 ·rintro i m σ' H' ⟨ρ',l',S',ds,vs,rest,e2,s2,ro2,hD2,hn2,rd2,hc,hall⟩
  cases m with
  | zero=>cases hc
  | succ m =>
   unfold zd9 at hc
   obtain ⟨o,ho,hc⟩:=bnd hc
   obtain ⟨iStop,iGo⟩:=io i ρ' S' H' e2 s2
   cases o with
   | none =>
    cases hc
    rw [List.append_nil] at hall
    subst hall
    refine .inl ⟨iStop ho,p (ρ'++[D]) H' (.ref D) (e1.trans (e2.adopt hD)) (s2.adopt hD2 hn2 rd2) (.ref ?_)⟩
    rw [<-s2.len];exact zdh ρ' D
   | some x =>
    obtain ⟨⟨l3,S3⟩,q3,hc⟩:=bnd hc
    obtain ⟨⟨b,S4⟩,q4,hc⟩:=bnd hc
    obtain ⟨hgo,hy⟩:=iGo x ho
    refine .inr ⟨hgo,_,λσ' H' h=>h,λy H'' hyl=>?_⟩
    obtain ⟨rfl,ry⟩:=hy y H'' hyl
    refine ⟨ρ',l',S',x,l3,S3,s2,ro2,ry,q3,λρ3 H3 σ3 e3 s3 ro3=>⟨ρ3,l3,S3,b,S4,s3,ro3,q4,λρ4 H4 e4 s4=>?_⟩⟩
    obtain ⟨hD3,hn3⟩:=e3.out D _ hD2 hn2
    obtain ⟨hD4,hn4⟩:=e4.out D _ hD3 hn3
    cases b with
    | false=>exact zgc ⟨m,Nat.lt_succ_self m,ρ4,l3,S4,ds,vs,rest,e2.trans (e3.trans e4),s4,ro3.mono e4,hD4,hn4,rd2.mono (e3.trans e4),hc,hall⟩
    | true =>
     have hc:((e l3 S4).bind λr=>(zd9 it g t e m (i+1) l3 r.2).bind λz=>some (r.1 :: z.1,z.2))=some (rest,S2):=hc
     obtain ⟨⟨y5,S5⟩,q5,hc⟩:=bnd hc
     obtain ⟨⟨rest',S6⟩,q6,hc⟩:=bnd hc
     cases hc
     refine zfw ⟨ρ4,l3,S4,y5,S5,s4,ro3.mono e4,q5,λρ5 H5 v5 e5 s5 r5=>?_⟩
     obtain ⟨hD5,hn5⟩:=e5.out D _ hD4 hn4
     have e25:=e2.trans (e3.trans (e4.trans e5))
     have rd5:=rd2.mono (e3.trans (e4.trans e5))
     have hlen:vs.length<sizeLine:=by
      have h1:=rd5.length
      have h2:=congrArg List.length hall
      rw [qla,List.length_cons] at h2
      omega
     refine ⟨vs,hD5,hlen,m,Nat.lt_succ_self m,ρ5,l3,S5,ds++[y5],vs++[v5],rest',e25.beside hD hD5,s5.beside hD5 hn5,?_,zfj,hn5,((rd5.append (.cons r5 .nil)).mono0 (zjf hD5)),q6,by rw [<-hall];simp⟩
     have r0:=(ro3.mono e4).mono e5
     exact ⟨r0.len,λi d h=>let ⟨w,h1,h2⟩:=r0.get i d h;⟨w,h1,h2.mono0 (zjf hD5)⟩⟩
theorem zem {X:Cx}:PTs X [] (tt X.K zbc):=λpins s σ H Q I hx4_=>by
 obtain ⟨ρ,l,S,v,S',sim,ro,hm,p⟩:=hx4_
 cases hm
 exact zz1 pins s σ H Q I (p ρ H (Ext.refl ..) sim)
theorem zlg {X:Cx}{c:Expr}{t:TM}(h:PT3 X c t):PTs X [c] (tt X.K t):=zz2 h
theorem zfs {X:Cx}{N':List Str}{elt iter tgt:Expr}{ifs:List Expr}{scope:Scope}{pos:Pos}{im:IM}{ixs:List (Option Nat)}{g:GM}{t:TM}{e:EM}(hcalm:X.calm=true) (sc:CompSc X N' scope (zbp ixs))
  (hi:PI3 X tgt iter im) (hg:∀C s H fp pins,PG3 (cxC X N' scope C s H fp pins) tgt g) (ht:∀C s H fp pins,PTs (cxC X N' scope C s H fp pins) ifs (tt X.K t)) (he:∀C s H fp pins,PE3 (cxC X N' scope C s H fp pins) elt e)
  (hs:∀x,foldedSetIterable iter X.env x=pure x:=by intro _;rfl):PE3 X (.ListComp elt [⟨tgt,iter,ifs,0⟩] scope pos) (zbv im ixs g t e) :=
 PE.imp (zz3 (g:=tg X.K g) (tts:=tt X.K t) (t:=te X.K e) hcalm sc hi hg ht he hs) zq1
theorem zio (j:Nat) {X:Cx}{N':List Str}{elt iter tgt:Expr}{ifs:List Expr}{scope:Scope}{pos spos py:Pos}{y:Str}{im:IM}{ixs:List (Option Nat)}{g:GM}{t:TM}{e:EM}(hN:X.N.Nodup) (hcalm:X.calm=true) (sc:CompSc X N' scope (zbp ixs))
  (hi:PI3 X tgt iter im) (hg:∀C s H fp pins,PG3 (cxC X N' scope C s H fp pins) tgt g) (ht:∀C s H fp pins,PTs (cxC X N' scope C s H fp pins) ifs (tt X.K t)) (he:∀C s H fp pins,PE3 (cxC X N' scope C s H fp pins) elt e)
  (hi':X.N[j]? = some y:=by rfl) (hx:Loc X.env.scope y:=by first|exact Or.inl rfl|exact Or.inr rfl)
  (hsw:swapsWith (.ListComp elt [⟨tgt,iter,ifs,0⟩] scope pos) (some (.Name y py)) spos.line X.env=pure true:=by with_unfolding_all rfl) (hf:X.fn y=true\/X.env.scope.names.lookup y=some .local:=by first|exact .inl rfl|exact .inr rfl|assumption)
  (hs:∀x,foldedSetIterable iter X.env x=pure x:=by intro _;rfl):PS3 X (.Assign [.Name y py] (.ListComp elt [⟨tgt,iter,ifs,0⟩] scope pos) spos) (zaj (zbv im ixs g t e) (gName3 j)) :=
 PS.imp (zz4 (g:=tg X.K g) (tts:=tt X.K t) (t:=te X.K e) hN hi' hx hsw hf hcalm sc hi hg ht he hs) λE σ H hx5_=>by
  obtain ⟨ρ,l,S,f,l',S',sim,ro,hm,p⟩:=hx5_
  obtain ⟨⟨x,S1⟩,q1,hm⟩:=bnd hm
  cases hm
  exact zq1 σ H _ ⟨ρ,l,S,x,S1,sim,ro,q1,λρ1 H1 x' e1 s1 r1=>p ρ1 H1 _ e1 s1 ((ro.mono e1).set j r1)⟩
noncomputable def zlh:D->D->Sto->Option (D × Sto)
 | .int i,.int j,S=>some (.int (i+j),S)
 | .tup xs,.tup ys,S=>if xs.length+ys.length<=sizeLine then some (.tup (xs++ys),S) else none
 | .ref n,.ref m,S=>match S[n]?,S[m]? with
  | some (.lst xs),some (.lst ys)=>if xs.length+ys.length<=sizeLine then some (.ref S.length,S++[.lst (xs++ys)]) else none
  | _,_=>none
 | _,_,_=>none
theorem zz8 {K:QFg}:Op3 K zlh (λx y H Q=>rI0 (λi j=>.int (i+j)) x y H Q\/(zmt K x y H Q\/zna K x y H Q)\/zqb x y H Q):=by
 intro ρ S H x y x' y' v S' Q sim rx ry h p
 unfold zlh at h
 split at h
 ·cases rx;cases ry;cases h
  exact .inl ⟨_,_,rfl,rfl,p ρ H _ (Ext.refl ..) sim (.int _)⟩
 ·refine .inr (.inl (zzj ρ S H _ _ x' y' v S' Q sim rx ry ?_ p))
  unfold zm9
  exact h
 ·split at h
  ·rename_i xs ys e1 e2
   obtain ⟨hz,e⟩:=zdl h
   cases e
   obtain ⟨a,us,ha,hH,r2⟩:=sim.lst e1
   obtain ⟨b,ws,hb,hH2,r3⟩:=sim.lst e2
   cases rx with
   | ref hn =>
    rw [ha] at hn;cases hn
    cases ry with
    | ref hm =>
     rw [hb] at hm;cases hm
     exact .inr (.inr ⟨a,b,us,ws,rfl,rfl,hH,hH2,by rw [<-r2.length,<-r3.length];exact hz,zh4 sim (r2.append r3) p⟩)
  ·cases h
 ·cases h
section
variable {X:Cx}{a b:Expr}{ma mb:EM}{pos:Pos}
end
def Has (P:Program) (w:World) (K:QFg) (mg:Str->Option Value) (base:Heap) (x:Str) (k n:Nat) (m:FM):Prop :=
 ∃(f:Addr) (fd:FuncData) (ps:List Str),FnOk P w K mg base CX0 k f fd ps (sp3 K n m)/\mg x=some (.ref f)/\PySem.W.keepIn K (.ref f)=true/\Binds K fd ps []
section
variable {X:Cx}{a:Expr}{es:List Expr}{mA:AM}{pos p:Pos}{x:Str}{k j n:Nat}{m:FM}
theorem zaw (F:Has X.prog X.w X.K X.mg X.base x k n m) (hr:Room j X.A) (hkj:k<=j) (hg:Gl X x)
  (ha:PA3 X (a :: es) mA) (hl:∀l S v S',mA l S=some (v,S')->v.length=n) (hdb:(x == ("__debug__":Str))=false:=by decide) (he:starEach (a :: es) X.env=(false,eval a X.env) :: starEach es X.env:=by rfl) (hpl:(backTo pos (starEach es X.env)).any (·.1)=false:=by rfl) :
  PE3 X (.Call (.Name x p) (a :: es) [] pos) (zac m mA):=by
 obtain ⟨f,fd,ps,F,hm,hk,hb⟩:=F
 exact zzu F (hr.mono hkj) hg hm hk hb ha hl hdb he hpl
theorem zq2:bootBuiltins "int" = some (.type "int"):=by decide +kernel
theorem ziq:bootBuiltins "tuple" = some (.type "tuple"):=by decide +kernel
theorem zz9:bootBuiltins "list" = some (.type "list"):=by decide +kernel
theorem yaa:bootBuiltins "bool" = some (.type "bool"):=by decide +kernel
theorem zne:bootBuiltins "str" = some (.type "str"):=by decide +kernel
theorem yab:bootBuiltins "min" = some (.builtin "min"):=by decide +kernel
theorem yac:bootBuiltins "max" = some (.builtin "max"):=by decide +kernel
theorem zf3 (hg:Gl X "tuple") (hm:X.mg "tuple" = none) (ha:PA3 X (a :: es) mA) (he:starEach (a :: es) X.env=(false,eval a X.env) :: starEach es X.env:=by rfl) (hpl:(backTo pos (starEach es X.env)).any (·.1)=false:=by rfl):PE3 X (.Call (.Name "tuple" p) (a :: es) [] pos) (zac zdb mA) :=
 zlb zp8 zzo hg hm ziq ha (by decide) (by decide) he hpl
theorem yad (hg:Gl X "list") (hm:X.mg "list" = none) (ha:PA3 X (a :: es) mA) (he:starEach (a :: es) X.env=(false,eval a X.env) :: starEach es X.env:=by rfl) (hpl:(backTo pos (starEach es X.env)).any (·.1)=false:=by rfl):PE3 X (.Call (.Name "list" p) (a :: es) [] pos) (zac zjn mA) :=
 zlb zyu zzp hg hm zz9 ha (by decide) (by decide) he hpl
theorem yae (hc:X.calm=true) (hg:Gl X "min") (hm:X.mg "min" = none) (ha:PA3 X (a :: es) mA) (he:starEach (a :: es) X.env=(false,eval a X.env) :: starEach es X.env:=by rfl) (hpl:(backTo pos (starEach es X.env)).any (·.1)=false:=by rfl):PE3 X (.Call (.Name "min" p) (a :: es) [] pos) (zac zjo mA) :=
 zji (zxx hc) zzm hg hm yab ha (by decide) (by decide) he hpl
theorem yaf (hc:X.calm=true) (hg:Gl X "max") (hm:X.mg "max" = none) (ha:PA3 X (a :: es) mA) (he:starEach (a :: es) X.env=(false,eval a X.env) :: starEach es X.env:=by rfl) (hpl:(backTo pos (starEach es X.env)).any (·.1)=false:=by rfl):PE3 X (.Call (.Name "max" p) (a :: es) [] pos) (zac zjp mA) :=
 zji (zxw hc) zzn hg hm yac ha (by decide) (by decide) he hpl
end
theorem yag {P:Program}{w:World}{K:QFg}{mg:Str->Option Value}{base:Heap}{x:Str}{st:Stmt}{f:Addr}{fd:FuncData}{N ps:List Str}{k n:Nat}{b:SM}(F:Fun K x x st f fd) (hm:mg x=some (.ref f)) (S:FnScope N ps (za2 st)) (hn:ps.length=n) (hb:Binds K fd ps [])
  (hbody:∀(cdv:Value),PySem.W.codeIn K cdv x=true->∀(A:Around) (outer:List Env) (s:Shared) (H:Hp) (E:XK),Room k (A.deeper (envOfC x (za2 st) s.heap.objs.size f cdv)) ->
   zfm (zdp CX0 P w K mg base N x (za2 st) f cdv A outer s H E).nox (zfv st) b):Has P w K mg base x (k+1) n (zc9 N.length b) :=
 ⟨f,fd,ps,zqw F S hn hbody,hm,F.kp,hb⟩
noncomputable def chk (scO scope:Scope) (NO N':List Str) (ixs:List (Option Nat)):Bool :=
 decide (scope.kind=.function) && (scope.names.all λy=>y.2 != .cell) && (scope.names.all λy=>y.2 != .local || scope.names.lookup y.1 == some .local) &&
 (scope.names.all λy=>y.2 != .free || (scO.names.lookup y.1 == some .cell || scO.names.lookup y.1 == some .free)) && (ixs.length == N'.length) &&
 ((List.range ixs.length).all λi=>match ixs[i]? with|some (some j)=>(NO[j]? == N'[i]? && (match N'[i]? with|some x=>scope.names.lookup x == some .free|none=>false))|_=>true)
theorem zer {X:Cx}{scO scope:Scope}{NO N':List Str}{ixs:List (Option Nat)}(hX:X.env.scope=scO) (hN:X.N=NO) (h:chk scO scope NO N' ixs=true):CompSc X N' scope (zbp ixs):=by
 unfold chk at h
 simp only [Bool.and_eq_true,decide_eq_true_eq,List.all_eq_true,beq_iff_eq,Bool.or_eq_true,bne_iff_ne,ne_eq] at h
 obtain ⟨⟨⟨⟨⟨h1,h2⟩,h3⟩,h4⟩,h5⟩,h6⟩:=h
 refine ⟨h1,h2,λy hy hl=>?_,λy hy hl=>?_,λy hy=>?_,λσ=>by simp [zbp,h5],λσ i v x hv hx=>?_⟩
 ·rcases h3 y hy with z|z
  ·exact absurd hl z
  ·exact z
 ·show X.env.scope.names.lookup y.1=_\/X.env.scope.names.lookup y.1=_
  rw [hX]
  rcases h4 y hy with z|z
  ·exact absurd hl z
  ·exact z
 ·have mem:∃k,(k=NameKind.cell\/k=NameKind.free)/\(y,k)∈(relabel scope X.env).names:=by
   rcases hy with z|z
   ·exact ⟨_,.inl rfl,PySem.mem_of_lookup z⟩
   ·exact ⟨_,.inr rfl,PySem.mem_of_lookup z⟩
  obtain ⟨k,hk,hm⟩:=mem
  unfold relabel at hm
  obtain ⟨⟨n,k'⟩,hm1,hm2⟩:=List.mem_map.mp hm
  dsimp only at hm2
  split at hm2
  ·rename_i hc
   have:k' = .free:=by
    rw [Bool.and_eq_true,Bool.and_eq_true] at hc
    exact eq_of_beq hc.1.1
   cases hm2
   rw [<-this];exact hm1
  ·cases hm2
   rcases hk with z|z
   ·exact absurd z (h2 _ hm1)
   ·rw [<-z];exact hm1
 ·have hl:i<ixs.length:=by
   have:=(qme hv).1
   simpa [zbp] using this
  unfold zbp at hv
  rw [qgm] at hv
  have q:=h6 i (List.mem_range.mpr hl)
  cases e:ixs[i]? with
  | none=>rw [e] at hv;cases hv
  | some o =>
   rw [e] at hv
   cases o with
   | none=>cases hv
   | some j =>
    rw [e] at q
    dsimp only at q
    rw [hx] at q
    simp only [Bool.and_eq_true,beq_iff_eq] at q
    have hv:((σ[j]?).join:Option V)=some v:=qoi hv
    refine ⟨j,by rw [hN];exact q.1,?_,q.2⟩
    cases e2:σ[j]? with
    | none=>rw [e2] at hv;cases hv
    | some o2=>rw [e2] at hv;have hv:o2=some v:=hv;rw [hv]
theorem yah {K:QFg}{H:Hp}{a:Addr}{ns:List Int}{m:FM}(hO:zk5 H) (hS:SqL K H a (ns.map V.int)) (h:∃S',m [.ref 0] [.flst (ns.map D.int)]=some (.bl true,S')):sp3 K 1 m [.ref a] H (λv _=>v=.bl true) λ_ _ _=>False:=by
 obtain ⟨S',h⟩:=h
 have rn:∀ns:List Int,RDs [a] H (ns.map D.int) (ns.map V.int):=λns=>by
  induction ns with
  | nil=>exact .nil
  | cons x r ih=>exact .cons (.int x) ih
 refine ⟨rfl,[a],[.ref 0],_,_,S',⟨rfl,λi j b o1 o2 h1 h2 h3 h4 m1 m2=>?_,λn b o h1 h2=>?_⟩,.cons (.ref rfl) .nil,h,λρ' H' v' e s r=>?_⟩
 ·cases i with
  | zero=>cases h3;cases m1
  | succ i=>cases h3
 ·cases n with
  | succ n=>cases h1
  | zero =>
   cases h1;cases h2
   refine ⟨_,?_,rn ns⟩
   rcases hS with (z|⟨o,z⟩)|z
   ·rcases hO a with y|⟨o,xs,y⟩ <;> (rw [z] at y;cases y)
   ·exact .inl ⟨o,z⟩
   ·exact .inr z
 ·cases r;rfl
noncomputable def top (b:List Stmt) (i:Nat):Stmt:=b.getD i (.Pass ⟨0,0,0,0⟩)
def We (m:EM) (l:Lo) (S:Sto) (Q:D->Sto->Prop):Prop:=∃v S',m l S=some (v,S')/\Q v S'
def Wt (m:TM) (l:Lo) (S:Sto) (Q:Bool->Sto->Prop):Prop:=∃v S',m l S=some (v,S')/\Q v S'
def Wa (m:AM) (l:Lo) (S:Sto) (Q:List D->Sto->Prop):Prop:=∃v S',m l S=some (v,S')/\Q v S'
def Wo (o:Option (D × Sto)) (Q:D->Sto->Prop):Prop:=∃v S',o=some (v,S')/\Q v S'
def Wg (o:Option (Lo × Sto)) (Q:Lo->Sto->Prop):Prop:=∃l S',o=some (l,S')/\Q l S'
def Wr (o:Option (Fl × Lo × Sto)) (Q:Fl->Lo->Sto->Prop):Prop:=∃f l S',o=some (f,l,S')/\Q f l S'
abbrev Ws (m:SM) (l:Lo) (S:Sto) (Q:Fl->Lo->Sto->Prop):Prop:=Wr (m l S) Q
section
variable {a b c:EM}{t u:TM}{l:Lo}{S:Sto}{Q:D->Sto->Prop}{QB:Bool->Sto->Prop}{QA:List D->Sto->Prop}{QS:Fl->Lo->Sto->Prop}{QG:Lo->Sto->Prop}
theorem zaq {i:Nat}:We (eVar i) l S Q = ∃d,l[i]? = some (some d)/\Q d S:=by
 apply propext;unfold We eVar
 constructor
 ·rintro ⟨v,S',h,q⟩
  split at h
  ·rename_i d e;cases h;exact ⟨_,e,q⟩
  ·cases h
 ·rintro ⟨d,e,q⟩
  exact ⟨d,S,by rw [e],q⟩
theorem zay {d:D}:We (eC d) l S Q=Q d S:=by
 apply propext;unfold We eC
 exact ⟨λhx1_=>by obtain ⟨v,S',h,q⟩:=hx1_;cases h;exact q,λq=>⟨_,_,rfl,q⟩⟩
theorem za0 {f:D->D->Sto->Option (D × Sto)}:We (eOp f a b) l S Q=We a l S λx S1=>We b l S1 λy S2=>Wo (f x y S2) Q:=by
 apply propext
 constructor
 ·rintro ⟨v,S',h,q⟩
  obtain ⟨⟨x,S1⟩,h1,h⟩:=bnd h
  obtain ⟨⟨y,S2⟩,h2,h⟩:=bnd h
  exact ⟨x,S1,h1,y,S2,h2,v,S',h,q⟩
 ·rintro ⟨x,S1,h1,y,S2,h2,v,S',h,q⟩
  exact ⟨v,S',by unfold eOp;rw [h1];show (b l S1).bind _=_;rw [h2];exact h,q⟩
theorem zcq {f:D->Sto->Option (D × Sto)}:We (eUn f a) l S Q=We a l S λx S1=>Wo (f x S1) Q:=by
 apply propext
 constructor
 ·rintro ⟨v,S',h,q⟩
  obtain ⟨⟨x,S1⟩,h1,h⟩:=bnd h
  exact ⟨x,S1,h1,v,S',h,q⟩
 ·rintro ⟨x,S1,h1,v,S',h,q⟩
  exact ⟨v,S',by unfold eUn;rw [h1];exact h,q⟩
theorem zap:Wa zab l S QA=QA [] S:=by
 apply propext
 exact ⟨λhx2_=>by obtain ⟨v,S',h,q⟩:=hx2_;cases h;exact q,λq=>⟨_,_,rfl,q⟩⟩
theorem zar {r:AM}:Wa (zaa a r) l S QA=We a l S λx S1=>Wa r l S1 λxs S2=>QA (x :: xs) S2:=by
 apply propext
 constructor
 ·rintro ⟨v,S',h,q⟩
  obtain ⟨⟨x,S1⟩,h1,h⟩:=bnd h
  obtain ⟨⟨y,S2⟩,h2,h⟩:=bnd h
  cases h
  exact ⟨x,S1,h1,y,_,h2,q⟩
 ·rintro ⟨x,S1,h1,y,S2,h2,q⟩
  exact ⟨x :: y,S2,by unfold zaa;rw [h1];show (r l S1).bind _=_;rw [h2];rfl,q⟩
theorem zau {f:FM}{r:AM}:We (zac f r) l S Q=Wa r l S λxs S1=>Wo (f xs S1) Q:=by
 apply propext
 constructor
 ·rintro ⟨v,S',h,q⟩
  obtain ⟨⟨x,S1⟩,h1,h⟩:=bnd h
  exact ⟨x,S1,h1,v,S',h,q⟩
 ·rintro ⟨x,S1,h1,v,S',h,q⟩
  exact ⟨v,S',by unfold zac;rw [h1];exact h,q⟩
theorem zb3 {f:D->List D->Sto->Option (D × Sto)}{r:AM}:We (zfr f a r) l S Q=We a l S λx S1=>(∃xs,zhl x S1=some xs)/\Wa r l S1 λys S2=>Wo (f x ys S2) Q:=by
 apply propext
 constructor
 ·rintro ⟨v,S',h,q⟩
  obtain ⟨⟨x,S1⟩,h1,h⟩:=bnd h
  obtain ⟨xs,h2,h⟩:=bnd h
  obtain ⟨⟨y,S2⟩,h3,h⟩:=bnd h
  exact ⟨x,S1,h1,⟨xs,h2⟩,y,S2,h3,v,S',h,q⟩
 ·rintro ⟨x,S1,h1,⟨xs,h2⟩,y,S2,h3,v,S',h,q⟩
  refine ⟨v,S',?_,q⟩
  unfold zfr;rw [h1];show (zhl x S1).bind _=_;rw [h2];show (r l S1).bind _=_;rw [h3];exact h
theorem zbj:Wt (tE a) l S QB=We a l S λx S1=>∃k,x=.bl k/\QB k S1:=by
 apply propext
 constructor
 ·rintro ⟨v,S',h,q⟩
  obtain ⟨⟨x,S1⟩,h1,h⟩:=bnd h
  refine ⟨x,S1,h1,?_⟩
  cases x with
  | bl k=>cases h;exact ⟨_,rfl,q⟩
  | _=>cases h
 ·rintro ⟨x,S1,h1,k,rfl,q⟩
  exact ⟨k,S1,by unfold tE;rw [h1];rfl,q⟩
theorem zcd:Wt (zfb t u) l S QB=Wt t l S λk S1=>if k=true then Wt u l S1 QB else QB false S1:=by
 apply propext
 constructor
 ·rintro ⟨v,S',h,q⟩
  obtain ⟨⟨x,S1⟩,h1,h⟩:=bnd h
  refine ⟨x,S1,h1,?_⟩
  cases x with
  | true=>exact ⟨v,S',h,q⟩
  | false=>cases h;exact q
 ·rintro ⟨x,S1,h1,h⟩
  cases x with
  | true=>obtain ⟨v,S',h,q⟩:=h;exact ⟨v,S',by unfold zfb;rw [h1];exact h,q⟩
  | false=>exact ⟨false,S1,by unfold zfb;rw [h1];rfl,h⟩
theorem zcr:Wt (zdu t u) l S QB=Wt t l S λk S1=>if k=true then QB true S1 else Wt u l S1 QB:=by
 apply propext
 constructor
 ·rintro ⟨v,S',h,q⟩
  obtain ⟨⟨x,S1⟩,h1,h⟩:=bnd h
  refine ⟨x,S1,h1,?_⟩
  cases x with
  | false=>exact ⟨v,S',h,q⟩
  | true=>cases h;exact q
 ·rintro ⟨x,S1,h1,h⟩
  cases x with
  | false=>obtain ⟨v,S',h,q⟩:=h;exact ⟨v,S',by unfold zdu;rw [h1];exact h,q⟩
  | true=>exact ⟨true,S1,by unfold zdu;rw [h1];rfl,h⟩
theorem zcs:Wt (zdi t) l S QB=Wt t l S λk S1=>QB (!k) S1:=by
 apply propext
 constructor
 ·rintro ⟨v,S',h,q⟩
  obtain ⟨⟨x,S1⟩,h1,h⟩:=bnd h
  cases h
  exact ⟨x,_,h1,q⟩
 ·rintro ⟨x,S1,h1,q⟩
  exact ⟨!x,S1,by unfold zdi;rw [h1];rfl,q⟩
theorem zq3:Wt zbc l S QB=QB true S:=by
 apply propext
 exact ⟨λhx3_=>by obtain ⟨v,S',h,q⟩:=hx3_;cases h;exact q,λq=>⟨_,_,rfl,q⟩⟩
theorem zct:We (zfc a b) l S Q=We a l S λx S1=>∃k,x=.bl k/\if k=true then We b l S1 Q else Q (.bl false) S1:=by
 apply propext
 constructor
 ·rintro ⟨v,S',h,q⟩
  obtain ⟨⟨x,S1⟩,h1,h⟩:=bnd h
  refine ⟨x,S1,h1,?_⟩
  cases x with
  | bl k =>
   cases k with
   | true=>exact ⟨true,rfl,v,S',h,q⟩
   | false=>cases h;exact ⟨false,rfl,q⟩
  | _=>cases h
 ·rintro ⟨x,S1,h1,k,rfl,h⟩
  cases k with
  | true=>obtain ⟨v,S',h,q⟩:=h;exact ⟨v,S',by unfold zfc;rw [h1];exact h,q⟩
  | false=>exact ⟨_,S1,by unfold zfc;rw [h1];rfl,h⟩
theorem zcu:We (zgd a b) l S Q=We a l S λx S1=>∃k,x=.bl k/\if k=true then Q (.bl true) S1 else We b l S1 Q:=by
 apply propext
 constructor
 ·rintro ⟨v,S',h,q⟩
  obtain ⟨⟨x,S1⟩,h1,h⟩:=bnd h
  refine ⟨x,S1,h1,?_⟩
  cases x with
  | bl k =>
   cases k with
   | false=>exact ⟨false,rfl,v,S',h,q⟩
   | true=>cases h;exact ⟨true,rfl,q⟩
  | _=>cases h
 ·rintro ⟨x,S1,h1,k,rfl,h⟩
  cases k with
  | false=>obtain ⟨v,S',h,q⟩:=h;exact ⟨v,S',by unfold zgd;rw [h1];exact h,q⟩
  | true=>exact ⟨_,S1,by unfold zgd;rw [h1];rfl,h⟩
theorem zcv:We (zg7 a) l S Q=We a l S λx S1=>∃k,x=.bl k/\Q (.bl (!k)) S1:=by
 apply propext
 constructor
 ·rintro ⟨v,S',h,q⟩
  obtain ⟨⟨x,S1⟩,h1,h⟩:=bnd h
  refine ⟨x,S1,h1,?_⟩
  cases x with
  | bl k=>cases h;exact ⟨k,rfl,q⟩
  | _=>cases h
 ·rintro ⟨x,S1,h1,k,rfl,h⟩
  exact ⟨_,S1,by unfold zg7;rw [h1];rfl,h⟩
variable {m n:SM}
theorem zbk:Ws zat l S QS=QS .nx l S:=by
 apply propext
 exact ⟨λhx4_=>by obtain ⟨f,v,S',h,q⟩:=hx4_;cases h;exact q,λq=>⟨_,_,_,rfl,q⟩⟩
theorem zbm:Ws (zag m n) l S QS=Ws m l S λf l1 S1=>match f with | .nx=>Ws n l1 S1 QS|f=>QS f l1 S1:=by
 apply propext
 constructor
 ·rintro ⟨f,v,S',h,q⟩
  obtain ⟨⟨g,l1,S1⟩,h1,h⟩:=bnd h
  refine ⟨g,l1,S1,h1,?_⟩
  cases g with
  | nx=>exact ⟨f,v,S',h,q⟩
  | _=>cases h;exact q
 ·rintro ⟨g,l1,S1,h1,h⟩
  cases g with
  | nx=>obtain ⟨f,v,S',h,q⟩:=h;exact ⟨f,v,S',by unfold zag;rw [h1];exact h,q⟩
  | bk=>exact ⟨_,_,_,by unfold zag;rw [h1];rfl,h⟩
  | ct=>exact ⟨_,_,_,by unfold zag;rw [h1];rfl,h⟩
  | rt d=>exact ⟨_,_,_,by unfold zag;rw [h1];rfl,h⟩
theorem zc8 (R:Lo->Sto->Prop) (h1:Ws m l S λf l1 S1=>f=.nx/\R l1 S1) (h2:∀l1 S1,R l1 S1->Ws n l1 S1 QS):Ws (zag m n) l S QS:=by
 rw [zbm]
 obtain ⟨f,l1,S1,e,rfl,r⟩:=h1
 exact ⟨_,_,_,e,h2 l1 S1 r⟩
theorem zbd:Ws (sIf t m n) l S QS=Wt t l S λk S1=>if k=true then Ws m l S1 QS else Ws n l S1 QS:=by
 apply propext
 constructor
 ·rintro ⟨f,v,S',h,q⟩
  obtain ⟨⟨x,S1⟩,h1,h⟩:=bnd h
  refine ⟨x,S1,h1,?_⟩
  cases x with
  | true=>exact ⟨f,v,S',h,q⟩
  | false=>exact ⟨f,v,S',h,q⟩
 ·rintro ⟨x,S1,h1,h⟩
  cases x with
  | true=>obtain ⟨f,v,S',h,q⟩:=h;exact ⟨f,v,S',by unfold sIf;rw [h1];exact h,q⟩
  | false=>obtain ⟨f,v,S',h,q⟩:=h;exact ⟨f,v,S',by unfold sIf;rw [h1];exact h,q⟩
theorem zb4:Ws (zdz a) l S QS=We a l S λ_ S1=>QS .nx l S1:=by
 apply propext
 constructor
 ·rintro ⟨f,v,S',h,q⟩
  obtain ⟨⟨x,S1⟩,h1,h⟩:=bnd h
  cases h
  exact ⟨x,_,h1,q⟩
 ·rintro ⟨x,S1,h1,q⟩
  exact ⟨_,_,_,by unfold zdz;rw [h1];rfl,q⟩
theorem zbs:Ws (sRet a) l S QS=We a l S λx S1=>QS (.rt x) l S1:=by
 apply propext
 constructor
 ·rintro ⟨f,v,S',h,q⟩
  obtain ⟨⟨x,S1⟩,h1,h⟩:=bnd h
  cases h
  exact ⟨x,_,h1,q⟩
 ·rintro ⟨x,S1,h1,q⟩
  exact ⟨_,_,_,by unfold sRet;rw [h1];rfl,q⟩
theorem za7 {g:GM}:Ws (zaj a g) l S QS=We a l S λx S1=>Wg (g x l S1) λl2 S2=>QS .nx l2 S2:=by
 apply propext
 constructor
 ·rintro ⟨f,v,S',h,q⟩
  obtain ⟨⟨x,S1⟩,h1,h⟩:=bnd h
  obtain ⟨⟨l2,S2⟩,h2,h⟩:=bnd h
  cases h
  exact ⟨x,S1,h1,_,_,h2,q⟩
 ·rintro ⟨x,S1,h1,l2,S2,h2,q⟩
  refine ⟨_,_,_,?_,q⟩
  unfold zaj;rw [h1];show (g x l S1).bind _=_;rw [h2];rfl
theorem zav {i:Nat}{d:D}:Wg (gName3 i d l S) QG=QG (l.set i (some d)) S:=by
 apply propext
 exact ⟨λhx7_=>by obtain ⟨v,S',h,q⟩:=hx7_;cases h;exact q,λq=>⟨_,_,rfl,q⟩⟩
theorem zce {k:Nat}{gs:GsM}{xs:List D}:Wg (zgv k gs (.tup xs) l S) QG=(xs.length=k/\Wg (gs xs l S) QG):=by
 apply propext
 constructor
 ·rintro ⟨v,S',h,q⟩
  have h:(if xs.length=k then gs xs l S else none)=some (v,S'):=h
  by_cases hl:xs.length=k
  ·rw [if_pos hl] at h;exact ⟨hl,v,S',h,q⟩
  ·rw [if_neg hl] at h;cases h
 ·rintro ⟨hl,v,S',h,q⟩
  exact ⟨v,S',by show (if xs.length=k then gs xs l S else none)=_;rw [if_pos hl];exact h,q⟩
theorem zcf:Wg (zgu [] l S) QG=QG l S:=by
 apply propext
 exact ⟨λhx8_=>by obtain ⟨v,S',h,q⟩:=hx8_;cases h;exact q,λq=>⟨_,_,rfl,q⟩⟩
theorem zcg {g:GM}{gs:GsM}{x:D}{xs:List D}:Wg (zd3 g gs (x :: xs) l S) QG=Wg (g x l S) λl1 S1=>Wg (gs xs l1 S1) QG:=by
 apply propext
 constructor
 ·rintro ⟨v,S',h,q⟩
  obtain ⟨⟨l1,S1⟩,h1,h⟩:=bnd h
  exact ⟨l1,S1,h1,v,S',h,q⟩
 ·rintro ⟨l1,S1,h1,v,S',h,q⟩
  exact ⟨v,S',by show (g x l S).bind _=_;rw [h1];exact h,q⟩
theorem zch {o i:EM}{v:D}:Wg (zin o i v l S) QG=We o l S λx S1=>We i l S1 λy S2=>∃S',zgi x y v S2=some S'/\QG l S':=by
 apply propext
 constructor
 ·rintro ⟨l',S',h,q⟩
  obtain ⟨⟨x,S1⟩,h1,h⟩:=bnd h
  obtain ⟨⟨y,S2⟩,h2,h⟩:=bnd h
  obtain ⟨S3,h3,h⟩:=bnd h
  cases h
  exact ⟨x,S1,h1,y,S2,h2,_,h3,q⟩
 ·rintro ⟨x,S1,h1,y,S2,h2,S3,h3,q⟩
  refine ⟨l,S3,?_,q⟩
  unfold zin;rw [h1];show (i l S1).bind _=_;rw [h2];show (zgi x y v S2).bind _=_;rw [h3];rfl
theorem zc6 {d:D}:Wo (some (d,S)) Q=Q d S:=by
 apply propext
 exact ⟨λhx9_=>by obtain ⟨v,S',h,q⟩:=hx9_;cases h;exact q,λq=>⟨_,_,rfl,q⟩⟩
theorem zha {α:Type}{o:Option α}{f:α->Option (D × Sto)}:Wo (o.bind f) Q = ∃x,o=some x/\Wo (f x) Q:=by
 cases o with
 | none=>simp [Wo]
 | some x=>simp [Wo]
theorem zgk {p:Prop} [Decidable p] {x:D × Sto}:Wo (if p then some x else none) Q=(p/\Q x.1 x.2):=by
 obtain ⟨a,b⟩:=x
 by_cases hp:p
 ·rw [if_pos hp]
  apply propext
  exact ⟨λhx10_=>by obtain ⟨v,S',h,q⟩:=hx10_;cases h;exact ⟨hp,q⟩,λq=>⟨a,b,rfl,q.2⟩⟩
 ·simp [hp,Wo]
theorem zbq {g:Int->Int->D}{i j:Int}:Wo (oI0 g (.int i) (.int j) S) Q=Q (g i j) S:=zc6
theorem zb5 {C:Int->Int->Bool}{g:Int->Int->D}{i j:Int}:Wo (oI C g (.int i) (.int j) S) Q=(C i j=true/\Q (g i j) S):=zgk
theorem zci {xs:List D}{i:Int}:Wo (dIx (.tup xs) (.int i) S) Q = ∃v,L2.atI xs i=some v/\Q v S:=by
 show Wo ((L2.atI xs i).bind λv=>some (v,S)) Q=_
 rw [zha];simp only [zc6]
theorem zcj {k:Nat}{i:Int}:Wo (dIx (.ref k) (.int i) S) Q = ∃xs,lstOf S k=some xs/\∃v,L2.atI xs i=some v/\Q v S:=by
 show Wo ((lstOf S k).bind λxs=>(L2.atI xs i).bind λv=>some (v,S)) Q=_
 rw [zha];simp only [zha,zc6]
theorem zck {xs:List D}:Wo (zjm [.tup xs] S) Q=Q (.int xs.length) S:=zc6
theorem zcl {k:Nat}:Wo (zjm [.ref k] S) Q = ∃xs,lstOf S k=some xs/\Q (.int xs.length) S:=by
 show Wo ((lstOf S k).bind λxs=>some (.int xs.length,S)) Q=_
 rw [zha];simp only [zc6]
theorem zby {xs:List D}:Wo (zbo xs S) Q=(xs.length<=sizeLine/\Q (.tup xs) S):=zgk
theorem zbr {xs:List D}:Wo (za6 xs S) Q=(xs.length<=sizeLine/\Q (.ref S.length) (S++[.lst xs])):=zgk
theorem zb6 {k:Nat}:Wo (zdb [.ref k] S) Q = ∃xs,lstOf S k=some xs/\Q (.tup xs) S:=by
 show Wo ((lstOf S k).bind λxs=>some (.tup xs,S)) Q=_
 rw [zha];simp only [zc6]
theorem zbz {i j:Int}:Wo (dEq (.int i) (.int j) S) Q=Q (.bl (decide (i=j))) S:=zc6
theorem zcw {x:D}:Wo (dIs x .non S) Q=Q (.bl (zel x)) S:=by
 cases x <;> exact zc6
theorem zcx {x:D}:Wo (zim x .non S) Q=Q (.bl (!zel x)) S:=by
 cases x <;> exact zc6
theorem znf {k:Nat}{x:D}:Wo (zfq (.ref k) [x] S) Q = ∃xs,S[k]? = some (.lst xs)/\xs.length<sizeLine/\Q .non (S.set k (.lst (xs++[x]))):=by
 show Wo (match S[k]? with|some (.lst xs)=>if xs.length<sizeLine then some (.non,S.set k (.lst (xs++[x]))) else none|_=>none) Q=_
 cases e:S[k]? with
 | none=>simp [Wo]
 | some o =>
  cases o with
  | lst xs=>simp [zgk]
  | flst xs=>simp [Wo]
  | iset f n=>simp [Wo]
  | dct kvs=>simp [Wo]
  | fdct kvs=>simp [Wo]
  | ftdct kvs=>simp [Wo]
  | tset ks=>simp [Wo]
  | fnc x=>simp [Wo]
  | tdct kvs=>simp [Wo]
  | exc c=>simp [Wo]
theorem zbe {k:Nat}{b:SM}{ds:List D}:Wo (zc9 k b ds S) Q=Ws b (ds.map some++List.replicate (k-ds.length) none) S λf _ S1=>match f with | .rt d=>Q d S1 | .nx=>Q .non S1|_=>False:=by
 apply propext
 constructor
 ·rintro ⟨v,S',h,q⟩
  obtain ⟨⟨f,l1,S1⟩,h1,h⟩:=bnd h
  refine ⟨f,l1,S1,h1,?_⟩
  cases f with
  | rt d=>cases h;exact q
  | nx=>cases h;exact q
  | bk=>cases h
  | ct=>cases h
 ·rintro ⟨f,l1,S1,h1,q⟩
  cases f with
  | rt d=>exact ⟨_,_,by unfold zc9;rw [h1];rfl,q⟩
  | nx=>exact ⟨_,_,by unfold zc9;rw [h1];rfl,q⟩
  | bk=>cases q
  | ct=>cases q
end
theorem Wo.mono {o:Option (D × Sto)}{Q Q':D->Sto->Prop}(h:Wo o Q) (i:∀v S,Q v S->Q' v S):Wo o Q':=let ⟨v,S,e,q⟩:=h;⟨v,S,e,i v S q⟩
theorem Wr.mono {o:Option (Fl × Lo × Sto)}{Q Q':Fl->Lo->Sto->Prop}(h:Wr o Q) (i:∀f v S,Q f v S->Q' f v S):Wr o Q':=let ⟨f,v,S,e,q⟩:=h;⟨f,v,S,e,i f v S q⟩
section
variable {g:GM}{b:SM}{l:Lo}{S:Sto}{QS:Fl->Lo->Sto->Prop}
theorem yai {as:AM}:Ws (zgj (zeg as) g b) l S QS=Wa as l S λxs S1=>∃j,xs=[.int j]/\(-(2 ^ 62)<=j/\j<2 ^ 62)/\Wr (zf0 g b (zd8 0 j.toNat) l S1) QS:=by
 apply propext
 constructor
 ·rintro ⟨f,v,S',h,q⟩
  obtain ⟨⟨⟨lo,n⟩,S1⟩,h1,h⟩:=bnd h
  obtain ⟨⟨xs,S2⟩,h2,h1⟩:=bnd h1
  dsimp only at h1
  split at h1
  ·rename_i j
   obtain ⟨hz,e⟩:=zdl h1
   cases e
   exact ⟨_,_,h2,j,rfl,hz,f,v,S',h,q⟩
  ·cases h1
 ·rintro ⟨xs,S1,h1,j,rfl,hz,f,v,S',h,q⟩
  refine ⟨f,v,S',?_,q⟩
  have:zeg as l S=some ((0,j.toNat),S1):=by
   unfold zeg;rw [h1];show (if _ then _ else _)=_;rw [if_pos hz]
  unfold zgj;show (zeg as l S).bind _=_;rw [this];exact h
theorem zq4 {e:EM}:Ws (zf2 e g b) l S QS=We e l S λx S1=>Wr (match x with | .tup xs=>zf0 g b xs l S1 | .ref n=>(lstOf S1 n).bind λxs=>zf1 g b n (xs.length+1) 0 l S1|_=>none) QS:=by
 apply propext
 constructor
 ·rintro ⟨f,v,S',h,q⟩
  obtain ⟨⟨x,S1⟩,h1,h⟩:=bnd h
  exact ⟨x,S1,h1,f,v,S',h,q⟩
 ·rintro ⟨x,S1,h1,f,v,S',h,q⟩
  exact ⟨f,v,S',by unfold zf2;rw [h1];exact h,q⟩
theorem yaj {lo:Int}{n i:Nat}{x:D}(h:(zd8 lo n)[i]? = some x):i<n/\x=.int (lo+i):=by
 have hl:=(qme h).1
 simp only [zd8,qlm,List.length_range] at hl
 unfold zd8 at h
 rw [qgm,List.getElem?_range hl] at h
 exact ⟨hl,(qoi h).symm⟩
theorem zir (lo:Int) (n:Nat):(zd8 lo n).length=n:=by simp [zd8]
end
mutual
noncomputable def zax (S:Sto):Nat->D->Option PyData
 | 0,_=>none
 | _+1,.non=>some .none
 | _+1,.bl b=>some (.bool b)
 | _+1,.int i=>if i.natAbs.log2<1920 then some (.int i) else none
 | _+1,.str x=>some (.str x)
 | k+1,.tup xs=>(pyAll S k xs).bind λds=>some (.tuple ds)
 | k+1,.ref n=>(lstOf S n).bind λxs=>(pyAll S k xs).bind λds=>some (.list ds)
 | _+1,.fn _=>none
termination_by k=>(k,0)
noncomputable def pyAll (S:Sto):Nat->List D->Option (List PyData)
 | _,[]=>some []
 | k,x :: xs=>(zax S k x).bind λd=>(pyAll S k xs).bind λds=>some (d :: ds)
termination_by k xs=>(k,xs.length+1)
end
noncomputable def zev:FM
 | [x],S=>(zax S 140 x).bind λd=>if d.shown.length<=sizeLine then some (.str d.shown,S) else none
 | _,_=>none
section
variable {X:Cx}{pins:List (Addr × Obj)}{σ:St}{H:Hp}{s:Shared}{ρ:List Addr}{S:Sto}
theorem zng (I:Inv X pins σ H s) (sim:Sim X.K ρ S H) {k:Nat}(ih:∀(d:D) (v:V) (u:Value) (p:PyData),RD ρ H d v->RelV v u->zax S k d=some p->(∃as,Reads s.heap u p as)/\p.showable=true/\p.hasDict=false/\p.depth<=k):∀(xs:List D) (vs:List V) (us:List Value) (ds:List PyData),RDs ρ H xs vs->Vals vs us->pyAll S k xs=some ds->(∃as,ReadsAll s.heap us ds as)/\PyData.showableAll ds=true/\PyData.hasDictAll ds=false/\PyData.depthAll ds<=k:=by
 intro xs
 induction xs with
 | nil =>
  intro vs us ds r e h
  unfold pyAll at h;cases h;cases r;cases e
  exact ⟨⟨_,.nil⟩,rfl,rfl,Nat.zero_le _⟩
 | cons x xs ihx =>
  intro vs us ds r e h
  unfold pyAll at h
  obtain ⟨d,h1,h⟩:=bnd h
  obtain ⟨ds',h2,h⟩:=bnd h
  cases h
  cases r with
  | cons r1 r2 =>
   cases e with
   | cons e1 e2 =>
    obtain ⟨⟨as,q1⟩,q2,q3,q4⟩:=ih x _ _ d r1 e1 h1
    obtain ⟨⟨bs,p1⟩,p2,p3,p4⟩:=ihx _ _ ds' r2 e2 h2
    refine ⟨⟨_,.cons q1 p1⟩,?_,?_,?_⟩
    ·unfold PyData.showableAll;rw [q2,p2];rfl
    ·unfold PyData.hasDictAll;rw [q3,p3];rfl
    ·unfold PyData.depthAll;omega
theorem zh8 (I:Inv X pins σ H s) (sim:Sim X.K ρ S H):∀(k:Nat) (d:D) (v:V) (u:Value) (p:PyData),RD ρ H d v->RelV v u->zax S k d=some p->(∃as,Reads s.heap u p as)/\p.showable=true/\p.hasDict=false/\p.depth<=k:=by
 intro k
 induction k with
 | zero=>intro d v u p _ _ h;unfold zax at h;cases h
 | succ k ih =>
  intro d v u p r e h
  cases d with
  | non  =>
   unfold zax at h;cases h;cases r;cases e
   exact ⟨⟨_,.none⟩,rfl,rfl,Nat.zero_le _⟩
  | bl b =>
   unfold zax at h;cases h;cases r;cases e
   exact ⟨⟨_,.bool b⟩,rfl,rfl,Nat.zero_le _⟩
  | int i =>
   unfold zax at h
   obtain ⟨hz,e2⟩:=zdl h
   cases e2;cases r
   obtain ⟨t,rfl⟩:=e
   exact ⟨⟨_,.int i t⟩,by unfold PyData.showable;exact decide_eq_true hz,rfl,Nat.zero_le _⟩
  | str x =>
   unfold zax at h;cases h;cases r
   obtain ⟨t,rfl⟩:=e
   exact ⟨⟨_,.str x t⟩,rfl,rfl,Nat.zero_le _⟩
  | fn _=>unfold zax at h;cases h
  | tup xs =>
   unfold zax at h
   obtain ⟨ds,h1,h⟩:=bnd h
   cases h
   cases r with
   | tup ha r =>
    cases e
    obtain ⟨its,rv,⟨o,ho,hc,n,hd⟩,hz⟩:=I.tuple (SqT.of ha)
    obtain ⟨⟨as,h2⟩,h3,h4,h5⟩:=zng I sim ih xs _ _ ds r rv h1
    refine ⟨⟨as,.tuple ho hc hd (by simpa using h2)⟩,?_,?_,?_⟩
    ·unfold PyData.showable;exact h3
    ·unfold PyData.hasDict;exact h4
    ·unfold PyData.depth;omega
  | ref n =>
   unfold zax at h
   obtain ⟨xs,h0,h⟩:=bnd h
   obtain ⟨ds,h1,h⟩:=bnd h
   cases h
   obtain ⟨a,vs,ha,sq,rd⟩:=sim.lstOf h0
   cases r with
   | ref hn =>
    rw [ha] at hn;cases hn
    cases e
    obtain ⟨its,rv,pl,hz⟩:=I.list sq
    obtain ⟨o,ho,hc,m,hd⟩:=pl.isList
    obtain ⟨⟨as,h2⟩,h3,h4,h5⟩:=zng I sim ih xs _ _ ds rd rv h1
    refine ⟨⟨_,.list ho hc hd (by simpa using h2)⟩,?_,?_,?_⟩
    ·unfold PyData.showable;exact h3
    ·unfold PyData.hasDict;exact h4
    ·unfold PyData.depth;omega
theorem yak (I:Inv X pins σ H s) (sim:Sim X.K ρ S H):∀(k:Nat) (xs:List D) (vs:List V) (us:List Value) (ds:List PyData),RDs ρ H xs vs->Vals vs us->pyAll S k xs=some ds->(∃as,ReadsAll s.heap us ds as)/\PyData.showableAll ds=true/\PyData.hasDictAll ds=false/\PyData.depthAll ds<=k
 | k=>zng I sim (zh8 I sim k)
end
section
variable {X:Cx}{a:Expr}{es:List Expr}{mA:AM}{pos p:Pos}
theorem yal {k:Nat}(hr:Room k X.A):CallR X (.builtin "repr") (λxs H Q=>∃v ρ S d pd,xs=[v]/\Sim X.K ρ S H/\RD ρ H d v/\zax S 140 d=some pd/\pd.shown.length<=sizeLine/\Q (.str pd.shown) H):=by
 intro pins s σ H xs us Q I r h
 obtain ⟨v,ρ,S,d,pd,rfl,sim,rd,hp,hz,q⟩:=h
 obtain ⟨u,rfl,ru⟩:=zg6 r
 have key:=zh8 I sim 140 d v u pd rd ru hp
 have byRef:∀a,u=.ref a->wpAny (model X.prog X.w) X.A (call (.builtin "repr") [u]) (EP X pins σ Q) X.xe s:=λb hb=>by
  subst hb
  obtain ⟨⟨as,h1⟩,h2,h3,h4⟩:=key
  have hu:X.A.units+(pd.depth+1)<cLine:=by have:=hr.un;omega
  refine repr_of_reads' h1 h2 (λz=>by rw [h3] at z;cases z) hr.gd hu (λ_ _ e=>e) (λh' u tk hk=>?_) hz
  exact ⟨.str pd.shown,H,I.kept hk,⟨u,rfl⟩,q⟩
 have hp':=hp
 cases rd with
 | non=>cases ru;unfold zax at hp';cases hp';exact P.repr_of_none ⟨.str _,H,I.tok _,⟨_,rfl⟩,q⟩
 | bl b=>cases ru;unfold zax at hp';cases hp';exact P.repr_of_bool ⟨.str _,H,I.tok _,⟨_,by cases b <;> rfl⟩,q⟩
 | int i =>
  obtain ⟨t,rfl⟩:=ru
  unfold zax at hp'
  obtain ⟨hi,e⟩:=zdl hp'
  cases e
  exact P.repr_of_int hi ⟨.str _,H,I.tok _,⟨_,rfl⟩,q⟩
 | str x=>obtain ⟨t,rfl⟩:=ru;unfold zax at hp';cases hp';exact P.repr_of_str ⟨.str _,H,I.tok _,⟨_,rfl⟩,q⟩ hz
 | tup ha r=>exact byRef _ ru
 | ref hn=>exact byRef _ ru
 | fn b=>unfold zax at hp';cases hp'
theorem yam {K:QFg}:Fn3 K zev (λxs H Q=>∃v ρ S d pd,xs=[v]/\Sim K ρ S H/\RD ρ H d v/\zax S 140 d=some pd/\pd.shown.length<=sizeLine/\Q (.str pd.shown) H):=by
 intro ρ S H xs vs v S' Q sim r h p
 unfold zev at h
 split at h
 ·obtain ⟨pd,h1,h⟩:=bnd h
  obtain ⟨hz,e⟩:=zdl h
  cases e
  obtain ⟨w,rfl,rw'⟩:=r.one
  exact ⟨w,ρ,_,_,pd,rfl,sim,rw',h1,hz,p ρ H _ (Ext.refl ..) sim (.str _)⟩
 ·cases h
theorem yan:bootBuiltins "repr" = some (.builtin "repr"):=by decide +kernel
theorem zq5 {k:Nat}(hr:Room k X.A) (hg:Gl X "repr") (hm:X.mg "repr" = none) (ha:PA3 X (a :: es) mA) (he:starEach (a :: es) X.env=(false,eval a X.env) :: starEach es X.env:=by rfl) (hpl:(backTo pos (starEach es X.env)).any (·.1)=false:=by rfl):PE3 X (.Call (.Name "repr" p) (a :: es) [] pos) (zac zev mA) :=
 zji (yal hr) yam hg hm yan ha (by decide) (by decide) he hpl
end
theorem yao:fillsNumberSlot (.type "tuple") "mul" = pure false :=
 PySem.fillsNumberSlot_seq (id:="tuple.__mul__") (r:=some (.builtin "tuple.__rmul__")) PySem.F.slot_tuple_mul.lookup (by decide +kernel) PySem.F.slot_tuple_rmul.lookup (by decide +kernel)
theorem yap:seqRepeat? (.type "tuple")=pure (some (.builtin "tuple.__mul__")):=by
 unfold seqRepeat?
 rw [PySem.seqSlot_of (T:="tuple") (name:="__mul__") (id:="tuple.__mul__") PySem.F.slot_tuple_mul.lookup (by decide +kernel),PySem.seqSlot_of (T:="tuple") (name:="__rmul__") (id:="tuple.__rmul__") PySem.F.slot_tuple_rmul.lookup (by decide +kernel)]
 rfl
open PySem.AutoSeq1 (wpAny_loadPart')
theorem yaq (a:Int) (t:Tok) (l:Addr) (items:Array Value) (n:Nat) (dd:Option Addr) (sl:Array (Option Value)) :
  Meets (Builtin.«int.__rmul__» ⟨[.int a t,.ref l],[]⟩) (λ_ R s=>s.heap.get? l=some { cls:=.type "tuple",dict:=dd,data:=.seq items n,slots:=sl }/\R (.ok (.ret Value.notImplemented)) s) :=
 .of_wp λprog w A R s h=>by obtain ⟨hp,g,d,tk,os⟩:=s;obtain ⟨hl,h⟩:=h;wp_walk;exact ⟨_,rfl,h⟩
section
variable {prog:Program}{w:World}{A:Around}{E:Value->Shared->Prop}{s:Shared}
theorem yar {t:Addr}{items:Array Value}{k:Int}{u:Tok}{Q:Value->Shared->Prop}(ht:IsTup s.heap t items) (k0:2<=k) (k1:k<2 ^ 31) (hi:items.isEmpty=false) (hz:items.size*k.toNat<=sizeLine)
  (h:Q (.ref s.heap.objs.size) { s with heap:=s.heap.push { cls:=.type "tuple",data:=.seq ((List.replicate k.toNat items).foldl (·++·) #[]) } }) (h6:((List.replicate k.toNat items).foldl (·++·) #[]).size<=sizeLine) :
  wpAny (model prog w) A (call (.builtin "tuple.__mul__") [.ref t,.int k u]) Q E s:=by
 refine wpAny_call_entry PySem.F.slot_tuple_mul ht.typeIs PySem.F.entry_tuple_mul ?_ (PySem.F.args_tuple_mul_2 _ _)
 show wpAny _ _ (asIndex (.int k u) >>= _) _ _ s
 refine qwb ?_
 show wpAny _ _ (pure k) _ _ s
 refine qwp ?_
 have e1:(decide (k < -(2 ^ 63)) || decide (k ≥ 2 ^ 63))=false:=by
  rw [Bool.or_eq_false_iff];exact ⟨decide_eq_false (by omega),decide_eq_false (by omega)⟩
 have e2:(items.isEmpty || k == 1)=false:=by rw [hi,Bool.false_or];exact beq_false_of_ne (by omega)
 have e3:(decide (k<=0) || items.isEmpty)=false:=by rw [hi,Bool.or_false];exact decide_eq_false (by omega)
 show wpAny _ _ (if (decide (k < -(2 ^ 63)) || decide (k ≥ 2 ^ 63))=true then _ else _) _ _ s
 rw [if_neg (by rw [e1];exact Bool.false_ne_true)]
 refine qwb (tupleItemsOf_ ht ?_)
 show wpAny _ _ (if (items.isEmpty || k == 1)=true then _ else _) _ _ s
 rw [if_neg (by rw [e2];exact Bool.false_ne_true)]
 show wpAny _ _ (if (decide (k<=0) || items.isEmpty)=true then _ else _) _ _ s
 rw [if_neg (by rw [e3];exact Bool.false_ne_true)]
 have hk:(items.size:Int)*k=((items.size*k.toNat:Nat):Int):=by rw [Int.natCast_mul,Int.toNat_of_nonneg (by omega)]
 have hs:(sizeLine:Nat)=16777216:=by decide
 show wpAny _ _ (if (items.size:Int)*k > (2 ^ 63-1) / 8 then _ else _) _ _ s
 rw [if_neg (by rw [hk];omega)]
 show wpAny _ _ (if Builtin.Tuple.tupleTooMany ((items.size:Int)*k)=true then _ else _) _ _ s
 rw [if_neg (by unfold Builtin.Tuple.tupleTooMany;rw [hk];simp only [decide_eq_true_eq];omega)]
 first
  | exact qwb (m:=Builtin.Tuple.tupleExact _) (wpAny_newObj_type (qwp ⟨_,rfl,h⟩) h6)
  | exact qwb (m:=Builtin.Tuple.tupleExact _) (wpAny_newObj_type (qwp ⟨_,rfl,qwp h⟩) h6)
theorem yas {t:Addr}{items:Array Value}{u:Tok}{Q:Value->Shared->Prop}(ht:IsTup s.heap t items) (h:Q (.ref t) s) :
  wpAny (model prog w) A (call (.builtin "tuple.__mul__") [.ref t,.int 1 u]) Q E s:=by
 refine wpAny_call_entry PySem.F.slot_tuple_mul ht.typeIs PySem.F.entry_tuple_mul ?_ (PySem.F.args_tuple_mul_2 _ _)
 show wpAny _ _ (asIndex (.int 1 u) >>= _) _ _ s
 refine qwb ?_
 show wpAny _ _ (pure (1:Int)) _ _ s
 refine qwp ?_
 show wpAny _ _ (if (decide ((1:Int) < -(2 ^ 63)) || decide ((1:Int) ≥ 2 ^ 63))=true then _ else _) _ _ s
 rw [if_neg (by decide)]
 refine qwb (tupleItemsOf_ ht ?_)
 show wpAny _ _ (if (items.isEmpty || (1:Int) == 1)=true then _ else _) _ _ s
 rw [if_pos (by simp)]
 unfold Builtin.Tuple.tupleIsExact
 refine qwb (qwb (wpAny_typeOf ht.typeIs (qwp ?_)))
 rw [if_pos (by decide)]
 exact qwb (wpAny_rule (qwp ⟨_,rfl,h⟩))
theorem yat {t:Addr}{items:Array Value}{k:Int}{u:Tok}{Q:Value->Shared->Prop}(ht:IsTup s.heap t items) (k0:k=0) (hi:items.isEmpty=false)
  (h:Q (.ref s.heap.objs.size) { s with heap:=s.heap.push { cls:=.type "tuple",data:=.seq #[] } }) :
  wpAny (model prog w) A (call (.builtin "tuple.__mul__") [.ref t,.int k u]) Q E s:=by
 subst k0
 refine wpAny_call_entry PySem.F.slot_tuple_mul ht.typeIs PySem.F.entry_tuple_mul ?_ (PySem.F.args_tuple_mul_2 _ _)
 show wpAny _ _ (asIndex (.int 0 u) >>= _) _ _ s
 refine qwb ?_
 show wpAny _ _ (pure (0:Int)) _ _ s
 refine qwp ?_
 show wpAny _ _ (if (decide ((0:Int) < -(2 ^ 63)) || decide ((0:Int) ≥ 2 ^ 63))=true then _ else _) _ _ s
 rw [if_neg (by decide)]
 refine qwb (tupleItemsOf_ ht ?_)
 show wpAny _ _ (if (items.isEmpty || (0:Int) == 1)=true then _ else _) _ _ s
 rw [if_neg (by rw [hi];decide)]
 show wpAny _ _ (if (decide ((0:Int)<=0) || items.isEmpty)=true then _ else _) _ _ s
 rw [if_pos (by simp)]
 first
  | exact qwb (m:=Builtin.Tuple.tupleExact _) (wpAny_newObj_type (qwp ⟨_,rfl,h⟩) (Nat.zero_le _))
  | exact qwb (m:=Builtin.Tuple.tupleExact _) (wpAny_newObj_type (qwp ⟨_,rfl,h⟩) (by decide))
end
def zq6 (K:QFg):R2:=λx y H Q=>∃a k xs,x=.ref a/\y=.int k/\SqT K H a xs/\xs≠[]/\0<=k/\k<2 ^ 31/\xs.length*k.toNat<=sizeLine /\
 (k=1->Q (.ref a) H)/\(k≠1->∀p,H p=none->Q (.ref p) (upd H p (.tup (List.replicate k.toNat xs).flatten)))
theorem yau {X:Cx}:OpR X (binaryOp .Mult) (zq6 X.K):=by
 intro pins s σ H x y v u Q I rx ry h
 obtain ⟨a,k,xs,rfl,rfl,hx,hne,k0,k1,hz,q1,q2⟩:=h
 cases rx
 obtain ⟨t,rfl⟩:=ry
 obtain ⟨its,r,pt,_⟩:=I.tuple hx
 have hne':its≠[]:=λz=>hne (r.nil_iff.mp z)
 have hie:its.toArray.isEmpty=false:=by cases its with
  | nil=>exact absurd rfl hne'
  | cons _ _=>simp
 obtain ⟨⟨cls,dd,data,sl⟩,ho,hc,n,hd⟩:=id pt
 simp only at hc hd
 subst hc hd
 refine wpAny_binaryOp_repeat_ref (T:="tuple") (U:="int") (by decide) ⟨_,ho,rfl⟩ (λs'=>typeIs_int s' k t) yao PySem.F.fills_int_mul PySem.F.slot_int_rmul yap PySem.F.slot_int_index.lookup
  (call_meets PySem.F.slot_int_rmul (typeIs_int s k t) PySem.F.entry_int_rmul (PySem.F.args_int_rmul_2 _ _) (yaq k t a its.toArray n dd sl) ⟨ho,rfl,⟨_,ho,rfl⟩,?_⟩)
 have f0:∀m:Nat,List.foldl (λx1 x2=>x1++x2) #[] (List.replicate m its.toArray)=(List.replicate m its).flatten.toArray:=λm=>by
  have:=zmy its m []
  rw [List.nil_append] at this
  exact this
 have hl:xs.length=its.length:=r.length
 by_cases e1:k=1
 ·subst e1
  exact yas pt ⟨.ref a,H,I,rfl,q1 rfl⟩
 ·by_cases e0:k=0
  ·refine yat pt e0 hie ?_
   have hv:Vals ([]:List V) ([]:List Value):=.nil
   refine ⟨.ref s.heap.objs.size,_,I.laid (t':=s.toks) (o:=.tup []) (λb ob q=>qps _ q) (qlr _) ?_,rfl,?_⟩
   ·exact ⟨Nat.zero_le _,[],.nil,IsTD.new _ _⟩
   ·have:=q2 e1 _ (I.hok.fresh (qlr _))
    subst e0
    exact this
  ·have hlen:(List.replicate k.toNat its).flatten.length=k.toNat*its.length:=zmz its k.toNat
   refine yar pt (by omega) k1 hie (by rw [List.size_toArray,<-hl];exact hz) ?_ ?_
   ·rw [f0]
    refine ⟨.ref s.heap.objs.size,_,I.laid (t':=s.toks) (o:=.tup (List.replicate k.toNat xs).flatten) (λb ob q=>qps _ q) (qlr _) ?_,rfl,q2 e1 _ (I.hok.fresh (qlr _))⟩
    exact ⟨by rw [zmz,Nat.mul_comm];exact hz,_,r.rep k.toNat,IsTD.new _ _⟩
   ·rw [f0,List.size_toArray,hlen,Nat.mul_comm,<-hl];exact hz
noncomputable def zhb:D->D->Sto->Option (D × Sto)
 | .int i,.int j,S=>if (-(2 ^ 64)<i/\i<2 ^ 64)\/(-(2 ^ 64)<j/\j<2 ^ 64) then some (.int (i*j),S) else none
 | .tup (x :: xs),.int k,S=>if 0<=k/\k<2 ^ 31/\(xs.length+1)*k.toNat<=sizeLine then some (.tup (List.replicate k.toNat (x :: xs)).flatten,S) else none
 | _,_,_=>none
theorem yav {K:QFg}:Op3 K zhb (λx y H Q=>rI CMul (λi j=>.int (i*j)) x y H Q\/zq6 K x y H Q):=by
 intro ρ S H x y x' y' v S' Q sim rx ry h p
 unfold zhb at h
 split at h
 ·obtain ⟨hc,e⟩:=zdl h
  cases e;cases rx;cases ry
  exact .inl ⟨_,_,rfl,rfl,hc,p ρ H _ (Ext.refl ..) sim (.int _)⟩
 ·rename_i x xs k
  obtain ⟨⟨k0,k1,hz⟩,e⟩:=zdl h
  cases e;cases ry
  cases rx with
  | @tup _ a vs ha r =>
   have hl:=r.length
   refine .inr ⟨a,k,vs,rfl,rfl,SqT.of ha,?_,k0,k1,by rw [<-hl];exact hz,λe=>?_,λ_=>zil sim (r.rep k.toNat) p⟩
   ·intro z;rw [z] at hl;cases hl
   ·subst e
    have e2:(List.replicate (1:Int).toNat (x :: xs)).flatten=x :: xs:=by simp
    rw [e2] at p
    exact p ρ H _ (Ext.refl ..) sim (.tup ha r)
 ·cases h
section
variable {X:Cx}{a b:Expr}{ma mb:EM}{pos:Pos}
theorem zjw (ha:PE3 X a ma) (hb:PE3 X b mb):PE3 X (.BinOp a .Mult b pos) (eOp zhb ma mb):=zh3 (op_mul.or yau) yav ha hb
end
section
variable {X:Cx}{c:Expr}{body:List Stmt}{mc:TM}{mb:SM}{pos:Pos}
end
section
variable {X:Cx}
variable {a b:Expr}{ma mb:EM}{pos:Pos}
end
noncomputable def zft:D->D->Sto->Option (D × Sto):=λx y S=>(zax S 60 x).bind λp=>(zax S 60 y).bind λq=>if p.canLay0=true/\q.canLay0=true then some (.bl (p.eqv q),S) else none
noncomputable def zh9:D->D->Sto->Option (D × Sto):=λx y S=>(zax S 60 x).bind λp=>(zax S 60 y).bind λq=>if p.canLay0=true/\q.canLay0=true then some (.bl (!p.eqv q),S) else none
def zli (K:QFg) (neg:Bool):R2:=λx y H Q=>∃ρ S dx dy p q,Sim K ρ S H/\RD ρ H dx x/\RD ρ H dy y/\zax S 60 dx=some p/\zax S 60 dy=some q/\p.canLay0=true/\q.canLay0=true/\Q (.bl (if neg then !p.eqv q else p.eqv q)) H
section
variable {X:Cx}
theorem zq7 {k:Nat}(hr:Room k X.A):OpR X (compareOp .Eq) (zli X.K false):=by
 intro pins s σ H x y v u Q I rx ry h
 obtain ⟨ρ,S,dx,dy,p,q,sim,r1,r2,h1,h2,c1,c2,hq⟩:=h
 obtain ⟨⟨as,k1⟩,_,_,k2⟩:=zh8 I sim 60 dx x v p r1 rx h1
 obtain ⟨⟨bs,k3⟩,_,_,k4⟩:=zh8 I sim 60 dy y u q r2 ry h2
 have hu:X.A.units+min p.depth q.depth<cLine:=by have:=hr.un;have:min p.depth q.depth<=p.depth:=Nat.min_le_left _ _;omega
 exact PySem.SeqAt.compareEq_reads k1 k3 c1 c2 hu ⟨.bl _,H,I,rfl,hq⟩
theorem yaw {k:Nat}(hr:Room k X.A):OpR X (compareOp .NotEq) (zli X.K true):=by
 intro pins s σ H x y v u Q I rx ry h
 obtain ⟨ρ,S,dx,dy,p,q,sim,r1,r2,h1,h2,c1,c2,hq⟩:=h
 obtain ⟨⟨as,k1⟩,_,_,k2⟩:=zh8 I sim 60 dx x v p r1 rx h1
 obtain ⟨⟨bs,k3⟩,_,_,k4⟩:=zh8 I sim 60 dy y u q r2 ry h2
 have hu:X.A.units+min p.depth q.depth<cLine:=by have:=hr.un;have:min p.depth q.depth<=p.depth:=Nat.min_le_left _ _;omega
 exact PySem.SeqAt.compareNe_reads k1 k3 c1 c2 hu ⟨.bl _,H,I,rfl,hq⟩
theorem zq8 {K:QFg}:Op3 K zft (zli K false):=by
 intro ρ S H x y x' y' v S' Q sim rx ry h p
 obtain ⟨d1,h1,h⟩:=bnd h
 obtain ⟨d2,h2,h⟩:=bnd h
 obtain ⟨hc,e⟩:=zdl h
 cases e
 exact ⟨ρ,_,x,y,d1,d2,sim,rx,ry,h1,h2,hc.1,hc.2,p ρ H _ (Ext.refl ..) sim (.bl _)⟩
theorem yax {K:QFg}:Op3 K zh9 (zli K true):=by
 intro ρ S H x y x' y' v S' Q sim rx ry h p
 obtain ⟨d1,h1,h⟩:=bnd h
 obtain ⟨d2,h2,h⟩:=bnd h
 obtain ⟨hc,e⟩:=zdl h
 cases e
 exact ⟨ρ,_,x,y,d1,d2,sim,rx,ry,h1,h2,hc.1,hc.2,p ρ H _ (Ext.refl ..) sim (.bl _)⟩
variable {a b:Expr}{ma mb:EM}{pos:Pos}{k:Nat}
theorem zq9 (hr:Room k X.A) (ha:PE3 X a ma) (hb:PE3 X b mb):PE3 X (.Compare a [.Eq] [b] pos) (eOp zft ma mb):=zla (zq7 hr) zq8 ha hb (zfa b)
theorem yay (hr:Room k X.A) (ha:PE3 X a ma) (hb:PE3 X b mb):PT3 X (.Compare a [.Eq] [b] pos) (tE (eOp zft ma mb)):=zfn (zq7 hr) zq8 ha hb (zfa b)
theorem yaz (hr:Room k X.A) (ha:PE3 X a ma) (hb:PE3 X b mb):PT3 X (.Compare a [.NotEq] [b] pos) (tE (eOp zh9 ma mb)):=zfn (yaw hr) yax ha hb (zfa b)
end
noncomputable def zlj:D->Bool
 | .non=>true | .bl _=>true | .int _=>true | .str _=>true
 | _=>false
noncomputable def zlk:D->D->Bool
 | .non,.non=>true
 | .bl a,.bl b=>a == b
 | .bl a,.int b=>(if a then 1 else 0) == b
 | .int a,.bl b=>a == (if b then 1 else 0)
 | .int a,.int b=>a == b
 | .str a,.str b=>a == b
 | _,_=>false
noncomputable def ya0 (S:Sto):D->Option (List D)
 | .tup xs=>some xs
 | .ref n=>lstOf S n
 | _=>none
noncomputable def zra (neg:Bool):D->D->Sto->Option (D × Sto):=λx y S=>(ya0 S y).bind λxs=>if zlj x=true/\xs.all zlj=true then some (.bl (if neg then !(xs.any λy=>zlk y x) else xs.any λy=>zlk y x),S) else none
theorem zrb {ρ:List Addr}{H:Hp}{x:D}{x':V}(r:RD ρ H x x'):zgs x' = zlj x:=by
 cases r <;> rfl
theorem ya1 {ρ:List Addr}{H:Hp}{x y:D}{x' y':V}(r:RD ρ H x x') (r':RD ρ H y y'):eqV x' y' = zlk x y:=by
 cases r <;> cases r' <;> rfl
theorem zrc {ρ:List Addr}{H:Hp}:∀{xs:List D}{vs:List V},RDs ρ H xs vs->vs.all zgs=xs.all zlj
 | _,_,.nil=>rfl
 | _,_,.cons r q=>by rw [List.all_cons,List.all_cons,zrb r,zrc q]
theorem zrd {ρ:List Addr}{H:Hp}{x:D}{x':V}(rx:RD ρ H x x'):∀{xs:List D}{vs:List V},RDs ρ H xs vs->inV x' vs=xs.any λy=>zlk y x
 | _,_,.nil=>rfl
 | _,_,.cons r q=>by
  have ih:=zrd rx q
  unfold inV at ih ⊢
  rw [List.any_cons,List.any_cons,ya1 r rx,ih]
theorem ya2 {K:QFg}{neg:Bool}:Op3 K (zra neg) (rIn K neg):=by
 intro ρ S H x y x' y' v S' Q sim rx ry h p
 obtain ⟨xs,h1,h⟩:=bnd h
 obtain ⟨hc,e⟩:=zdl h
 cases e
 have fin:∀a vs,y' = .ref a->(SqL K H a vs\/SqT K H a vs)->RDs ρ H xs vs->rIn K neg x' y' H Q:=λa vs e1 e2 r=>by
  refine ⟨a,vs,e1,e2,by rw [zrb rx];exact hc.1,by rw [zrc r];exact hc.2,?_⟩
  rw [zrd rx r]
  exact p ρ H _ (Ext.refl ..) sim (.bl _)
 cases ry with
 | tup ha r=>cases h1;exact fin _ _ rfl (.inr (SqT.of ha)) r
 | ref hn =>
  obtain ⟨a,vs,ha,sq,r⟩:=sim.lstOf h1
  rw [ha] at hn;cases hn
  exact fin _ _ rfl (.inl sq) r
 | _=>cases h1
noncomputable def znh:Sto->D->Option ((Int->Bool) × Nat)
 | S,.ref n=>match S[n]? with
  | some (.iset f k)=>some (f,k)
  | _=>none
 | _,_=>none
theorem Sim.isetOf {K:QFg}{ρ:List Addr}{S:Sto}{H:Hp}{x:D}{v:V}{f:Int->Bool}{k:Nat}(s:Sim K ρ S H) (r:RD ρ H x v) (h:znh S x=some (f,k)):∃n a,x=.ref n/\v=.ref a/\ρ[n]? = some a/\S[n]? = some (.iset f k)/\H a=some (.set f k):=by
 unfold znh at h
 split at h
 ·rename_i n
  split at h
  ·rename_i f' k' e
   cases h
   cases r with
   | @ref _ a hn=>exact ⟨n,a,rfl,rfl,hn,e,s.at' n a _ hn e⟩
  ·cases h
 ·cases h
noncomputable def zni (neg:Bool):D->D->Sto->Option (D × Sto)
 | .int i,y,S=>(znh S y).bind λp=>some (.bl (if neg then !p.1 i else p.1 i),S)
 | _,_,_=>none
def zre (neg:Bool):R2:=λx y H Q=>∃i a f n,x=.int i/\y=.ref a/\H a=some (.set f n)/\Q (.bl (if neg then !f i else f i)) H
section
variable {X:Cx}
theorem op_notInI:OpR X (compareOp .NotIn) (zre true):=by
 intro pins s σ H x y v u Q I rx ry h
 obtain ⟨i,a,f,n,rfl,rfl,hH,q⟩:=h
 obtain ⟨t,rfl⟩:=rx
 cases ry
 exact PySem.wpAny_notInSet_of (knd:=intKind X.prog X.w) (k:=i) (PySem.intKind_is X.prog X.w i t) rfl (I.hok a _ hH) ⟨.bl _,H,I.tok _,rfl,q⟩
theorem op3_inI {K:QFg}{neg:Bool}:Op3 K (zni neg) (zre neg):=by
 intro ρ S H x y x' y' v S' Q sim rx ry h p
 unfold zni at h
 split at h
 ·obtain ⟨⟨f,k⟩,h1,h⟩:=bnd h
  cases h
  cases rx
  obtain ⟨n,a,rfl,rfl,_,_,hH⟩:=sim.isetOf ry h1
  exact ⟨_,a,f,k,rfl,rfl,hH,p ρ H _ (Ext.refl ..) sim (.bl _)⟩
 ·cases h
noncomputable def dIn (neg:Bool):D->D->Sto->Option (D × Sto):=λx y S=>match zni neg x y S with|some v=>some v|none=>zra neg x y S
variable {a b:Expr}{ma mb:EM}{pos:Pos}
theorem ya3 (ha:PE3 X a ma) (hb:PE3 X b mb) (hm:behindInMarks .NotIn b=false:=by rfl):PT3 X (.Compare a [.NotIn] [b] pos) (tE (eOp (dIn true) ma mb)):=zfn (op_notInI.or zys) (op3_inI.or ya2) ha hb hm
end
section
variable {X:Cx}
variable {o e:Expr}{mo m:EM}{apos cpos:Pos}
end
section
variable {prog:Program}{w:World}{A:Around}{E:Value->Shared->Prop}{s:Shared}
end
section
variable {X:Cx}
end
section
variable {X:Cx}{o e:Expr}{mo m:EM}{apos cpos:Pos}
end
section
variable {X:Cx}{o e:Expr}{mo m:EM}{apos cpos:Pos}
end
noncomputable def zhc:D->D->Sto->Option (D × Sto)
 | .ref n,.int k,S=>match S[n]? with
  | some (.lst xs)=>if -(2 ^ 63)<=k/\k<2 ^ 63/\xs.length*k.toNat<=sizeLine then some (.ref S.length,S++[.lst (List.replicate k.toNat xs).flatten]) else none
  | _=>none
 | _,_,_=>none
theorem ya4 {K:QFg}:Op3 K zhc zqc:=by
 intro ρ S H x y x' y' v S' Q sim rx ry h p
 unfold zhc at h
 split at h
 ·split at h
  ·rename_i n k S xs e
   obtain ⟨⟨h1,h2,h3⟩,e2⟩:=zdl h
   cases e2
   cases ry
   obtain ⟨a,us,ha,hH,r2⟩:=sim.lst e
   cases rx with
   | ref hn =>
    rw [ha] at hn;cases hn
    exact ⟨a,k,us,rfl,rfl,hH,h1,h2,by rw [<-r2.length];exact h3,zh4 sim (r2.rep k.toNat) p⟩
  ·cases h
 ·cases h
theorem zrf {X:Cx}{a b:Expr}{ma mb:EM}{pos:Pos}(ha:PE3 X a ma) (hb:PE3 X b mb):PE3 X (.BinOp a .Mult b pos) (eOp zhc ma mb):=zh3 zyy ya4 ha hb
section
variable {X:Cx}
variable {a a2:Expr}{mA:AM}{p p0 pos pos':Pos}
end
noncomputable def isT:D->Bool
 | .bl b=>b
 | _=>false
noncomputable def zis:D->Bool
 | .bl _=>true
 | _=>false
noncomputable def vT:V->Bool
 | .bl b=>b
 | _=>false
noncomputable def zll:V->Bool
 | .bl _=>true
 | _=>false
noncomputable def zit:FM
 | [.ref n],S=>(lstOf S n).bind λxs=>if xs.all zis=true then some (.bl (xs.all isT),S) else none
 | _,_=>none
theorem ya5 {ρ:List Addr}{H:Hp}{x:D}{x':V}(r:RD ρ H x x'):vT x' = isT x/\zll x' = zis x:=by
 cases r <;> exact ⟨rfl,rfl⟩
theorem zrg {ρ:List Addr}{H:Hp}:∀{xs:List D}{vs:List V},RDs ρ H xs vs->vs.all vT=xs.all isT/\vs.any vT=xs.any isT/\vs.all zll=xs.all zis
 | _,_,.nil=>⟨rfl,rfl,rfl⟩
 | _,_,.cons r q=>by
  obtain ⟨h1,h2⟩:=ya5 r
  obtain ⟨h3,h4,h5⟩:=zrg q
  simp only [List.all_cons,List.any_cons,h1,h2,h3,h4,h5,and_self]
section
variable {X:Cx}
theorem ya6 {ys:List V}(tr:Nat->Bool) (h:∀(i:Nat) y,ys[i]? = some y->tr i=vT y):(List.range ys.length).all tr=ys.all vT/\(List.range ys.length).any tr=ys.any vT:=by
 have e:(List.range ys.length).map tr=ys.map vT:=by
  apply List.ext_getElem?
  intro i
  rw [qgm,qgm]
  by_cases hi:i<ys.length
  ·rw [List.getElem?_range hi,qge hi]
   simp [h i _ (qge hi)]
  ·rw [List.getElem?_eq_none_iff.mpr (by simpa using hi),List.getElem?_eq_none_iff.mpr (by simpa using hi)];rfl
 have a1:(List.range ys.length).all tr=((List.range ys.length).map tr).all id:=by rw [List.all_map];rfl
 have a2:ys.all vT=(ys.map vT).all id:=by rw [List.all_map];rfl
 have a3:(List.range ys.length).any tr=((List.range ys.length).map tr).any id:=by rw [List.any_map];rfl
 have a4:ys.any vT=(ys.map vT).any id:=by rw [List.any_map];rfl
 exact ⟨by rw [a1,a2,e],by rw [a3,a4,e]⟩
def zrh (K:QFg) (f:List V->Bool):List V->Hp->VK->Prop:=λxs H Q=>∃p ys,xs=[.ref p]/\SqL K H p ys/\ys.all zll=true/\Q (.bl (f ys)) H
theorem ya7 {pins:List (Addr × Obj)}{s:Shared}{σ:St}{H:Hp}{p:Addr}{ys:List V}{E:Value->Shared->Prop}{R:Bool->Bool->Shared->Prop}(hc:X.calm=true) (I:Inv X pins σ H s) (hq:SqL X.K H p ys) (hb:ys.all zll=true)
  (h:∀s',Inv X pins σ H s'->R (ys.all vT) (ys.any vT) s') :
  wpAny (model X.prog X.w) X.A.in1 (pyIter (.ref p)) (λit s₂=>∃I fp wr n P St tr,it=.ref I/\Walks X.prog X.w X.A.in1 I fp wr n P St/\St 0 s₂.heap/\TruthOf X.prog X.w X.A.in1 P tr /\
   ∀h' tk,(∀b o,b ∉ wr->s₂.heap.get? b=some o->h'.get? b=some o)->R ((List.range n).all tr) ((List.range n).any tr) { s₂ with heap:=h',toks:=tk }) E s:=by
 obtain ⟨its,rv,pl,hz⟩:=I.list hq
 refine wpAny_pyIter_list pl.isList ?_
 have hne:p≠s.heap.objs.size:=by
  obtain ⟨o,ho,_⟩:=pl.isList
  exact Nat.ne_of_lt (Heap.lt_size ho)
 have I1:Inv X pins σ H { s with heap:=s.heap.push { cls:=.type "list_iterator",data:=.fields #[.ref p,rawInt 0] } }:=I.kept (t':=s.toks) λb o e=>qps _ e
 have fp:=I.fpOk (qlr s.heap.objs.size) I.fresh
 refine ⟨_,_,_,its.toArray.size,_,_,λi=>match its[i]? with|some (.bool b)=>b|_=>false,rfl,Walks.list (A:=X.A.in1) (I.ok.hd hc) s.heap.objs.size p hne its.toArray,?_,?_,?_⟩
 ·obtain ⟨o,ho,hc',n,hd⟩:=pl.isList
  exact ⟨⟨_,Heap.get?_push_size _ rfl,rfl,rfl⟩,⟨o,qps _ ho,hc',n,hd⟩⟩
 ·intro i v s' Q E' hP hQ
  have e1:its[i]? = some v:=by simpa using hP
  have hl:=rv.length
  have hi:i<ys.length:=by rw [hl];exact (qme e1).1
  obtain ⟨u,hu,ru⟩:=rv.get (qge hi)
  rw [e1] at hu;cases hu
  have hb2:=List.all_eq_true.mp hb _ (List.getElem_mem hi)
  dsimp only at hQ
  rw [e1] at hQ
  revert ru hb2
  generalize ys[i]=y
  intro ru hb2
  cases y with
  | bl b=>cases ru;exact wpAny_truthy_bool hQ
  | _=>exact absurd (show false=true from hb2) Bool.false_ne_true
 ·intro h' tk k
  have hs:its.toArray.size=ys.length:=by rw [List.size_toArray,rv.length]
  obtain ⟨a1,a2⟩:=ya6 (ys:=ys) (λi=>match its[i]? with|some (.bool b)=>b|_=>false) (λi y hy=>by
   obtain ⟨u,hu,ru⟩:=rv.get hy
   have hb2:=List.all_eq_true.mp hb _ (qmg hy)
   rw [hu]
   cases y with
   | bl b=>cases ru;rfl
   | _=>exact absurd (show false=true from hb2) Bool.false_ne_true)
  rw [hs,a1,a2]
  exact h _ (I1.turned (t':=tk) (λb o hb' e=>k b o (by simpa using hb') e) fp.1 fp.2.1 fp.2.2.2.1 fp.2.2.2.2.1 fp.2.2.2.2.2)
theorem ya8 (hc:X.calm=true):CallR X (.builtin "all") (zrh X.K λys=>ys.all vT):=by
 intro pins s σ H xs us Q I r h
 obtain ⟨p,ys,rfl,hq,hb,q⟩:=h
 obtain ⟨u1,rfl,r1⟩:=r.one
 cases r1
 exact PySem.call_all_walk (ya7 (R:=λa _ s'=>EP X pins σ Q (.bool a) s') hc I hq hb λs' I'=>⟨.bl _,H,I',rfl,q⟩)
theorem ya9 {K:QFg}:Fn3 K zit (zrh K λys=>ys.all vT):=by
 intro ρ S H xs vs v S' Q sim r h p
 unfold zit at h
 split at h
 ·obtain ⟨ys,h1,h⟩:=bnd h
  obtain ⟨hb,e⟩:=zdl h
  cases e
  obtain ⟨w,rfl,rw'⟩:=r.one
  obtain ⟨a,us,ha,sq,r2⟩:=sim.lstOf h1
  obtain ⟨t1,t2,t3⟩:=zrg r2
  cases rw' with
  | ref hn =>
   rw [ha] at hn;cases hn
   exact ⟨_,us,rfl,sq,by rw [t3];exact hb,by dsimp only;rw [t1];exact p ρ H _ (Ext.refl ..) sim (.bl _)⟩
 ·cases h
theorem yba:bootBuiltins "all" = some (.builtin "all"):=by decide +kernel
variable {a:Expr}{es:List Expr}{mA:AM}{p pos:Pos}
theorem zri (hc:X.calm=true) (hg:Gl X "all") (hm:X.mg "all" = none) (ha:PA3 X (a :: es) mA) (he:starEach (a :: es) X.env=(false,eval a X.env) :: starEach es X.env:=by rfl) (hpl:(backTo pos (starEach es X.env)).any (·.1)=false:=by rfl):PE3 X (.Call (.Name "all" p) (a :: es) [] pos) (zac zit mA) :=
 zji (ya8 hc) ya9 hg hm yba ha (by decide) (by decide) he hpl
end
theorem ybb {X:Cx}{pins:List (Addr × Obj)}{σ:St}{H:Hp}{s:Shared}(I:Inv X pins σ H s):sysModules<s.heap.objs.size:=by
 have h:mainGlobals<s.heap.objs.size:=(I.mod.glob.keeps I.bk).lt
 exact Nat.lt_trans (by decide) h
section
variable {X:Cx}{pos:Pos}
theorem ybc:PE X (.Dict [] [] pos) (λ_ H Q=>∀p,H p=none->Q (.ref p) (upd H p (.dK []))):=λpins s σ H Q I h =>
 wpAny_Dict_empty ⟨.ref s.heap.objs.size,_,I.laid (a:=s.heap.objs.size) (o:=.dK []) (t':=s.toks) (λ_ _ q=>qps _ q) (qlr _)
  ⟨Nat.zero_le _,beq_eq_false_iff_ne.mpr (Ne.symm (Nat.ne_of_lt (ybb I))),[],.nil,Heap.DictOf.new s.heap⟩,rfl,h _ I.fresh⟩
noncomputable def zlm:EM:=λ_ S=>some (.ref S.length,S++[.dct []])
theorem ybd:PE3 X (.Dict [] [] pos) zlm:=PE.imp ybc λσ H Q hx1_=>by
 obtain ⟨ρ,l,S,v,S',sim,ro,hm,p⟩:=hx1_
 cases hm
 intro a ha
 exact p (ρ++[a]) _ _ (zqi ha) (sim.pushG ha ⟨[],zfj,.nil⟩) (.ref (by rw [<-sim.len];exact zdh ρ a))
end
noncomputable def zew:D->D->Sto->Option (D × Sto)
 | .ref n,.ref m,S=>match S[n]?,S[m]? with
  | some (.lst xs),some (.lst [])=>some (.bl (!xs.isEmpty),S)
  | _,_=>none
 | _,_,_=>none
def zrj:R2:=λx y H Q=>∃a b xs,x=.ref a/\y=.ref b/\H a=some (.lst xs)/\H b=some (.lst [])/\Q (.bl (!xs.isEmpty)) H
section
variable {X:Cx}{a b:Expr}{ma mb:EM}{pos:Pos}{k:Nat}
theorem ybe (hr:Room k X.A):OpR X (compareOp .NotEq) zrj:=by
 intro pins s σ H x y v u Q I rx ry h
 obtain ⟨a,b,xs,rfl,rfl,ha,hb,q⟩:=h
 cases rx;cases ry
 obtain ⟨z,its,n,r,hl,e⟩:=I.lstM ha
 obtain ⟨z2,its2,n2,r2,hl2,e2⟩:=I.lstM hb
 cases r2
 have hu:X.A.units<cLine:=by have:=hr.un;omega
 have l1:s.heap.IsList a its.toArray:=⟨_,e,rfl,n,rfl⟩
 have l2:s.heap.IsList b ([]:List Value).toArray:=⟨_,e2,rfl,n2,rfl⟩
 cases xs with
 | nil =>
  cases r
  have:=SeqAt.RcNeAt.lists (A:=X.A) (e:=λ_=>true) l1 l2 rfl hu (λj h1 _=>by simp at h1)
  exact this X.prog X.w X.xe _ ⟨.bl _,H,I,rfl,q⟩
 | cons y ys =>
  cases r with
  | cons r1 r2 =>
   exact SeqAt.RcNeAt.lists_lengths (A:=X.A) l1 l2 (by simp) hu X.prog X.w X.xe _ ⟨.bl _,H,I,rfl,q⟩
theorem ybf {K:QFg}:Op3 K zew zrj:=by
 intro ρ S H x y x' y' v S' Q sim rx ry h p
 unfold zew at h
 split at h
 ·split at h
  ·rename_i n m S xs e1 e2
   cases h
   obtain ⟨a,us,ha,hH,r2⟩:=sim.lst e1
   obtain ⟨b,ws,hb,hH2,r3⟩:=sim.lst e2
   cases r3
   cases rx with
   | ref hn =>
    rw [ha] at hn;cases hn
    cases ry with
    | ref hm =>
     rw [hb] at hm;cases hm
     refine ⟨a,b,us,rfl,rfl,hH,hH2,?_⟩
     have:us.isEmpty=xs.isEmpty:=by cases r2 <;> rfl
     rw [this]
     exact p ρ H _ (Ext.refl ..) sim (.bl _)
  ·cases h
 ·cases h
theorem znj (hr:Room k X.A) (ha:PE3 X a ma) (hb:PE3 X b mb):PT3 X (.Compare a [.NotEq] [b] pos) (tE (eOp zew ma mb)):=zfn (ybe hr) ybf ha hb (zfa b)
end
section
variable {X:Cx}{pins:List (Addr × Obj)}{σ:St}{H:Hp}{s:Shared}{ρ:List Addr}{S:Sto}
end
section
variable {X:Cx}{a:Expr}{es:List Expr}{mA:AM}{pos p:Pos}
end
section
variable {prog:Program}{w:World}{A:Around}{E:Value->Shared->Prop}{s:Shared}
end
section
variable {P:Program}{w:World}{K:QFg}{elts:List Expr}{z:Nat}{tp:Pos}
end
open AutoSeq1
section
variable {prog:Program}{w:World}{A:Around}{E:Value->Shared->Prop}{s:Shared}
end
section
variable {X:Cx}{elts:List Expr}{z:Nat}{tp:Pos}
end
section
variable {K:QFg}
end
section
variable {X:Cx}{elts:List Expr}{z:Nat}{tp:Pos}{a:Expr}{mA:AM}{g:GM}{b:SM}{body:List Stmt}{p0 pos' pos:Pos}
end
theorem zrk {α:Type}{c:Prop} [Decidable c] {a:Option α}{v:α}(h:(if c then a else none)=some v):c/\a=some v:=by
 by_cases hc:c
 ·rw [if_pos hc] at h;exact ⟨hc,h⟩
 ·rw [if_neg hc] at h;cases h
section
variable {prog:Program}{w:World}{A:Around}{E:Value->Shared->Prop}{s:Shared}
end
section
variable {X:Cx}{gs:GsM}{es:List Expr}{k n:Nat}{pos:Pos}
end
section
variable {X:Cx}{a:Expr}{ma:EM}{lo hi:Option Expr}{ml mh:OM}{p2 pos:Pos}
end
noncomputable def zrl (scope:Scope) (N':List Str) (ixs:List (Option Nat)):Bool :=
 decide (scope.kind=.function) && (scope.names.all λy=>y.2 != .cell) && (scope.names.all λy=>y.2 != .free) && (scope.names.all λy=>y.2 != .local || scope.names.lookup y.1 == some .local) && (ixs.length == N'.length) && (ixs.all λi=>i == none)
theorem zjx {X:Cx}{scope:Scope}{N':List Str}{ixs:List (Option Nat)}(h:zrl scope N' ixs=true):CompSc X N' scope (zbp ixs):=by
 unfold zrl at h
 simp only [Bool.and_eq_true,decide_eq_true_eq,List.all_eq_true,beq_iff_eq,Bool.or_eq_true,bne_iff_ne,ne_eq] at h
 obtain ⟨⟨⟨⟨⟨h1,h2⟩,h3⟩,h4⟩,h5⟩,h6⟩:=h
 refine ⟨h1,h2,λy hy hl=>?_,λy hy hl=>absurd hl (h3 y hy),λy hy=>?_,λσ=>by simp [zbp,h5],λσ i v x hv hx=>?_⟩
 ·rcases h4 y hy with z|z
  ·exact absurd hl z
  ·exact z
 ·exfalso
  have mem:∃k,(k=NameKind.cell\/k=NameKind.free)/\(y,k)∈(relabel scope X.env).names:=by
   rcases hy with z|z
   ·exact ⟨_,.inl rfl,PySem.mem_of_lookup z⟩
   ·exact ⟨_,.inr rfl,PySem.mem_of_lookup z⟩
  obtain ⟨k,hk,hm⟩:=mem
  unfold relabel at hm
  obtain ⟨⟨n,k'⟩,hm1,hm2⟩:=List.mem_map.mp hm
  dsimp only at hm2
  split at hm2
  ·rename_i hc
   rw [Bool.and_eq_true,Bool.and_eq_true] at hc
   exact h3 _ hm1 (eq_of_beq hc.1.1)
  ·cases hm2
   rcases hk with z|z
   ·exact h2 _ hm1 z
   ·exact h3 _ hm1 z
 ·exfalso
  unfold zbp at hv
  rw [qgm] at hv
  cases e:ixs[i]? with
  | none=>rw [e] at hv;cases hv
  | some o =>
   rw [e,h6 o (qmg e)] at hv
   cases hv
section
variable {X:Cx}{a b:Expr}{ma mb:EM}{mA:AM}{es:List Expr}{pos p:Pos}
end
noncomputable def znk:D->D->Sto->Option (D × Sto)
 | .str z,.int i,S=>if z.length<=sizeLine then (atI z.cps.toList i).bind λc=>some (.str ⟨#[c]⟩,S) else none
 | _,_,_=>none
noncomputable def zam:D->D->Sto->Option (D × Sto):=λx y S=>match dIx x y S with|some v=>some v|none=>znk x y S
theorem ybg {K:QFg}:Op3 K znk zmu:=by
 intro ρ S H x y x' y' v S' Q sim rx ry h p
 unfold znk at h
 split at h
 ·cases rx;cases ry
  split at h
  ·rename_i hz
   obtain ⟨c,h1,h⟩:=bnd h
   cases h
   exact ⟨_,_,c,rfl,rfl,hz,h1,p ρ H _ (Ext.refl ..) sim (.str _)⟩
  ·cases h
 ·cases h
theorem ybh {K:QFg}:Op3 K zam (rIx K):=by
 intro ρ S H x y x' y' v S' Q sim rx ry hm p
 unfold zam at hm
 cases e:dIx x y S with
 | some w=>rw [e] at hm;cases hm;exact zze ρ S H x y x' y' _ _ Q sim rx ry e p
 | none=>rw [e] at hm;exact .inr (.inr (ybg ρ S H x y x' y' _ _ Q sim rx ry hm p))
noncomputable def za8:FM
 | [.str z],S=>if z.length<=sizeLine then some (.int z.length,S) else none
 | xs,S=>zjm xs S
noncomputable def zgl:FM
 | [.int i],S=>if i.natAbs.log2<1920 then some (.str (toString i),S) else none
 | [.str z],S=>none
 | _,_=>none
section
variable {X:Cx}{a b:Expr}{ma mb:EM}{mA:AM}{es:List Expr}{pos p:Pos}{K:QFg}
theorem zcy (ha:PE3 X a ma) (hb:PE3 X b mb) (hs:zp4 b:=by intro _ _;rfl):PE3 X (.Subscript a b pos) (eOp zam ma mb):=PE.imp (zyj zyk ha hb hs) (zk9 ybh)
theorem ybi:Fn3 K za8 (λxs H Q=>(∃p ys,xs=[.ref p]/\(SqL K H p ys\/SqT K H p ys)/\Q (.int ys.length) H)\/∃z,xs=[.str z]/\z.length<=sizeLine/\Q (.int z.length) H):=by
 intro ρ S H xs vs v S' Q sim r h p
 unfold za8 at h
 split at h
 ·obtain ⟨hz,e⟩:=zdl h
  cases e
  obtain ⟨w,rfl,rw'⟩:=r.one
  cases rw'
  exact .inr ⟨_,rfl,hz,p ρ H _ (Ext.refl ..) sim (.int _)⟩
 ·exact .inl (zzk ρ S H _ vs v S' Q sim r h p)
theorem zd4 (hg:Gl X "len") (hm:X.mg "len" = none) (ha:PA3 X (a :: es) mA) (he:starEach (a :: es) X.env=(false,eval a X.env) :: starEach es X.env:=by rfl) (hpl:(backTo pos (starEach es X.env)).any (·.1)=false:=by rfl):PE3 X (.Call (.Name "len" p) (a :: es) [] pos) (zac za8 mA) :=
 zji (call_len_seq.or zyt) ybi hg hm PySem.boot_len ha (by decide) (by decide) he hpl
theorem ybj:Fn3 K zgl (λxs H Q=>∃i,xs=[.int i]/\i.natAbs.log2<1920/\Q (.str (toString i)) H):=by
 intro ρ S H xs vs v S' Q sim r h p
 unfold zgl at h
 split at h
 ·obtain ⟨hz,e⟩:=zdl h
  cases e
  obtain ⟨w,rfl,rw'⟩:=r.one
  cases rw'
  exact ⟨_,rfl,hz,p ρ H _ (Ext.refl ..) sim (.str _)⟩
 ·cases h
 ·cases h
theorem ziu (hg:Gl X "str") (hm:X.mg "str" = none) (ha:PA3 X (a :: es) mA) (he:starEach (a :: es) X.env=(false,eval a X.env) :: starEach es X.env:=by rfl) (hpl:(backTo pos (starEach es X.env)).any (·.1)=false:=by rfl):PE3 X (.Call (.Name "str" p) (a :: es) [] pos) (zac zgl mA) :=
 zlb zxz ybj hg hm zne ha (by decide) (by decide) he hpl
end
section
variable {K:QFg}{ρ:List Addr}{H:Hp}{S:Sto}
end
section
variable {X:Cx}{a b e:Expr}{ma mb me:EM}{pos pos':Pos}{k:Nat}
end
section
variable {X:Cx}{o i value:Expr}{mo mi mv:EM}{pos pos':Pos}{k:Nat}
end
section
variable {X:Cx}{pos:Pos}
end
noncomputable def zhn:List D->Option (List Str)
 | []=>some []
 | .str z :: r=>(zhn r).bind λts=>some (z :: ts)
 | _=>none
noncomputable def zgm:D->List D->Sto->Option (D × Sto)
 | .str z,[.ref n],S=>(lstOf S n).bind λxs=>(zhn xs).bind λts=>if (ts.map (·.length)).sum+ts.length*z.length<=16777216 then some (.str (Str.join z ts),S) else none
 | _,_,_=>none
def zrm (K:QFg):V->List V->Hp->VK->Prop:=λx vs H Q=>∃z p ts,x=.str z/\vs=[.ref p]/\SqL K H p (ts.map V.str)/\(ts.map (·.length)).sum+ts.length*z.length<=16777216/\Q (.str (Str.join z ts)) H
theorem zrn:∀{ts:List Str}{us:List Value},Vals (ts.map V.str) us->StrsAre us ts
 | [],us,h=>by cases h;exact .nil
 | t :: ts,us,h=>by
  cases h with
  | cons r q=>obtain ⟨k,rfl⟩:=r;exact .cons _ _ (zrn q)
theorem zro {ρ:List Addr}{H:Hp}:∀{xs:List D}{ts:List Str}{vs:List V},zhn xs=some ts->RDs ρ H xs vs->vs=ts.map V.str
 | [],ts,vs,h,r=>by cases h;cases r;rfl
 | x :: xs,ts,vs,h,r=>by
  cases r with
  | cons r1 r2 =>
   cases r1 with
   | str z =>
    obtain ⟨ts',h1,h⟩:=bnd (show (zhn xs).bind (λts=>some (z :: ts))=some ts from h)
    cases h
    rw [zro h1 r2];rfl
   | _=>cases h
section
variable {X:Cx}
theorem ybk:MtM X "str.join" (zrm X.K):=by
 intro pins s σ H x vs v us Q I rx rv h
 obtain ⟨z,p,ts,rfl,rfl,sq,hz,q⟩:=h
 obtain ⟨t,rfl⟩:=rx
 obtain ⟨u,rfl,ru⟩:=rv.one
 cases ru
 obtain ⟨its,r,pl,_⟩:=I.list sq
 refine join_list pl.isList (zrn (by simpa using r)) hz λt' k=>?_
 exact ⟨.str _,H,I.tok _,⟨t',by show Value.str (Builtin.Str.glued z ts) t' = _;rw [StrLaws.glued_eq_join]⟩,q⟩
theorem ybl {K:QFg}:Mt3 K zgm (zrm K):=by
 intro ρ S H x x' xs vs v S' Q sim rx r h p
 unfold zgm at h
 split at h
 ·obtain ⟨ys,h1,h⟩:=bnd h
  obtain ⟨ts,h2,h⟩:=bnd h
  obtain ⟨hz,e⟩:=zdl h
  cases e
  obtain ⟨w,rfl,rw'⟩:=r.one
  obtain ⟨a,us,ha,sq,r2⟩:=sim.lstOf h1
  cases rx
  cases rw' with
  | ref hn =>
   rw [ha] at hn;cases hn
   have:=zro h2 r2
   subst this
   exact ⟨_,_,ts,rfl,rfl,sq,hz,p ρ H _ (Ext.refl ..) sim (.str _)⟩
 ·cases h
noncomputable def zjy:D->Option Unit
 | .str _=>some ()
 | _=>none
noncomputable def zc7 (f:D->List D->Sto->Option (D × Sto)) (o:EM) (as:AM):EM:=λl S=>(o l S).bind λp=>(zjy p.1).bind λ_=>(as l p.2).bind λq=>f p.1 q.1 q.2
variable {o e:Expr}{mo m:EM}{apos cpos:Pos}
theorem zjz (ho:PE3 X o mo) (he:PE3 X e m)
  (hbase:attributeBase o "join" X.env (eval o X.env)=eval o X.env:=by rfl)
  (hfew:((backTo cpos (starEach [e] X.env)).all (λx=>!x.1) && (backToKw cpos (keywordEach [] X.env)).all (λx=>x.1.isSome)
   && decide ([e].length+([]:List Keyword).length+(if ([]:List Keyword).isEmpty then 0 else 1)<30))=true:=by rfl)
  (hline:(apos.endLine == cpos.line)=true:=by rfl) (hs:starEach [e] X.env=(false,eval e X.env) :: starEach [] X.env:=by rfl) :
  PE3 X (.Call (.Attribute o "join" apos) [e] [] cpos) (zc7 zgm mo (zaa m zab)) :=
 PE.imp (zmx PySem.F.plainAttrs_str PySem.F.slot_str_join PySem.F.type_str_join ybk ho (zae he zaf hs) hbase hfew hline hs rfl) λσ H Q hx3_=>by
  obtain ⟨ρ,l,S,v,S',sim,ro,hq,p⟩:=hx3_
  obtain ⟨⟨x,S1⟩,h1,hq⟩:=bnd hq
  obtain ⟨_,h2,hq⟩:=bnd hq
  obtain ⟨⟨ys,S2⟩,h4,hq⟩:=bnd hq
  refine ⟨ρ,l,S,x,S1,sim,ro,h1,λρ1 H1 x' e1 s1 r1=>⟨?_,ρ1,l,S1,ys,S2,s1,ro.mono e1,h4,λρ2 H2 vs e2 s2 r2=>ybl ρ2 S2 H2 x x' ys vs v S' Q s2 (r1.mono e2) r2 hq (p.ext (e1.trans e2))⟩⟩
  cases r1 with
  | str z=>exact rfl
  | _=>cases h2
end
noncomputable def sgn (z:Str):List D:=z.cps.toList.map λc=>.str ⟨#[c]⟩
noncomputable def Its (z:Str):It:=⟨λi _=>i<z.cps.size,λi H x H'=>H' = H/\∃c,z.cps[i]? = some c/\x=.str ⟨#[c]⟩,λi _=>z.cps.size<=i⟩
theorem zj0 (z:Str):(sgn z).length=z.cps.size:=by simp [sgn]
theorem ybm {K:QFg}{ρ:List Addr}{H:Hp}{z:Str}:zju K ρ H (itX (sgn z)) (Its z):=by
 intro i ρ' S' H' e s
 refine ⟨λh=>?_,λx h=>?_⟩
 ·have h:(sgn z)[i]? = none:=qoi h
  have:=List.getElem?_eq_none_iff.mp h
  rw [zj0] at this
  exact this
 ·have h:(sgn z)[i]? = some x:=qoi h
  have hl:=(qme h).1
  rw [zj0] at hl
  refine ⟨hl,λy H'' ⟨e1,c,e2,e3⟩=>⟨e1,?_⟩⟩
  subst e3
  unfold sgn at h
  rw [qgm] at h
  have e4:z.cps.toList[i]? = some c:=by simpa using e2
  rw [e4] at h
  cases h
  exact .str _
section
variable {P:Program}{w:World}{K:QFg}{elts:List Expr}{z:Nat}{tp:Pos}
end
section
variable {X:Cx}{elts:List Expr}{z:Nat}{tp:Pos}
end
section
variable {X:Cx}{elts:List Expr}{z:Nat}{tp:Pos}{a:Expr}{mA:AM}{g:GM}{b:SM}{body:List Stmt}{p0 pos' pos:Pos}
end
noncomputable def ziv:D->D->Sto->Option (D × Sto)
 | .ref n,.ref m,S=>match S[n]?,S[m]? with
  | some (.lst xs),some (.lst [])=>some (.bl xs.isEmpty,S)
  | _,_=>none
 | _,_,_=>none
def zrp:R2:=λx y H Q=>∃a b xs,x=.ref a/\y=.ref b/\H a=some (.lst xs)/\H b=some (.lst [])/\Q (.bl xs.isEmpty) H
section
variable {X:Cx}{a b:Expr}{ma mb:EM}{pos:Pos}{k:Nat}
theorem ybn (hr:Room k X.A):OpR X (compareOp .Eq) zrp:=by
 intro pins s σ H x y v u Q I rx ry h
 obtain ⟨a,b,xs,rfl,rfl,ha,hb,q⟩:=h
 cases rx;cases ry
 obtain ⟨z,its,n,r,hl,e⟩:=I.lstM ha
 obtain ⟨z2,its2,n2,r2,hl2,e2⟩:=I.lstM hb
 cases r2
 have hu:X.A.units<cLine:=by have:=hr.un;omega
 have l1:s.heap.IsList a its.toArray:=⟨_,e,rfl,n,rfl⟩
 have l2:s.heap.IsList b ([]:List Value).toArray:=⟨_,e2,rfl,n2,rfl⟩
 cases xs with
 | nil =>
  cases r
  have:=SeqAt.RcAt.lists (A:=X.A) (e:=λ_=>true) l1 l2 rfl hu (λj h1 _=>by simp at h1)
  exact this X.prog X.w X.xe _ ⟨.bl _,H,I,rfl,q⟩
 | cons y ys =>
  cases r with
  | cons r1 r2 =>
   exact SeqAt.RcAt.lists_lengths (A:=X.A) l1 l2 (by simp) hu X.prog X.w X.xe _ ⟨.bl _,H,I,rfl,q⟩
theorem ybo {K:QFg}:Op3 K ziv zrp:=by
 intro ρ S H x y x' y' v S' Q sim rx ry h p
 unfold ziv at h
 split at h
 ·split at h
  ·rename_i n m S xs e1 e2
   cases h
   obtain ⟨a,us,ha,hH,r2⟩:=sim.lst e1
   obtain ⟨b,ws,hb,hH2,r3⟩:=sim.lst e2
   cases r3
   cases rx with
   | ref hn =>
    rw [ha] at hn;cases hn
    cases ry with
    | ref hm =>
     rw [hb] at hm;cases hm
     refine ⟨a,b,us,rfl,rfl,hH,hH2,?_⟩
     have:us.isEmpty=xs.isEmpty:=by cases r2 <;> rfl
     rw [this]
     exact p ρ H _ (Ext.refl ..) sim (.bl _)
  ·cases h
 ·cases h
theorem ybp (hr:Room k X.A) (ha:PE3 X a ma) (hb:PE3 X b mb):PE3 X (.Compare a [.Eq] [b] pos) (eOp ziv ma mb):=zla (ybn hr) ybo ha hb (zfa b)
end
def ybq:V->Option Int->Option Int->Hp->VK->Prop:=λx lo hi H Q=>∃z,x=.str z/\z.length<=sizeLine/\Q (.str (Txt.slice z lo hi)) H
theorem zrq {v:Value}{o:Option Int}(h:IsPart v o):∃l:Option (Int × Tok),v=partValue l/\o=l.map (·.1):=by
 cases h with
 | none=>exact ⟨none,rfl,rfl⟩
 | int i t=>exact ⟨some (i,t),rfl,rfl⟩
theorem ybr {X:Cx}:SlR X ybq:=by
 intro pins s σ H x v vl vu lo hi sl Q I rx hs pl pu h
 obtain ⟨z,rfl,hz,q⟩:=h
 obtain ⟨t,rfl⟩:=rx
 obtain ⟨l,rfl,rfl⟩:=zrq pl
 obtain ⟨u,rfl,rfl⟩:=zrq pu
 refine ⟨"str",_,F.slot_str_getitem.lookup,typeIs_str _ _ _,?_⟩
 refine wpAny_getItem_str_slice (l:=l) (u:=u) (st:=none) hs rfl ?_
 refine post_val_or_str ⟨Nat.le_trans (Txt.slice_le z _ _) hz,λt' k=>?_⟩
 exact ⟨.str _,H,I.tok _,⟨t',rfl⟩,q⟩
noncomputable def zbu (m:EM) (lo hi:OM):EM:=λl S=>(m l S).bind λp=>(lo l p.2).bind λq=>(hi l q.2).bind λr=>match p.1 with
 | .tup xs=>some (.tup (zg9 xs q.1 r.1),r.2)
 | .ref n=>(lstOf r.2 n).bind λxs=>some (.ref r.2.length,r.2++[.lst (zg9 xs q.1 r.1)])
 | .str z=>if z.length<=sizeLine then some (.str (Txt.slice z q.1 r.1),r.2) else none
 | _=>none
section
variable {X:Cx}{a:Expr}{ma:EM}{lo hi:Option Expr}{ml mh:OM}{p2 pos:Pos}
theorem zen (he:PE3 X a ma) (hl:PO3 X lo ml) (hu:PO3 X hi mh):PE3 X (.Subscript a (.Slice lo hi none p2) pos) (zbu ma ml mh):=PE.imp (zyh (((sl_tup.or zzg).or zyq).or ybr) he hl hu) λσ H Q hx1_=>by
 obtain ⟨ρ,l,S,v,S',sim,ro,hm,p⟩:=hx1_
 obtain ⟨⟨x,S1⟩,h1,hm⟩:=bnd hm
 obtain ⟨⟨y,S2⟩,h2,hm⟩:=bnd hm
 obtain ⟨⟨z,S3⟩,h3,hm⟩:=bnd hm
 refine ⟨ρ,l,S,x,S1,sim,ro,h1,λρ1 H1 x' e1 s1 r1=>⟨ρ1,l,S1,y,S2,s1,ro.mono e1,h2,λρ2 H2 e2 s2=>⟨ρ2,l,S2,z,S3,s2,ro.mono (e1.trans e2),h3,λρ3 H3 e3 s3=>?_⟩⟩⟩
 have e13:=e1.trans (e2.trans e3)
 cases r1 with
 | @tup xs a vs ha r =>
  cases hm
  have ha3:=(e2.trans e3).tup _ _ ha
  have r3:=r.mono (e2.trans e3)
  have hlen:=r.length
  by_cases hw:HT.sIx vs.length 0 y=0/\HT.sIx vs.length vs.length z=vs.length
  ·refine .inl (.inl (.inr ⟨a,vs,rfl,SqT.of ha3,hw,?_⟩))
   have:=zzh xs y z (by rw [hlen];exact hw)
   dsimp only at p
   rw [this] at p
   exact p ρ3 H3 _ e13 s3 (.tup ha3 r3)
  ·refine .inl (.inl (.inl ⟨a,vs,rfl,SqT.of ha3,hw,?_⟩))
   have rc:RDs ρ3 H3 (zg9 xs y z) (zgr vs y z):=by
    unfold zg9 zgr
    rw [hlen]
    exact (r3.drop _).take _
   exact zil s3 rc (Pv.ext p e13)
 | @ref j b hj =>
  obtain ⟨xs,hx,hm⟩:=bnd (show (lstOf S3 j).bind (λxs=>some (D.ref S3.length,S3++[.lst (zg9 xs y z)]))=some (v,S') from hm)
  cases hm
  obtain ⟨c,us,hc,sq,rv⟩:=s3.lstOf hx
  have:=(e2.trans e3).pre _ _ hj
  rw [this] at hc;cases hc
  have rc:RDs ρ3 H3 (zg9 xs y z) (zgr us y z):=by
   unfold zg9 zgr
   rw [rv.length]
   exact (rv.drop _).take _
  exact .inl (.inr ⟨b,us,rfl,sq,zh4 s3 rc (Pv.ext p e13)⟩)
 | str t =>
  obtain ⟨hz,e⟩:=zdl (show (if t.length<=sizeLine then some (D.str (Txt.slice t y z),S3) else none)=some (v,S') from hm)
  cases e
  exact .inr ⟨t,rfl,hz,p ρ3 H3 _ e13 s3 (.str _)⟩
 | _=>cases hm
end
noncomputable def zho:D->D->Sto->Option (D × Sto)
 | .str i,.str j,S=>if i.length+j.length<=sizeLine then some (.str (i++j),S) else none
 | _,_,_=>none
noncomputable def dPlusA:D->D->Sto->Option (D × Sto):=λx y S=>match zho x y S with|some v=>some v|none=>zlh x y S
theorem op3_plusS {K:QFg}:Op3 K zho (λx y H Q=>∃i j,x=.str i/\y=.str j/\i.length+j.length<=sizeLine/\Q (.str (i++j)) H):=by
 intro ρ S H x y x' y' v S' Q sim rx ry h p
 unfold zho at h
 split at h
 ·obtain ⟨hz,e⟩:=zdl h
  cases e;cases rx;cases ry
  exact ⟨_,_,rfl,rfl,hz,p ρ H _ (Ext.refl ..) sim (.str _)⟩
 ·cases h
theorem zb0 {X:Cx}{a b:Expr}{ma mb:EM}{pos:Pos}(ha:PE3 X a ma) (hb:PE3 X b mb):PE3 X (.BinOp a .Add b pos) (eOp dPlusA ma mb):=zh3 (op_add_str.or (op_add.or ((op_catT.or zzi).or zyx))) (op3_plusS.or zz8) ha hb
noncomputable def zdv:FM
 | [.str z],S=>(intText? z).bind λn=>if z.length<=640 then some (.int n,S) else none
 | xs,S=>znb xs S
section
variable {X:Cx}{a:Expr}{es:List Expr}{mA:AM}{pos p:Pos}{K:QFg}
theorem call_int_text:CallR X (.type "int") (λxs H Q=>∃z n,xs=[.str z]/\intText? z=some n/\z.length<=640/\Q (.int n) H):=by
 intro pins s σ H xs us Q I r h
 obtain ⟨z,n,rfl,h1,h2,q⟩:=h
 obtain ⟨u,rfl,ru⟩:=zg6 r
 obtain ⟨t,rfl⟩:=ru
 exact PySem.W.KIN.call_text h1 h2 ⟨.int n,H,I.tok _,⟨_,rfl⟩,q⟩
theorem ybs:Fn3 K zdv (λxs H Q=>(∃z n,xs=[.str z]/\intText? z=some n/\z.length<=640/\Q (.int n) H)\/((∃i,xs=[.int i]/\Q (.int i) H)\/∃k,xs=[.bl k]/\Q (.int (if k then 1 else 0)) H)):=by
 intro ρ S H xs vs v S' Q sim r h p
 unfold zdv at h
 split at h
 ·obtain ⟨n,h1,h⟩:=bnd h
  obtain ⟨hz,e⟩:=zdl h
  cases e
  obtain ⟨w,rfl,rw'⟩:=r.one
  cases rw'
  exact .inl ⟨_,_,rfl,h1,hz,p ρ H _ (Ext.refl ..) sim (.int _)⟩
 ·exact .inr (zzl ρ S H _ vs v S' Q sim r h p)
theorem ziw (hg:Gl X "int") (hm:X.mg "int" = none) (ha:PA3 X (a :: es) mA) (he:starEach (a :: es) X.env=(false,eval a X.env) :: starEach es X.env:=by rfl) (hpl:(backTo pos (starEach es X.env)).any (·.1)=false:=by rfl):PE3 X (.Call (.Name "int" p) (a :: es) [] pos) (zac zdv mA) :=
 zlb (call_int_text.or zxy) ybs hg hm zq2 ha (by decide) (by decide) he hpl
end
section
variable {X:Cx}
variable {o e f:Expr}{mo m m':EM}{apos cpos:Pos}
end
section
variable {X:Cx}
variable {a:Expr}{es:List Expr}{mA:AM}{p pos:Pos}
end
section
variable {prog:Program}{w:World}{A:Around}{E:Value->Shared->Prop}{s:Shared}
end
section
variable {P:Program}{w:World}{K:QFg}{tg:Expr}
end
section
variable {X:Cx}{tg:Expr}
end
section
variable {X:Cx}{tgt:Expr}{a:Expr}{mA:AM}{p0 pos':Pos}
end
theorem zrr {ρ:List Addr}{H:Hp}:∀ts:List Str,RDs ρ H (ts.map D.str) (ts.map V.str)
 | []=>.nil
 | t :: ts=>.cons (.str t) (zrr ts)
section
variable {X:Cx}
variable {a:Expr}{es:List Expr}{mA:AM}{pos p:Pos}
end
section
variable {X:Cx}{a b:Expr}{ma mb:EM}{pos:Pos}
end
section
variable {prog:Program}{w:World}{A:Around}{R:Result->Shared->Prop}{s:Shared}
end
section
variable {K:QFg}{ρ:List Addr}{H:Hp}{S:Sto}
end
section
variable {X:Cx}{tg:Expr}
end
section
variable {X:Cx}{tgt iter:Expr}{m:EM}
end
section
variable {X:Cx}{a b:Expr}{ma mb:EM}{pos:Pos}{k:Nat}
end
open PySem.W
def Fly (h:Heap) (e C T:Addr):Prop:=∃oe vs oT ts a0,h.get? e=some oe/\oe.cls=.ref C/\oe.data=.fields vs/\vs[0]? = some a0/\vs[1]? = some (.ref T)/\T≠e/\h.get? T=some oT/\oT.data=.fields ts/\ts[3]? = some .none
structure Tr (fs:List Addr) (e T:Addr) (h h':Heap):Prop where
 keep:∀b o,b ∉ fs->b≠e->b≠T->h.get? b=some o->h'.get? b=some o
 slot:∀b o,b∈fs->h.get? b=some o->(∀vs,o.data≠.fields vs)->∃sl,h'.get? b=some { o with slots:=sl }
section
variable {M:Model}{A:Around}{E:Value->Shared->Prop}{s:Shared}{base:Heap}{env:Env}{outer:List Env}{L e C T:Addr}{Q:Unit->Shared->Prop}
theorem zln {l:List Env}:∀env∈l,∀a,env.frame=some a->a∈frs l:=λenv he a ha=>List.mem_filterMap.mpr ⟨env,he,ha⟩
theorem ybt (hfr:A.frames=some (env :: outer)) (hl:s.heap.FunFrames base (env :: outer)) (hf:env.frame=some L) (fl:Fly s.heap e C T)
  (hQ:∀h' T',Tr (frs (env :: outer)) e T s.heap h'->Fly h' e C T'->(T' = T\/s.heap.get? T' = none)->Q () { s with heap:=h' }):wpAny M A (leaving env (.ref e)) Q E s:=by
 obtain ⟨oe,vs,oT,ts,a0,he,hc,hd,h0,h1,hTe,hT,hdT,h3⟩:=fl
 refine wpAny_leaving_nextW (base:=hideAll s.heap (e :: T :: frs (env :: outer))) (cls:=.ref C) (a0:=a0) hfr (funFrames_hide hl λv hv a ha=>List.mem_cons_of_mem _ (List.mem_cons_of_mem _ (zln v hv a ha))) hf ⟨oe,vs,T,oT,ts,he,⟨hc,h0⟩,hd,h1,hideAll_none _ (by simp),hTe,hT,hdT,h3⟩ (λb o q=>of_hideAll _ q) (hideAll_none _ (by simp)) λh' hL=>?_
 obtain ⟨k1,k2,⟨oe',vs',T',oT',ts',e1,⟨c1,z1⟩,d1,f1,n1,ne1,g1,d1',t1⟩,k4⟩:=hL
 refine hQ h' T' ⟨λb o hb h2 h3 q=>k1 b o (hideAll_get _ q (by simp only [List.mem_cons,not_or];exact ⟨h2,h3,hb⟩)),λb o _ q hn=>k4 b o q hn⟩ ⟨oe',vs',oT',ts',a0,e1,c1,d1,z1,f1,ne1,g1,d1',t1⟩ ?_
 cases q:s.heap.get? T' with
 | none=>exact .inr rfl
 | some o =>
  refine .inl ?_
  by_cases hm:T'∈e :: T :: frs (env :: outer)
  ·rcases List.mem_cons.mp hm with z|z
   ·exact absurd z ne1
   ·rcases List.mem_cons.mp z with z|z
    ·exact z
    ·obtain ⟨_,o2,ho2,hnf⟩:=hl.mem z
     rw [q] at ho2;cases ho2
     obtain ⟨sl,hs⟩:=k4 T' o q hnf
     rw [g1] at hs;cases hs
     exact absurd d1' (hnf ts')
  ·rw [hideAll_get _ q hm] at n1;cases n1
def New (h:Heap) (e C:Addr):Prop:=∃oe vs a0,h.get? e=some oe/\oe.cls=.ref C/\oe.data=.fields vs/\vs[0]? = some a0/\vs[1]? = some .none
theorem ybu (hfr:A.frames=some (env :: outer)) (hl:s.heap.FunFrames base (env :: outer)) (hf:env.frame=some L) (fl:New s.heap e C)
  (hQ:∀h' T',Tr (frs (env :: outer)) e e s.heap h'->Fly h' e C T'->s.heap.get? T' = none->Q () { s with heap:=h' }):wpAny M A (leaving env (.ref e)) Q E s:=by
 obtain ⟨oe,vs,a0,he,hc,hd,h0,h1⟩:=fl
 refine wpAny_leaving_firstW (base:=hideAll s.heap (e :: frs (env :: outer))) (a0:=a0) hfr (funFrames_hide hl λv hv a ha=>List.mem_cons_of_mem _ (zln v hv a ha)) hf he (λb o q=>of_hideAll _ q) (hideAll_none _ (by simp)) hd h1 h0 λh' hL=>?_
 obtain ⟨k1,k2,⟨oe',vs',T',oT',ts',e1,⟨c1,z1⟩,d1,f1,n1,ne1,g1,d1',t1⟩,k4⟩:=hL
 refine hQ h' T' ⟨λb o hb h2 h3 q=>k1 b o (hideAll_get _ q (by simp only [List.mem_cons,not_or];exact ⟨h2,hb⟩)),λb o _ q hn=>k4 b o q hn⟩ ⟨oe',vs',oT',ts',a0,e1,c1.trans hc,d1,z1,f1,ne1,g1,d1',t1⟩ ?_
 cases q:s.heap.get? T' with
 | none=>rfl
 | some o =>
  by_cases hm:T'∈e :: frs (env :: outer)
  ·rcases List.mem_cons.mp hm with z|z
   ·exact absurd z ne1
   ·obtain ⟨_,o2,ho2,hnf⟩:=hl.mem z
    rw [q] at ho2;cases ho2
    obtain ⟨sl,hs⟩:=k4 T' o q hnf
    rw [g1] at hs;cases hs
    exact absurd d1' (hnf ts')
  ·rw [hideAll_get _ q hm] at n1;cases n1
end
theorem ObjOk.there {P:Program}{w:World}{H:Hp}{h:Heap}{a:Addr}{o:HO}(x:ObjOk P w H h a o):∃q,h.get? a=some q:=by
 cases o with
 | lst xs=>obtain ⟨_,_,_,_,e⟩:=x;exact ⟨_,e⟩
 | tup xs=>obtain ⟨_,_,_,ob,e,_⟩:=x;exact ⟨_,e⟩
 | dK kvs=>obtain ⟨_,_,_,_,o,_,_,e,_⟩:=x;exact ⟨_,e⟩
 | dT kvs=>obtain ⟨_,_,_,_,o,_,_,e,_⟩:=x;exact ⟨_,e⟩
 | set S n=>obtain ⟨o,_,_,_,e,_⟩:=x;exact ⟨_,e⟩
 | ins C dx fs=>obtain ⟨_,_,_,e,_⟩:=x;exact ⟨_,e⟩
 | own y=>obtain ⟨_,e⟩:=x;exact ⟨_,e⟩
 | xd fs=>obtain ⟨_,⟨_,_,_,e,_⟩,_⟩:=x;exact ⟨_,e⟩
 | rng lo hi=>obtain ⟨_,_,_,e⟩:=x;exact ⟨_,e⟩
 | frz ob u=>obtain ⟨e,_⟩:=x;exact ⟨_,e⟩
 | tbl ps=>exact ⟨_,x⟩
 | met f y=>exact ⟨_,x⟩
 | ext φ=>obtain ⟨_,e,_⟩:=x;exact e
def CX1 (P:Program) (w:World):CXT:=λouter H s E x s'=>∃a C T H',x=.ref a/\s'.os=s.os/\AllBare s'.gens/\Un (frs outer) [] H H' s.heap s'.heap/\HOk P w H' s'.heap /\
 s.heap.get? a=none/\s.heap.get? T=none/\Fly s'.heap a C T/\H' a=none/\H' T=none/\E (.ref C) none H'
section
variable {P:Program}{w:World}{K:QFg}{mg:Str->Option Value}{base:Heap}{N:List Str}{qual:Str}{scope:Scope}{f:Addr}{cd:Value}{A:Around}{outer:List Env}{s:Shared}{H:Hp}{E:XK}
theorem znl {pins:List (Addr × Obj)}{σ:St}{H1:Hp}{s1:Shared}{a C T T':Addr}{h':Heap}(I:Inv (zdp (CX1 P w) P w K mg base N qual scope f cd A outer s H E) pins σ H1 s1)
  (na:s.heap.get? a=none) (nT:s.heap.get? T=none) (ha:H1 a=none) (hT:H1 T=none) (hE:E (.ref C) none H1)
  (tr:Tr (frs (envOfC qual scope s.heap.objs.size f cd :: outer)) a T s1.heap h') (fl:Fly h' a C T') (hT':T' = T\/s1.heap.get? T' = none) :
  CX1 P w outer H s E (.ref a) { s1 with heap:=h' }:=by
 have hsub:∀b,b∈frs (envOfC qual scope s.heap.objs.size f cd :: outer)->b=s.heap.objs.size\/b∈frs outer:=λb hb=>by
  rcases List.mem_cons.mp (I.stkSub b hb) with z|z
  ·exact .inl z
  ·exact .inr z
 have hne:∀b o,s.heap.get? b=some o->b≠a/\b≠T/\b≠s.heap.objs.size:=λb o q=>⟨λz=>(by rw [z,na] at q;cases q),λz=>(by rw [z,nT] at q;cases q),Nat.ne_of_lt (Heap.lt_size q)⟩
 have nT':s.heap.get? T' = none:=by
  rcases hT' with rfl|q
  ·exact nT
  ·cases z:s.heap.get? T' with
   | none=>rfl
   | some o=>obtain ⟨o',e⟩:=I.base.there T' o z (by simp [zdp]);rw [q] at e;cases e
 have hT'':H1 T' = none:=by
  rcases hT' with rfl|q
  ·exact hT
  ·cases z:H1 T' with
   | none=>rfl
   | some u=>obtain ⟨o',e⟩:=ObjOk.there (I.hok T' u z);rw [q] at e;cases e
 refine ⟨a,C,T',H1,rfl,I.os,I.bare,⟨λb o q n hb hx=>?_,λb o q n hb hx=>?_,λb o q n hx=>?_,λb o q hx=>?_,I.base.tups,I.base.frzs,I.base.tbls⟩,λb u e=>?_,na,nT',fl,ha,hT'',hE⟩
 ·obtain ⟨h1,h2,h3⟩:=hne b o q
  exact tr.keep b o (λz=>(hsub b z).elim h3 hb) h1 h2 (I.base.keep b o q n hb (by simp [zdp]))
 ·obtain ⟨sl,e⟩:=I.base.slot b o q n hb (by simp [zdp])
  have hb':b∈frs (envOfC qual scope s.heap.objs.size f cd :: outer):=by
   unfold frs at hb ⊢
   rw [List.filterMap_cons]
   split
   ·exact hb
   ·exact List.mem_cons_of_mem _ hb
  obtain ⟨_,o2,ho2,hnf⟩:=I.funs.mem hb
  rw [e] at ho2;cases ho2
  obtain ⟨sl',e'⟩:=tr.slot b _ hb' e hnf
  exact ⟨sl',e'⟩
 ·exact I.base.free b o q n (by simp [zdp])
 ·obtain ⟨h1,h2,h3⟩:=hne b o q
  obtain ⟨o',e⟩:=I.base.there b o q (by simp [zdp])
  by_cases hb:b∈frs (envOfC qual scope s.heap.objs.size f cd :: outer)
  ·obtain ⟨_,o2,ho2,hnf⟩:=I.stack.mem hb
   rw [e] at ho2;cases ho2
   obtain ⟨sl,e'⟩:=tr.slot b _ hb e hnf
   exact ⟨_,e'⟩
  ·exact ⟨o',tr.keep b o' hb h1 h2 e⟩
 ·refine (I.hok b u e).stay (λc v hc q=>?_) (λ_ q=>q) λ_ _ q=>q
  have hcn:H1 c≠none:=by
   rcases hc with z|z
   ·rw [z,e];intro y;cases y
   ·rw [z];intro y;cases y
  exact tr.keep c v (λz=>hcn (I.stkFree c z)) (λz=>hcn (by rw [z];exact ha)) (λz=>hcn (by rw [z];exact hT)) q
theorem ybv {pins:List (Addr × Obj)}{σ:St}{H1:Hp}{s1:Shared}{a C T:Addr}(I:Inv (zdp (CX1 P w) P w K mg base N qual scope f cd A outer s H E) pins σ H1 s1)
  (na:s.heap.get? a=none) (nT:s.heap.get? T=none) (ha:H1 a=none) (hT:H1 T=none) (fl:Fly s1.heap a C T) (hE:E (.ref C) none H1) :
  (zdp (CX1 P w) P w K mg base N qual scope f cd A outer s H E).xe (.ref a) s1 :=
 ybt (L:=s.heap.objs.size) I.ok.frames I.stack rfl fl λh' T' tr fl' hT'=>znl I na nT ha hT hE tr fl' hT'
theorem ybw {pins:List (Addr × Obj)}{σ:St}{H1:Hp}{s1:Shared}{a C:Addr}(I:Inv (zdp (CX1 P w) P w K mg base N qual scope f cd A outer s H E) pins σ H1 s1)
  (na:s.heap.get? a=none) (ha:H1 a=none) (fl:New s1.heap a C) (hE:E (.ref C) none H1) :
  (zdp (CX1 P w) P w K mg base N qual scope f cd A outer s H E).xe (.ref a) s1 :=
 ybu (L:=s.heap.objs.size) I.ok.frames I.stack rfl fl λh' T' tr fl' hT'=>znl I na na ha ha hE tr fl' (.inr hT')
theorem zia:zh0 (CX1 P w) (zdp (CX1 P w) P w K mg base N qual scope f cd A outer s H E) E:=by
 rintro pins σ H1 s1 e s2 I ⟨a,C,T,H',rfl,ho,hg,un,hok,na,nT,fl,ha,hT,hE⟩
 have I2:=I.call' (s':=s2) (ch:=[]) ho un hok hg (λb hb=>by cases hb)
 have up:∀b,s1.heap.get? b=none->s.heap.get? b=none:=λb q=>by
  cases z:s.heap.get? b with
  | none=>rfl
  | some o=>obtain ⟨o',e⟩:=I.base.there b o z (by simp [zdp]);rw [q] at e;cases e
 exact ybv I2 (up a na) (up T nT) ha hT fl hE
end
abbrev ZM:=Lo->Sto->Option (Str × Sto)
abbrev ZF:=List D->Sto->Option (Str × Sto)
def Rz (K:QFg) (E:XK) (CA:Str->Addr) (r:ZM):L2.St->Hp->Prop:=λσ H=>∃ρ l S C S',Sim K ρ S H/\RO ρ H l σ/\r l S=some (C,S')/\∀ρ' H',Ext ρ H ρ' H'->Sim K ρ' S' H'->E (.ref (CA C)) none H'
def PEz (X:Cx) (E:XK) (CA:Str->Addr) (e:Expr) (r:ZM):Prop:=PE X e (λσ H _=>Rz X.K E CA r σ H)
def PAz (X:Cx) (E:XK) (CA:Str->Addr) (es:List Expr) (r:ZM):Prop:=PA X es (λσ H _=>Rz X.K E CA r σ H)
def PSz (X:Cx) (E:XK) (CA:Str->Addr) (st:Stmt) (r:ZM):Prop:=PS X st (λ_ σ H=>Rz X.K E CA r σ H)
def zgn (X:Cx) (E:XK) (CA:Str->Addr) (st:List Stmt) (r:ZM):Prop:=PSs X st (λ_ σ H=>Rz X.K E CA r σ H)
def spZ (K:QFg) (CA:Str->Addr) (n:Nat) (rx:ZF):Sp:=λvs H _ E=>vs.length=n/\∃ρ ds S C S',Sim K ρ S H/\RDs ρ H ds vs/\rx ds S=some (C,S')/\∀ρ' H',Ext ρ H ρ' H'->Sim K ρ' S' H'->E (.ref (CA C)) none H'
noncomputable def zgo:ZM:=λ_ _=>none
noncomputable def zOr (r q:ZM):ZM:=λl S=>match r l S with
 | some x=>some x
 | none=>q l S
noncomputable def zd0 (m:SM) (r:ZM):ZM:=λl S=>(m l S).bind λq=>match q.1 with
 | .nx=>r q.2.1 q.2.2
 | _=>none
noncomputable def zIf (t:TM) (r q:ZM):ZM:=λl S=>(t l S).bind λp=>if p.1=true then r l p.2 else q l p.2
noncomputable def zj1 (m:EM) (r:ZM):ZM:=λl S=>(m l S).bind λp=>r l p.2
noncomputable def zdc (rx:ZF) (mA:AM):ZM:=λl S=>(mA l S).bind λp=>rx p.1 p.2
section
variable {X:Cx}{E:XK}{CA:Str->Addr}{e:Expr}{es:List Expr}{st:Stmt}{rest:List Stmt}{r q:ZM}{m:EM}{b:SM}{pos:Pos}
theorem Rz.of_or {K:QFg}{σ:L2.St}{H:Hp}(h:Rz K E CA (zOr r q) σ H):Rz K E CA r σ H\/Rz K E CA q σ H:=by
 obtain ⟨ρ,l,S,C,S',sim,ro,hm,p⟩:=h
 unfold zOr at hm
 cases e:r l S with
 | some x=>rw [e] at hm;cases hm;exact .inl ⟨ρ,l,S,C,S',sim,ro,e,p⟩
 | none=>rw [e] at hm;exact .inr ⟨ρ,l,S,C,S',sim,ro,hm,p⟩
theorem Rz.none {K:QFg}{σ:L2.St}{H:Hp}(h:Rz K E CA zgo σ H):False:=by
 obtain ⟨ρ,l,S,C,S',sim,ro,hm,p⟩:=h;cases hm
theorem ybx:PEz X E CA e zgo:=λ_ _ _ _ _ _ h=>h.none.elim
theorem zlo:zgn X E CA rest zgo:=λ_ _ _ _ _ _ h=>h.none.elim
theorem yby (h1:PAz X E CA es r) (h2:PAz X E CA es q):PAz X E CA es (zOr r q):=λpos pins s σ H Q I h=>h.of_or.elim (h1 pos pins s σ H Q I) (h2 pos pins s σ H Q I)
theorem zib (h1:zgn X E CA rest r) (h2:zgn X E CA rest q):zgn X E CA rest (zOr r q):=λpins s σ H D I h=>h.of_or.elim (h1 pins s σ H D I) (h2 pins s σ H D I)
theorem paF:PA X es (λ_ _ _=>False):=λ_ _ _ _ _ _ _ h=>h.elim
theorem ybz:PSs X rest (λ_ _ _=>False):=λ_ _ _ _ _ _ h=>h.elim
theorem pgF {tg:Expr}:PG X tg (λ_ _ _ _=>False):=λ_ _ _ _ _ _ _ _ _ h=>h.elim
theorem zlp (h:PEz X E CA e r) (hs:starEach (e :: es) X.env=(false,eval e X.env) :: starEach es X.env:=by rfl):PAz X E CA (e :: es) r :=
 λpos pins s σ H Q I q=>zfk (t:=λ_ _ _=>False) h paF hs pos pins s σ H Q I q
theorem yb0 (h:PE3 X e m) (h2:PAz X E CA es r) (hs:starEach (e :: es) X.env=(false,eval e X.env) :: starEach es X.env:=by rfl):PAz X E CA (e :: es) (zj1 m r) :=
 λpos pins s σ H Q I ⟨ρ,l,S,C,S',sim,ro,hm,p⟩=>zfk h h2 hs pos pins s σ H Q I (by
  obtain ⟨⟨x,S1⟩,q1,hm⟩:=bnd hm
  exact ⟨ρ,l,S,x,S1,sim,ro,q1,λρ1 H1 x' e1 s1 r1=>⟨ρ1,l,S1,C,S',s1,ro.mono e1,hm,λρ2 H2 e2 s2=>p ρ2 H2 (e1.trans e2) s2⟩⟩)
theorem yb1 {x1}(h:PAz X E CA es r):PEz X E CA (.Tuple es x1 pos) r:=λpins s σ H Q I q=>zms h pins s σ H Q I q
theorem yb2 {tg:Expr}(h:PEz X E CA e r) (hs:swapsWithSole [tg] e pos.line X.env=pure false:=by rfl) (hw:swappedStores [tg] e X.env=pure none:=by rfl)
  (h1:(assignEach [tg] X.env).map (·.2)=[assign tg X.env]:=by rfl):PSz X E CA (.Assign [tg] e pos) r:=λpins s σ H D I q=>zpb (g:=λ_ _ _ _=>False) h pgF hs hw h1 pins s σ H D I q
theorem znm (h:PEz X E CA e r):PSz X E CA (.Return (some e) pos) r:=λpins s σ H D I q=>zo8 h pins s σ H D I q
theorem znn (h:PEz X E CA e r) (hs:swapsWith e none pos.line X.env=pure false:=by rfl):PSz X E CA (.Expr e pos) r:=λpins s σ H D I q=>zo7 h hs pins s σ H D I q
theorem zes (h:PSz X E CA st r):zgn X E CA (st :: rest) r:=λpins s σ H D I q=>zmm (u:=λ_ _ _=>False) h ybz pins s σ H D I q
theorem zf4 (h:PS3 X st b) (h2:zgn X E CA rest r):zgn X E CA (st :: rest) (zd0 b r):=λpins s σ H D I ⟨ρ,l,S,C,S',sim,ro,hm,p⟩=>zmm h h2 pins s σ H D I (by
 obtain ⟨⟨g,l1,S1⟩,q1,hm⟩:=bnd hm
 refine ⟨ρ,l,S,g,l1,S1,sim,ro,q1,λρ1 H1 σ1 e1 s1 r1=>?_⟩
 cases g with
 | nx=>exact ⟨ρ1,l1,S1,C,S',s1,r1,hm,λρ2 H2 e2 s2=>p ρ2 H2 (e1.trans e2) s2⟩
 | _=>cases hm)
theorem zlq {c:Expr}{a d:List Stmt}{mc:TM}(hc:PT3 X c mc) (ha:zgn X E CA a r) (hb:zgn X E CA d q):PSz X E CA (.If c a d pos) (zIf mc r q):=λpins s σ H D I ⟨ρ,l,S,C,S',sim,ro,hm,p⟩=>zo9 hc ha hb pins s σ H D I (by
 obtain ⟨⟨x,S1⟩,q1,hm⟩:=bnd hm
 refine ⟨ρ,l,S,x,S1,sim,ro,q1,λρ1 H1 e1 s1=>?_⟩
 cases x with
 | true=>exact zfw ⟨ρ1,l,S1,C,S',s1,ro.mono e1,hm,λρ2 H2 e2 s2=>p ρ2 H2 (e1.trans e2) s2⟩
 | false=>exact zgc ⟨ρ1,l,S1,C,S',s1,ro.mono e1,hm,λρ2 H2 e2 s2=>p ρ2 H2 (e1.trans e2) s2⟩)
end
def zdg (P:Program) (w:World) (K:QFg) (mg:Str->Option Value) (base:Heap) (CA:Str->Addr) (x:Str) (k n:Nat) (rx:ZF):Prop :=
 ∃(f:Addr) (fd:FuncData) (ps:List Str),FnOk P w K mg base (CX1 P w) k f fd ps (spZ K CA n rx)/\mg x=some (.ref f)/\PySem.W.keepIn K (.ref f)=true/\Binds K fd ps []
section
variable {X:Cx}{E:XK}{CA:Str->Addr}{a:Expr}{es:List Expr}{mA:AM}{pos p:Pos}{x:Str}{k j n:Nat}{rx:ZF}
theorem zhd (F:zdg X.prog X.w X.K X.mg X.base CA x k n rx) (hx:zh0 (CX1 X.prog X.w) X E) (hr:Room j X.A) (hkj:k<=j) (hg:Gl X x)
  (ha:PA3 X (a :: es) mA) (hl:∀l S v S',mA l S=some (v,S')->v.length=n) (hdb:(x == ("__debug__":Str))=false:=by decide) (he:starEach (a :: es) X.env=(false,eval a X.env) :: starEach es X.env:=by rfl) (hpl:(backTo pos (starEach es X.env)).any (·.1)=false:=by rfl) :
  PEz X E CA (.Call (.Name x p) (a :: es) [] pos) (zdc rx mA):=by
 obtain ⟨f,fd,ps,F,hm,hk,hb⟩:=F
 refine λpins s σ H Q I ⟨ρ,l,S,C,S',sim,ro,hz,p⟩=>zpr F (hr.mono hkj) hg hm hk hb .nil hx ha hdb he hpl pins s σ H Q I ?_
 obtain ⟨⟨ds,S1⟩,q1,hz⟩:=bnd hz
 refine ⟨ρ,l,S,ds,S1,sim,ro,q1,λρ1 H1 vs e1 s1 r1=>?_⟩
 show spZ X.K CA n rx (vs++[]) H1 Q E
 rw [List.append_nil]
 exact ⟨by rw [<-r1.length];exact hl _ _ _ _ q1,ρ1,ds,S1,C,S',s1,r1,hz,λρ2 H2 e2 s2=>p ρ2 H2 (e1.trans e2) s2⟩
end
noncomputable abbrev zea:List Value:=[.type "ValueError",.type "Exception",.type "BaseException",.type "object"]
noncomputable def zhe (K:QFg) (C:Addr):List Value:=match K.lookup C with
 | some ⟨_,_,.cls cd,_⟩=>cd.mro.tail
 | _=>[]
theorem zlr {K:QFg}{h:Heap}{C:Addr}{bmB:List Value}{newId:String}(X:K.In h) (q:excIn K C bmB newId=true) :
  ∃N nm qn bs hdct sn sub ab col dd k0 k1 k2 k3 k5 mN,h.get? C=some (excClassObj nm qn C N bs (zhe K C) hdct sn sub ab col dd k0 k1 k2 k3 k5 newId)/\h.Ns N mN/\mN "__init__" = none/\OwnTail h bmB (zhe K C):=by
 unfold excIn at q
 split at q
 ·rename_i dd cd sl ho
  split at q
  ·rename_i C' bm k0 k1 k2 k3 n k5 hm hs
   simp only [Bool.and_eq_true,beq_iff_eq,Bool.not_eq_true'] at q
   obtain ⟨⟨⟨⟨⟨rfl,rfl⟩,hdel⟩,ht⟩,hok⟩,hni⟩:=q
   obtain ⟨nm,bs,mro,ns,qn,hd,sn,sub,ab,col,del⟩:=cd
   dsimp only at hm hdel hok hni
   subst hm hdel
   have hsl:sl = #[k0,k1,k2,k3,some (.builtin n),k5]:=by
    obtain ⟨l⟩:=sl
    simp only at hs
    rw [hs]
   subst hsl
   have et:zhe K C' = bm:=by unfold zhe;rw [ho];rfl
   rw [et]
   exact ⟨ns,nm,qn,bs,hd,sn,sub,ab,col,dd,k0,k1,k2,k3,k5,_,X _ _ ho,.of_isNs (isNs_of_in X hok),nsMap_none_of_in X hok hni,tail_of_in X ht⟩
  ·cases q
 ·cases q
section
variable {P:Program}{w:World}{K:QFg}{mg:Str->Option Value}{base:Heap}{N:List Str}{qual:Str}{scope:Scope}{f:Addr}{cd:Value}{A:Around}{outer:List Env}{s:Shared}{H:Hp}{E:XK}{CA:Str->Addr}
theorem zj2 {x z:Str}{j:Nat}{np p1 cpos pos:Pos}(hg:Gl (zdp (CX1 P w) P w K mg base N qual scope f cd A outer s H E) x) (hm:mg x=some (.ref (CA x))) (q:excIn K (CA x) zea "ValueError.__new__" = true) (hd:(x == ("__debug__":Str))=false:=by decide) :
  PSz (zdp (CX1 P w) P w K mg base N qual scope f cd A outer s H E) E CA (.Raise (some (.Call (.Name x np) [.Constant (.str z) j p1] [] cpos)) none pos) (λ_ S=>some (x,S)):=by
 intro pins s1 σ H1 D I ⟨ρ,l,S,C,S',sim,ro,hz,p⟩
 cases hz
 have hE:=p ρ H1 (Ext.refl ..) sim
 obtain ⟨N',nm,qn,bs,hdct,sn,sub,ab,col,dd,k0,k1,k2,k3,k5,mN,hC,hN,hni,T⟩:=zlr (h:=base) I.mod.kin q
 refine wpAny_Raise_call_subU (C:=CA x) (nm:=nm) (q:=qn) (N:=N') (bs:=bs) (bm:=zhe K (CA x)) (hdct:=hdct) (sn:=sn) (sub:=sub) (ab:=ab) (col:=col) (dd:=dd) (k0:=k0) (k1:=k1) (k2:=k2) (k3:=k3) (k5:=k5)
  F.excBase_ValueError (by decide) F.excBase_ValueError (mN:=mN) (T.hasType F.excBase_ValueError.hasBase) (I.ok.hd rfl) rfl hni (zii I hg hm ⟨rfl,?_⟩ hd)
 refine Calls.evalArgs_plain (thn (zfk (X:=zdp (CX1 P w) P w K mg base N qual scope f cd A outer s H E) (e:=.Constant (.str z) j p1) zo4 zhz rfl cpos pins s1 σ H1 (λvs H2=>H2=H1/\vs.length=1) I ⟨rfl,rfl⟩) λus s2 ⟨vs,H2,I2,r,e2,hl⟩=>?_)
 subst e2
 refine ⟨rfl,by rw [<-r.length,hl];decide,I2.bk _ _ hC,hN.keeps I2.bk,T.keeps I2.bk,λh' e hm=>?_⟩
 have I3:=I2.kept (h':=h') (t':=s2.toks) hm.keeps
 have hne:=hm.new
 have na:s.heap.get? e=none:=by
  cases z:s.heap.get? e with
  | none=>rfl
  | some o=>obtain ⟨o',e'⟩:=I2.base.there e o z (by simp [zdp]);rw [hne] at e';cases e'
 have ha:H2 e=none:=by
  cases z:H2 e with
  | none=>rfl
  | some u=>obtain ⟨o',e'⟩:=ObjOk.there (I2.hok e u z);rw [hne] at e';cases e'
 obtain ⟨t,ht,_,_⟩:=hm.there
 exact ybw (s1:={ s2 with heap:=h' }) I3 na ha ⟨_,_,_,ht,rfl,rfl,rfl,rfl⟩ hE
end
section
variable {M:Model}{A:Around}{E:Value->Shared->Prop}{s:Shared}{base:Heap}{env:Env}{outer l:List Env}{L e C T:Addr}{Q:Unit->Shared->Prop}
theorem zrs (hl:s.heap.FunFrames base l) {h':Heap}{a0:Value}(held:Heap.FlyingW (hideAll s.heap (e :: T :: frs l)) l e (.ref C) a0 h') (sm:s.heap.UpToSlots h') :
  ∃T',Tr (frs l) e T s.heap h'/\Fly h' e C T'/\(T' = T\/s.heap.get? T' = none):=by
 obtain ⟨k1,k2,k3,oe',vs',T',oT',ts',e1,⟨c1,z1⟩,d1,f1,n1,ne1,g1,d1',t1⟩:=held
 refine ⟨T',⟨λb o hb h2 h3 q=>k1 b o (hideAll_get _ q (by simp only [List.mem_cons,not_or];exact ⟨h2,h3,hb⟩)),λb o _ q hn=>sm b o q hn⟩,⟨oe',vs',oT',ts',a0,e1,c1,d1,z1,f1,ne1,g1,d1',t1⟩,?_⟩
 cases q:s.heap.get? T' with
 | none=>exact .inr rfl
 | some o =>
  refine .inl ?_
  by_cases hm:T'∈e :: T :: frs l
  ·rcases List.mem_cons.mp hm with z|z
   ·exact absurd z ne1
   ·rcases List.mem_cons.mp z with z|z
    ·exact z
    ·obtain ⟨_,o2,ho2,hnf⟩:=hl.mem z
     rw [q] at ho2;cases ho2
     obtain ⟨sl,hs⟩:=sm T' o q hnf
     rw [g1] at hs;cases hs
     exact absurd d1' (hnf ts')
  ·rw [hideAll_get _ q hm] at n1;cases n1
theorem zrt (hl:s.heap.FunFrames base l) (fl:Fly s.heap e C T):∃a0,Heap.FlyingW (hideAll s.heap (e :: T :: frs l)) l e (.ref C) a0 s.heap:=by
 obtain ⟨oe,vs,oT,ts,a0,he,hc,hd,h0,h1,hTe,hT,hdT,h3⟩:=fl
 exact ⟨a0,λb o q=>of_hideAll _ q,hideAll_none _ (by simp),funFrames_hide hl λv hv a ha=>List.mem_cons_of_mem _ (List.mem_cons_of_mem _ (zln v hv a ha)),oe,vs,T,oT,ts,he,⟨hc,h0⟩,hd,h1,hideAll_none _ (by simp),hTe,hT,hdT,h3⟩
theorem yb3 (hfr:A.frames=some (env :: outer)) (hl:s.heap.FunFrames base (env :: outer)) (hf:env.frame=some L) (fl:Fly s.heap e C T)
  (hQ:∀h' T',Tr (frs (env :: outer)) e T s.heap h'->Fly h' e C T'->(T' = T\/s.heap.get? T' = none)->Q () { s with heap:=h' }) :
  wpAny M A (noteFrame (.ref e) env) (λ_ s₂=>wpAny M A (setFlight (.ref e) none) Q E s₂) E s:=by
 obtain ⟨a0,fw⟩:=zrt hl fl
 refine wpAny_looks_onW hfr hf fw λh4 held4 sm4=>?_
 refine wpAny_landsW (s:={ s with heap:=h4 }) held4 λh5 held sm5=>?_
 obtain ⟨T',t1,t2,t3⟩:=zrs hl held (sm4.trans sm5)
 exact hQ h5 T' t1 t2 t3
theorem yb4 (hl:s.heap.FunFrames base l) (fl:Fly s.heap e C T)
  (hQ:∀h' T',Tr (frs l) e T s.heap h'->Fly h' e C T'->(T' = T\/s.heap.get? T' = none)->Q () { s with heap:=h' }):wpAny M A (setFlight (.ref e) none) Q E s:=by
 obtain ⟨a0,fw⟩:=zrt hl fl
 refine lands_againW fw λh5 held sm5=>?_
 obtain ⟨T',t1,t2,t3⟩:=zrs hl held sm5
 exact hQ h5 T' t1 t2 t3
end
section
variable {X:Cx}{pins:List (Addr × Obj)}{σ:L2.St}{H:Hp}{s:Shared}{h':Heap}{a T:Addr}{t':Nat}
theorem Inv.tr (I:Inv X pins σ H s) (hex:X.ex=[]) (tr:Tr (frs X.stack) a T s.heap h') (na:X.s₀.heap.get? a=none) (nT:X.s₀.heap.get? T=none) (ha:H a=none) (hT:H T=none)
  (oL:X.env.locals≠a/\X.env.locals≠T) (oC:∀x c,X.env.cells.lookup x=some c->c≠a/\c≠T) (oP:∀p∈X.pn++pins,p.1≠a/\p.1≠T):Inv X pins σ H { s with heap:=h',toks:=t' }:=by
 have kp:∀b o,(∀vs,o.data≠.fields vs)->b≠a->b≠T->s.heap.get? b=some o->∃sl,h'.get? b=some { o with slots:=sl }:=λb o hn h1 h2 q=>by
  by_cases hb:b∈frs X.stack
  ·exact tr.slot b o hb q hn
  ·exact ⟨o.slots,tr.keep b o hb h1 h2 q⟩
 have hne:∀b o,X.s₀.heap.get? b=some o->b≠a/\b≠T/\b≠X.env.locals:=λb o q=>⟨λz=>(by rw [z,na] at q;cases q),λz=>(by rw [z,nT] at q;cases q),Nat.ne_of_lt (Nat.lt_of_lt_of_le (Heap.lt_size q) I.ok.above)⟩
 have nex:∀b,b ∉ X.ex:=λb=>by rw [hex];simp
 refine ⟨I.ok,I.os,I.bare,⟨λb o q n hb hx=>?_,λb o q n hb hx=>?_,I.base.free,λb o q hx=>?_,I.base.tups,I.base.frzs,I.base.tbls⟩,?_,λx c e=>?_,I.free,I.freeC,λp hp=>?_,λb u e=>?_,I.len⟩
 ·obtain ⟨h1,h2,h3⟩:=hne b o q
  exact tr.keep b o (λz=>(List.mem_cons.mp (I.stkSub b z)).elim h3 hb) h1 h2 (I.base.keep b o q n hb hx)
 ·obtain ⟨h1,h2,h3⟩:=hne b o q
  obtain ⟨sl,e⟩:=I.base.slot b o q n hb hx
  obtain ⟨_,o2,ho2,hnf⟩:=I.funs.mem hb
  rw [e] at ho2;cases ho2
  obtain ⟨sl',e'⟩:=kp b _ hnf h1 h2 e
  exact ⟨sl',e'⟩
 ·obtain ⟨h1,h2,h3⟩:=hne b o q
  obtain ⟨o',e⟩:=I.base.there b o q hx
  by_cases hb:b∈frs X.stack
  ·obtain ⟨_,o2,ho2,hnf⟩:=I.stack.mem hb
   rw [e] at ho2;cases ho2
   obtain ⟨sl,e'⟩:=tr.slot b _ hb e hnf
   exact ⟨_,e'⟩
  ·exact ⟨o',tr.keep b o' hb h1 h2 e⟩
 ·obtain ⟨m,⟨o,es,ep,ho,hd,hr⟩,hl⟩:=I.loc
  obtain ⟨sl,e'⟩:=kp _ o (λvs z=>by rw [hd] at z;cases z) oL.1 oL.2 ho
  refine ⟨m,⟨_,es,ep,e',hd,hr⟩,λi x v h1 h2 h3=>?_⟩
  obtain ⟨u,r,lk⟩:=hl i x v h1 h2 h3
  refine ⟨u,r,?_⟩
  rcases lk with lk|⟨k,c,hc,oc,hoc,hdc⟩
  ·exact .inl lk
  ·obtain ⟨sl2,e2⟩:=kp c oc (λvs z=>by rw [hdc] at z;cases z) (oC x c hc).1 (oC x c hc).2 hoc
   exact .inr ⟨k,c,hc,_,e2,hdc⟩
 ·obtain ⟨v,o,ho,hd⟩:=I.cell x c e
  obtain ⟨sl2,e2⟩:=kp c o (λvs z=>by rw [hd] at z;cases z) (oC x c e).1 (oC x c e).2 ho
  exact ⟨v,_,e2,hd⟩
 ·obtain ⟨e,n,ne,nf,d⟩:=I.pin p hp
  exact ⟨tr.keep _ _ (λz=>(List.mem_cons.mp (I.stkSub _ z)).elim ne nf) (oP p hp).1 (oP p hp).2 e,n,ne,nf,d⟩
 ·refine (I.hok b u e).stay (λc v hc q=>?_) (λ_ q=>q) λ_ _ q=>q
  have hcn:H c≠none:=by
   rcases hc with z|z
   ·rw [z,e];intro y;cases y
   ·rw [z];intro y;cases y
  exact tr.keep c v (λz=>hcn (I.stkFree c z)) (λz=>hcn (by rw [z];exact ha)) (λz=>hcn (by rw [z];exact hT)) q
end
section
variable {M:Model}{A:Around}{E:Value->Shared->Prop}{h:Heap}{g:Array GenState}{d:Drawn}{t:Nat}{os:OsState}
variable {nm q nm' q':Str}{C N D N':Addr}{bs bm bs' bm':List Value}{hdct hdct':Bool}{sn sn':List Str}{sub sub':List Value}{ab ab':Bool}{col col':Option Bool}{dd dd':Option Addr}{k0 k1 k2 k3 k5 k0' k1' k2' k3' k5':Option Value}{newId newId':String}
theorem yb5 {e:Addr}{oe:Obj}{Q:Bool->Shared->Prop}
  (hC:h.get? C=some (excClassObj nm q C N bs bm hdct sn sub ab col dd k0 k1 k2 k3 k5 newId)) (hD:h.get? D=some (excClassObj nm' q' D N' bs' bm' hdct' sn' sub' ab' col' dd' k0' k1' k2' k3' k5' newId'))
  (he:h.get? e=some oe) (hcls:oe.cls=.ref C) (hbase:bm'.contains (.type "BaseException")=true) (hin:(Value.ref C :: bm).contains (.ref D)=true)
  (hq:Q true ⟨h,g,d,t,os⟩):wpAny M A (excMatches (.ref e) (.ref D)) Q E ⟨h,g,d,t,os⟩:=by
 have hcB:(Value.ref D :: bm').contains (.type "BaseException")=true:=by rw [List.contains_cons,hbase,Bool.or_true]
 have f:=tc_notTuple
 unfold excMatches
 repeat (first|(with_reducible refine wpAny_loadPart_at he ?_;rw [hcls])|with_reducible refine wpAny_loadPart_at hD ?_|with_reducible refine wpAny_loadPart_at hC ?_|(with_reducible refine wpAny_isSubtype_exc hD ?_;rw [hcB])|(with_reducible refine wpAny_isSubtype_exc hC ?_;rw [hin])|wp_step)
 exact hq
end
noncomputable abbrev mk1 (X:Cx) (e:Value):Cx:={ X with A:=X.A.mark (some e),calm:=false,xe:=λ_ _=>False }
def phi (e C:Addr):Heap->Prop:=λh=>∃o,h.get? e=some o/\o.cls=.ref C
section
variable {X:Cx}{pins:List (Addr × Obj)}{σ:L2.St}{H:Hp}{s:Shared}{a C T:Addr}{e:Value}
theorem Inv.mk1 (I:Inv X pins σ H s):Inv (L3.mk1 X e) pins σ H s :=
 ⟨⟨I.ok.mod,I.ok.kind,I.ok.glob,I.ok.blt,I.ok.above,I.ok.inj,I.ok.has,I.ok.cab,λh=>absurd (show false=true from h) Bool.false_ne_true,I.ok.frames,I.ok.stk,I.ok.exf,I.ok.bs,I.ok.bsz,I.ok.noex,I.ok.exfs,I.ok.funs,I.ok.frf⟩,I.os,I.bare,I.base,I.loc,I.cell,I.free,I.freeC,I.pin,I.hok,I.len⟩
theorem Inv.unmk1 (ok:X.Ok) (I:Inv (L3.mk1 X e) pins σ H s):Inv X pins σ H s:=⟨ok,I.os,I.bare,I.base,I.loc,I.cell,I.free,I.freeC,I.pin,I.hok,I.len⟩
theorem Inv.track (I:Inv X pins σ H s) (ha:H a=none) (na:X.s₀.heap.get? a=none) (oL:X.env.locals≠a) (oC:∀x c,X.env.cells.lookup x=some c->c≠a) (oP:∀p∈X.pn++pins,p.1≠a)
  (he:phi a C s.heap):Inv X pins σ (upd H a (.ext (phi a C))) s:=by
 have up:∀b u,H b=some u->upd H a (.ext (phi a C)) b=some u:=λb u q=>by rw [za9 (zdo q ha)];exact q
 refine ⟨I.ok,I.os,I.bare,⟨I.base.keep,I.base.slot,λb o q n hx=>?_,I.base.there,λb xs q=>up _ _ (I.base.tups b xs q),λb o u q=>up _ _ (I.base.frzs b o u q),λb ps q=>?_⟩,I.loc,I.cell,?_,λx c q=>?_,λp hp=>?_,λb u q=>?_,I.len⟩
 ·rw [za9 (λz=>by rw [z,na] at q;cases q)]
  exact I.base.free b o q n hx
 ·obtain ⟨more,z⟩:=I.base.tbls b ps q
  exact ⟨more,up _ _ z⟩
 ·rw [za9 oL];exact I.free
 ·rw [za9 (oC x c q)];exact I.freeC x c q
 ·obtain ⟨z,n,ne,nf,d⟩:=I.pin p hp
  exact ⟨z,by rw [za9 (oP p hp)];exact n,ne,nf,d⟩
 ·by_cases hb:b=a
  ·subst hb
   rw [zfj] at q;cases q
   obtain ⟨o,h1,h2⟩:=he
   exact ⟨⟨o,h1,h2⟩,⟨o,h1⟩,λh1 h2 ⟨o,z1,z2⟩ k=>⟨o,k o z1,z2⟩⟩
  ·rw [za9 hb] at q
   exact (I.hok b u q).stay (λc v _ z=>z) (λc z=>up _ _ z) λc xs z=>up _ _ z
theorem Inv.unbound {n:Str}{i:Nat}{h':Heap}{m:Str->Option Value}{v:Option Value}{t':Nat}(I:Inv X pins σ H s) (hN:X.N.Nodup) (hi:X.N[i]? = some n)
  (hm:s.heap.Ns X.env.locals m) (hn:h'.Ns X.env.locals (λx=>if x=n then v else m x)) (sb:Heap.SameBut X.env.locals s.heap h'):Inv X pins (σ.set i none) H { s with heap:=h',toks:=t' }:=by
 have kp:∀b o,b≠X.env.locals->s.heap.get? b=some o->h'.get? b=some o:=λb o hb q=>sb.extBut b o hb q
 have hL:∀b o,X.s₀.heap.get? b=some o->b≠X.env.locals:=λb o q=>Nat.ne_of_lt (Nat.lt_of_lt_of_le (Heap.lt_size q) I.ok.above)
 have nfs:X.env.locals ∉ X.fs:=λz=>by
  obtain ⟨_,o,ho,_⟩:=I.ok.funs.mem z
  exact hL _ o ho rfl
 refine ⟨I.ok,I.os,I.bare,⟨λb o q n hb hx=>kp b o (hL b o q) (I.base.keep b o q n hb hx),λb o q n hb hx=>?_,I.base.free,λb o q hx=>?_,I.base.tups,I.base.frzs,I.base.tbls⟩,⟨_,hn,λj x u h1 h2 h3=>?_⟩,λx c q=>?_,I.free,I.freeC,λp hp=>?_,λb u q=>?_,by rw [List.length_set];exact I.len⟩
 ·obtain ⟨sl,z⟩:=I.base.slot b o q n hb hx
  exact ⟨sl,kp b _ (hL b o q) z⟩
 ·obtain ⟨o',z⟩:=I.base.there b o q hx
  exact ⟨o',kp b _ (hL b o q) z⟩
 ·have hji:i≠j:=λz=>by
   subst z
   rw [List.getElem?_set_self (by have:=(qme hi).1;rw [I.len];exact this)] at h2
   cases h2
  rw [List.getElem?_set_ne hji] at h2
  have hxn:x≠n:=λz=>hji (zmj hN hi (by rw [h1,z]))
  obtain ⟨m0,hn0,hl⟩:=I.loc
  obtain ⟨w,r,lk⟩:=hl j x u h1 h2 h3
  have em:m0=m:=by
   obtain ⟨o1,es1,ep1,ho1,hd1,hk1,hf1⟩:=hn0
   obtain ⟨o2,es2,ep2,ho2,hd2,hk2,hf2⟩:=hm
   rw [ho1] at ho2;cases ho2
   rw [hd1] at hd2;cases hd2
   funext y;rw [<-hf1 y,<-hf2 y]
  subst em
  refine ⟨w,r,?_⟩
  rcases lk with ⟨k,z⟩|⟨k,c,hc,o,ho,hd⟩
  ·exact .inl ⟨k,by show (if x=n then v else m0 x)=some w;rw [if_neg hxn];exact z⟩
  ·exact .inr ⟨k,c,hc,o,kp c o (I.cne x c hc) ho,hd⟩
 ·obtain ⟨w,o,ho,hd⟩:=I.cell x c q
  exact ⟨w,o,kp c o (I.cne x c q) ho,hd⟩
 ·obtain ⟨z,n,ne,nf,d⟩:=I.pin p hp
  exact ⟨kp _ _ ne z,n,ne,nf,d⟩
 ·refine (I.hok b u q).stay (λc w hc z=>kp c w (λy=>?_) z) (λ_ z=>z) λ_ _ z=>z
  have hcn:H c≠none:=by
   rcases hc with y|y
   ·rw [y,q];intro z;cases z
   ·rw [y];intro z;cases z
  exact hcn (by rw [y];exact I.free)
end
def EH (X:Cx) (Dh:Addr) (tS:TS) (i:Nat) (D:Ends) (σ:L2.St):XK:=λc _ H'=>∃C,c=.ref C/\excIn X.K C zea "ValueError.__new__" = true/\(Value.ref C :: zhe X.K C).contains (.ref Dh)=true /\
 ∀e,H' e=none->tS { nx:=λσ' H''=>D.nx (σ'.set i none) H'',rt:=λ_ _=>False } (σ.set i (some (.ref e))) (upd H' e (.ext (phi e C)))
section
variable {X:Cx}{pins:List (Addr × Obj)}{σ:L2.St}{tS:TS}{i:Nat}{Dh:Addr}{n hx:Str}{np hpos:Pos}{b0:Stmt}{suite:List Stmt}
theorem yb6 (hstk:X.stack=X.env :: X.outer) (hfm:X.env.frame=some X.env.locals) (hex:X.ex=[]) (hg:Gl X hx) (hm:X.mg hx=some (.ref Dh)) (qD:excIn X.K Dh zea "ValueError.__new__" = true)
  (hS:∀e,PSs (mk1 X e) (b0 :: suite) tS) (hN:X.N.Nodup) (hi:X.N[i]? = some n) (hln:X.env.scope.names.lookup n=some .local) (hd:(hx == ("__debug__":Str))=false)
  {H1:Hp} {s1 s2:Shared} {e:Value} {D:Ends} (I1:Inv X pins σ H1 s1) (cx:CX1 X.prog X.w X.stack H1 s1 (EH X Dh tS i D σ) e s2) :
  wpAny (model X.prog X.w) X.A (noteFrame e X.env) (λ_ s₂=>wpAny (model X.prog X.w) X.A (setFlight e none) (λ_ s₃ =>
   wpAny (model X.prog X.w) X.A (handleBy e X.env [.ExceptHandler (some (.Name hx np)) (some n) (b0 :: suite) hpos]) (SP X pins D) X.xe s₃) X.xe s₂) X.xe s2:=by
 obtain ⟨a,C,T,H',rfl,ho,hgn,un,hok,na,nT,fl,ha,hT,hE⟩:=cx
 obtain ⟨C',hCe,qC,hin,hE⟩:=hE
 cases hCe
 have I2:Inv X pins σ H' s2:=I1.call' (s':=s2) (ch:=[]) ho un hok hgn (λb hb=>by cases hb)
 have up:∀b,s1.heap.get? b=none->X.s₀.heap.get? b=none:=λb q=>by
  cases z:X.s₀.heap.get? b with
  | none=>rfl
  | some o=>obtain ⟨o',e⟩:=I1.base.there b o z (by rw [hex];simp);rw [q] at e;cases e
 have out:∀b,s1.heap.get? b=none->X.env.locals≠b/\(∀x c,X.env.cells.lookup x=some c->c≠b)/\∀p∈X.pn++pins,p.1≠b:=λb q=>by
  refine ⟨λz=>?_,λx c hc z=>?_,λp hp z=>?_⟩
  ·obtain ⟨m,⟨o,_,_,h1,_⟩,_⟩:=I1.loc
   rw [z,q] at h1;cases h1
  ·obtain ⟨v,o,h1,_⟩:=I1.cell x c hc
   rw [z,q] at h1;cases h1
  ·have:=(I1.pin p hp).1
   rw [z,q] at this;cases this
 have stk:∀{σ':L2.St} {H'':Hp} {s':Shared},Inv X pins σ' H'' s'->s'.heap.FunFrames X.base (X.env :: X.outer):=λI=>by have:=I.stack;rw [hstk] at this;exact this
 have oa:=out a na
 have oT:=out T nT
 refine yb3 (L:=X.env.locals) (by rw [I2.ok.frames,hstk]) (stk I2) hfm fl λh3 T3 tr3 fl3 hT3=>?_
 rw [<-hstk] at tr3
 have I3:Inv X pins σ H' { s2 with heap:=h3 }:=Inv.tr (t':=s2.toks) I2 hex tr3 (up a na) (up T nT) ha hT ⟨oa.1,oT.1⟩ (λx c q=>⟨oa.2.1 x c q,oT.2.1 x c q⟩) (λp q=>⟨oa.2.2 p q,oT.2.2 p q⟩)
 have nT3:s1.heap.get? T3=none:=by
  rcases hT3 with rfl|q
  ·exact nT
  ·cases z:s1.heap.get? T3 with
   | none=>rfl
   | some o=>obtain ⟨o',e⟩:=un.there T3 o z (by simp);rw [q] at e;cases e
 have hT3':H' T3=none:=by
  rcases hT3 with rfl|q
  ·exact hT
  ·cases z:H' T3 with
   | none=>rfl
   | some u=>obtain ⟨o',e⟩:=ObjOk.there (hok T3 u z);rw [q] at e;cases e
 have oT3:=out T3 nT3
 obtain ⟨N1,nm1,qn1,bs1,hdct1,sn1,sub1,ab1,col1,dd1,k01,k11,k21,k31,k51,mN1,hC1,_,_,_⟩:=zlr (h:=h3) I3.kIn qC
 obtain ⟨N2,nm2,qn2,bs2,hdct2,sn2,sub2,ab2,col2,dd2,k02,k12,k22,k32,k52,mN2,hC2,_,_,TL2⟩:=zlr (h:=h3) I3.kIn qD
 obtain ⟨oe,vs,oT',ts,a0,he,hcl,_⟩:=id fl3
 refine wpAny_handleBy_cons (codeAny_handlers_test (Calls.Name_function_global I3.ok.kind hg (Calls.loadGlobal_global (by rw [I3.ok.glob];exact I3.mod.glob.keeps I3.bk) hm ?_) hd)) (by intro q;cases q)
 refine yb5 hC1 hC2 he hcl (TL2.hasType F.excBase_ValueError.hasBase) hin ?_
 refine codeAny_handlers_suite_as ?_
 refine yb4 (s:={ s2 with heap:=h3 }) (stk I3) fl3 λh4 T4 tr4 fl4 hT4=>?_
 rw [<-hstk] at tr4
 have I4:Inv X pins σ H' { s2 with heap:=h4 }:=Inv.tr (s:={ s2 with heap:=h3 }) (t':=s2.toks) I3 hex tr4 (up a na) (up T3 nT3) ha hT3' ⟨oa.1,oT3.1⟩ (λx c q=>⟨oa.2.1 x c q,oT3.2.1 x c q⟩) (λp q=>⟨oa.2.2 p q,oT3.2.2 p q⟩)
 obtain ⟨oe4,vs4,oT4,ts4,a04,he4,hcl4,_⟩:=id fl4
 have I5:=Inv.track (C:=C) I4 ha (up a na) oa.1 oa.2.1 oa.2.2 ⟨oe4,he4,hcl4⟩
 refine zml (v:=.ref a) I5 hN hi (.inl hln) rfl (λs6 I6=>?_) (.inr hln)
 refine wpAny_mono (hS (.ref a) pins s6 (σ.set i (some (.ref a))) _ _ (Inv.mk1 I6) (hE a ha)) (λf s7 hf=>?_) λ_ _ z=>False.elim z
 cases f with
 | next =>
  obtain ⟨σ',H'',I7,q7⟩:=hf
  have I7:=Inv.unmk1 I6.ok I7
  obtain ⟨m,hn,_⟩:=I7.loc
  show wpAny _ X.A (do bindName X.env n .none;unbindBehindTheSuite X.env n hpos) _ _ s7
  exact wpAny_nameGoes_keeps hln hn (by rw [I7.ok.kind];rfl) λh8 v hn8 sb8=>⟨σ'.set i none,H'',Inv.unbound I7 hN hi hn hn8 sb8,q7⟩
 | ret v=>obtain ⟨_,_,_,_,_,q⟩:=hf;exact q.elim
 | brk=>obtain ⟨_,_,_,q⟩:=hf;exact q.elim
 | cont=>obtain ⟨_,_,_,q⟩:=hf;exact q.elim
end
noncomputable def zhf (k:Nat) (r:ZM):ZF:=λds S=>r (ds.map some++List.replicate (k-ds.length) none) S
theorem yb7 {P:Program}{w:World}{K:QFg}{mg:Str->Option Value}{base:Heap}{CA:Str->Addr}{x:Str}{st:Stmt}{f:Addr}{fd:FuncData}{N ps:List Str}{k n:Nat}{r:ZM}(F:Fun K x x st f fd) (hm:mg x=some (.ref f)) (S:FnScope N ps (za2 st)) (hn:ps.length=n) (hb:Binds K fd ps [])
  (hbody:∀(cdv:Value),PySem.W.codeIn K cdv x=true->∀(A:Around) (outer:List Env) (s:Shared) (H:Hp) (E:XK),Room k (A.deeper (envOfC x (za2 st) s.heap.objs.size f cdv)) ->
   zgn (zdp (CX1 P w) P w K mg base N x (za2 st) f cdv A outer s H E) E CA (zfv st) r):zdg P w K mg base CA x (k+1) n (zhf N.length r):=by
 refine ⟨f,fd,ps,?_,hm,F.kp,hb⟩
 obtain ⟨oc,od,kV,doc,pm,an,cdv,ct,osl,rfl,lk,hcd⟩:=F.ex
 refine zpx lk hcd S (λvs H Q E h=>by rw [h.1,hn]) λA outer s H vs Q E hr h=>?_
 obtain ⟨hl,ρ,ds,S0,C,S',sim,rd,hz,p⟩:=h
 exact ⟨_,hbody cdv hcd A outer s H E hr,ρ,_,S0,C,S',sim,rd.locals N,hz,p⟩
section
variable {X:Cx}{E:XK}{CA:Str->Addr}{a:Expr}{es:List Expr}{mA:AM}{cpos p apos py tpos:Pos}{x y:Str}{k j n:Nat}{rx:ZF}
theorem yb8 (F:zdg X.prog X.w X.K X.mg X.base CA x k n rx) (hxe:∀e s,X.xe e s->False) (hr:Room j X.A) (hkj:k<=j) (hg:Gl X x)
  (ha:PA3 X (a :: es) mA) (hl:∀l S v S',mA l S=some (v,S')->v.length=n) (hdb:(x == ("__debug__":Str))=false) (he:starEach (a :: es) X.env=(false,eval a X.env) :: starEach es X.env) (hpl:(backTo cpos (starEach es X.env)).any (·.1)=false)
  (hs:swapsWithSole [.Name y py] (.Call (.Name x p) (a :: es) [] cpos) apos.line X.env=pure false) (hw:swappedStores [.Name y py] (.Call (.Name x p) (a :: es) [] cpos) X.env=pure none)
  {pins:List (Addr × Obj)} {s:Shared} {σ:L2.St} {H:Hp} {Q:Flow->Shared->Prop} (I:Inv X pins σ H s) (h:Rz X.K E CA (zdc rx mA) σ H) :
  wpAny (model X.prog X.w) X.A (execs [.Assign [.Name y py] (.Call (.Name x p) (a :: es) [] cpos) apos] X.env) Q (λe s'=>∃H1 s1,Inv X pins σ H1 s1/\CX1 X.prog X.w X.stack H1 s1 E e s') s:=by
 obtain ⟨f,fd,ps,F,hm,hk,hb⟩:=F
 obtain ⟨ρ,l,S,C,S',sim,ro,hz,pz⟩:=h
 obtain ⟨⟨ds,S1⟩,q1,hz⟩:=bnd hz
 refine wpAny_execs_cons (wpAny_mono (Q:=λ_ _=>False) ?_ (λ_ _ z=>z.elim) λ_ _ z=>z)
 refine wpAny_Assign_stores (wpAny_mono (Q:=λ_ _=>False) ?_ (λ_ _ z=>z.elim) λ_ _ z=>z) hs hw
 refine wpAny_Call_Name_kw (zii I hg hm ?_ hdb)
 refine PySem.W.callWith_K (h₀:=X.base) I.ok.mod.kin hk (wpAny_mono (ha cpos pins s σ H (λvs H1=>spZ X.K CA n rx vs H1 (λ_ _=>False) E) I ⟨ρ,l,S,ds,S1,sim,ro,q1,λρ1 H1 vs e1 s1 r1=>⟨by rw [<-r1.length];exact hl _ _ _ _ q1,ρ1,ds,S1,C,S',s1,r1,hz,λρ2 H2 e2 s2=>pz ρ2 H2 (e1.trans e2) s2⟩⟩) (λus s1 ⟨vs,H1,I1,r,q⟩=>⟨I1.kIn,?_⟩) λ_ _ z=>(hxe _ _ z).elim) he hpl
 have r2:Vals (vs++[]) (us++[]):=by rw [List.append_nil,List.append_nil];exact r
 have hlen:(us++[]).length=ps.length:=by rw [List.append_nil,<-r.length];exact F.len _ _ _ _ q
 refine wpAny_call (codeAny_mono (F.run X.A X.stack s1 H1 ⟨us,[]⟩ (us++[]) (vs++[]) (λ_ _=>False) E (hr.mono hkj) I1.env0 (hb s1 us I1.kIn hlen) r2 (by rw [List.append_nil];exact q)) λres s' hq=>?_)
 cases res with
 | error e=>exact ⟨H1,s1,I1,hq⟩
 | ok fl =>
  cases fl with
  | ret u=>obtain ⟨_,_,_,_,_,_,_,z⟩:=hq;exact z.elim
  | next=>exact False.elim hq
  | brk=>exact False.elim hq
  | cont=>exact False.elim hq
variable {tN tS:TS}{i:Nat}{Dh:Addr}{nm hx:Str}{np hpos:Pos}{b0:Stmt}{suite:List Stmt}
end
theorem RO.unset {ρ:List Addr}{H:Hp}{l:Lo}{σ:L2.St}(r:RO ρ H l σ) (i:Nat):RO ρ H (l.set i none) (σ.set i none):=by
 refine ⟨by rw [List.length_set,List.length_set];exact r.len,λj d h=>?_⟩
 by_cases e:i=j
 ·subst e
  have hl:i<l.length:=by
   have:=(qme h).1
   rw [List.length_set] at this;exact this
  rw [List.getElem?_set_self hl] at h;cases h
 ·rw [List.getElem?_set_ne e] at h ⊢
  exact r.get j d h
noncomputable def zhp (i:Nat) (ok:Str->Bool) (mN:SM) (r:ZM) (mS:SM):SM:=λl S=>match mN l S with
 | some q=>some q
 | none=>match r l S with
  | some (c,S')=>if ok c=true then (mS (l.set i (some (.ref S'.length))) (S'++[.exc c])).bind λq=>(match q.1 with
   | .nx=>some (.nx,q.2.1.set i none,q.2.2)
   | _=>none) else none
  | none=>none
section
variable {X:Cx}{E:XK}{CA:Str->Addr}{a:Expr}{es:List Expr}{mA:AM}{cpos p apos py tpos:Pos}{x y:Str}{k j n:Nat}{rx:ZF}{i:Nat}{Dh:Addr}{nm hx:Str}{np hpos:Pos}{b0:Stmt}{suite:List Stmt}{mN mS:SM}{ok:Str->Bool}
end
open PySem.Builtin PySem.Builtin.ObjectAttr PySem.Builtin.Getset_descriptor
theorem zru {a C:Addr}(M:Model) (h:Heap) (p:phi a C h):Looks M h (typeOf (.ref a)) (.ref C):=by
 obtain ⟨o,h1,h2⟩:=p
 exact h2 ▸ (Looks.ld h1).andThen .now
section
variable {prog:Program}{w:World}{A:Around}{E:Value->Shared->Prop}{h:Heap}{g:Array GenState}{d:Drawn}{t:Nat}{os:OsState}{a:Addr}{o:Obj}{K:QFg}{C:Addr}
theorem yb9 {tp:Value}{R:Result->Shared->Prop}{s:Shared}(X:K.In s.heap) (p:phi a C s.heap) (hm:mroIn K C (.type "object")=some true) (hq:R (.ok (.ret (.ref C))) s) :
  codeAny (model prog w) A (.call (.builtin "getset_descriptor.__get__") ⟨[.builtin "object.__class__",.ref a,tp],[]⟩) R s:=by
 obtain ⟨hh,g,dr,t,os⟩:=s
 have L0:=zru (model prog w) hh p
 have L1:=looks_mroIn (M:=model prog w) X hm
 refine codeAny_call_builtin KF.slot_gs.plain KF.entry_gs (KF.slot_gs.check _ _ _ _ _ _ _ _ KF.type_class (KF.args_gs _ _ _) ?_)
 unfold Builtin.«getset_descriptor.__get__» descrGet
 rw [dga_obj]
 refine qwb (qwp ?_)
 unfold descrGetter descrCheckInstance descrNameAndClass isInstance
 simp only [KF.owner_class]
 repeat lk
 refine ⟨Code.quiet_builtin _ (by decide +kernel),codeAny_builtin KF.entry_class ?_⟩
 unfold Builtin.«object.__class__» shownTypeOf
 repeat lk
 exact hq
theorem yca {tk:Tok}{Q:Fin->Shared->Prop}(X:K.In h) (hx:h.get? a=some o) (hc:o.cls=.ref C) (hm:mroIn K C (.type "object")=some true) (hf:findIn K (.ref C) "__class__" = some (some (.builtin "object.__class__")))
  (hq:Q (.done (.ret (.ref C))) ⟨h,g,d,t,os⟩):wpAny (model prog w) A (Builtin.«object.__getattribute__» ⟨[.ref a,.str "__class__" tk],[]⟩) Q E ⟨h,g,d,t,os⟩:=by
 have hT5:(⟨h,g,d,t,os⟩:Shared).TypeIs (.builtin "object.__class__") "getset_descriptor":=F.typeOf_object_class
 have f5:=F.typeOf_object_class
 have f6:=F.slot_gs_get.lookup
 have f7:=F.slot_gs_set.lookup
 have L:=looks_findIn (M:=model prog w) X hf
 repeat (any_goals (first|assumption|(with_reducible refine wpAny_loadPart_at hx ?_;rw [hc])|with_reducible refine L.at ?_|wp_step))
 refine yb9 (s:=⟨h,g,d,t,os⟩) X ⟨o,hx,hc⟩ hm ?_
 repeat (any_goals (first|assumption|wp_step))
theorem ycb {M:Model}{nameV:Value}{Q:Unit->Shared->Prop}{nm q:Str}{N:Addr}{bs bm:List Value}{hdct:Bool}{sn:List Str}{sub:List Value}{ab:Bool}{col:Option Bool}{dd:Option Addr}{k0 k1 k2 k3 k5:Option Value}{newId:String}
  (hC:h.get? C=some (excClassObj nm q C N bs bm hdct sn sub ab col dd k0 k1 k2 k3 k5 newId)) (T:OwnTail h zea bm)
  (hx:h.get? a=some o) (hc:o.cls=.ref C) (hq:Q () ⟨h,g,d,t,os⟩):wpAny M A (checkBuiltinCall "BaseException.__getattribute__" ⟨[.ref a,nameV],[]⟩) Q E ⟨h,g,d,t,os⟩:=by
 have hk:builtinKind "BaseException.__getattribute__" = some .slot:=by decide +kernel
 have hsplit:splitId "BaseException.__getattribute__" = some ("BaseException","__getattribute__"):=by decide +kernel
 have hcB:(Value.ref C :: bm).contains (.type "BaseException")=true:=by rw [List.contains_cons,T.hasType F.excBase_ValueError.hasBase];rfl
 have ha:=F.args_bexc_ga (.ref a) nameV
 simp only [checkBuiltinCall,hk,hsplit]
 refine qwb ?_
 ·unfold isInstance
  repeat (first|(with_reducible refine wpAny_loadPart_at hx ?_;rw [hc])|(with_reducible refine wpAny_isSubtype_exc hC ?_;rw [hcB])|wp_step)
  exact hq
end
structure ExcQ (K:QFg) (C:Addr):Prop where
 exc:excIn K C zea "ValueError.__new__" = true
 obj:mroIn K C (.type "object")=some true
 cls:findIn K (.ref C) "__class__" = some (some (.builtin "object.__class__"))
 ga:findIn K (.ref C) "__getattribute__" = some (some (.builtin "BaseException.__getattribute__"))
 gr:findIn K (.ref C) "__getattr__" = some none
 is:(clsIn K C).isSome=true
section
variable {prog:Program}{w:World}{A:Around}{E:Value->Shared->Prop}{h:Heap}{g:Array GenState}{d:Drawn}{t:Nat}{os:OsState}{a:Addr}{o:Obj}{K:QFg}{C:Addr}
theorem ycc {tk:Tok}{R:Result->Shared->Prop}(X:K.In h) (c:ExcQ K C) (hx:h.get? a=some o) (hc:o.cls=.ref C) (hq:R (.ok (.ret (.ref C))) ⟨h,g,d,t,os⟩) :
  codeAny (model prog w) A (.call (.builtin "BaseException.__getattribute__") ⟨[.ref a,.str "__class__" tk],[]⟩) R ⟨h,g,d,t,os⟩:=by
 obtain ⟨N,nm,qn,bs,hdct,sn,sub,ab,col,dd,k0,k1,k2,k3,k5,mN,hC,hN,hni,T⟩:=zlr X c.exc
 exact codeAny_call_builtin F.attrBase_ValueError.ga.plain F.entry_bexc_ga (ycb hC T hx hc (yca X hx hc c.obj c.cls hq))
theorem ycd {tk:Tok}{Q:Value->Shared->Prop}(X:K.In h) (c:ExcQ K C) (hx:h.get? a=some o) (hc:o.cls=.ref C) (hq:Q (.ref C) ⟨h,g,d,t,os⟩) :
  wpAny (model prog w) A (getAttrBy (.ref a) (.str "__class__" tk) false) Q E ⟨h,g,d,t,os⟩:=by
 have f3:=F.attrBase_ValueError.ga.bind (.ref a)
 have hx2:(Value.builtin "BaseException.__getattribute__" == Value.builtin "object.__getattribute__")=false:=by decide +kernel
 have hx1:(onTheHeap (Value.ref C) && Value.builtin "BaseException.__getattribute__" == Value.builtin "object.__getattribute__")=false:=by rw [hx2];rfl
 have L1:=looks_findIn (M:=model prog w) X c.ga
 have L2:=looks_findIn (M:=model prog w) X c.gr
 repeat (any_goals (first|assumption|(with_reducible refine wpAny_loadPart_at hx ?_;rw [hc])|with_reducible refine L1.at ?_|with_reducible refine L2.at ?_|wp_step))
 refine ycc X c hx hc ?_
 repeat (any_goals (first|assumption|wp_step))
theorem yce {Q:Option Value->Shared->Prop}{s:Shared}(X:K.In s.heap) (c:ExcQ K C) (p:phi a C s.heap) (hq:Q (some (.ref C)) { s with toks:=s.toks+1 }) :
  wpAny (model prog w) A (getAttr? (.ref a) "__class__") Q E s:=by
 obtain ⟨hh,g,d,t,os⟩:=s
 obtain ⟨o,hx,hc⟩:=p
 unfold getAttr? getAttrBy?
 repeat (any_goals (first|assumption|with_reducible apply ycd X c hx hc|wp_step))
theorem zrv (c:ExcQ K C):KitX K (.ref a) (.ref C) (phi a C) where
 ty:=λM h _ p=>zru M h p
 it:=λ_ _ X _=>by
  obtain ⟨cdD,hcD⟩:=Option.isSome_iff_exists.mp c.is
  unfold clsIn at hcD
  split at hcD
  ·rename_i c' d' cd' sl' ho
   intro A' Q' E' s' k q
   unfold isType loadHead
   exact qwb (wpAny_loadPart (k _ _ (X _ _ ho)) (qwp q))
  ·cases hcD
 ne:=λh tp dd its n sl X htp=>by
  obtain ⟨cdD,hcD⟩:=Option.isSome_iff_exists.mp c.is
  refine Bool.eq_false_iff.mpr λq=>?_
  have e:C=tp:=Value.ref.inj (beq_iff_eq.mp q)
  subst e
  unfold clsIn at hcD
  split at hcD
  ·rename_i c' d' cd' sl' ho
   have z:=(X _ _ ho).symm.trans htp
   cases z
  ·cases hcD
 ca:=λX p k=>yce X c p k
end
def PN (X:Cx) (es:List Expr) (Cs:List Addr):Prop:=PA X es (λ_ H Q=>Q (Cs.map V.ref) H)
section
variable {X:Cx}{es:List Expr}{Cs:List Addr}{y:Str}{C:Addr}{p:Pos}
theorem zrw (hg:Gl X y) (hm:X.mg y=some (.ref C)) (hd:(y == ("__debug__":Str))=false:=by decide):PE X (.Name y p) (tC (.ref C)):=λ_ _ _ H _ I h=>zii I hg hm ⟨.ref C,H,I,rfl,h⟩ hd
theorem zrx:PN X [] []:=λpos pins s σ H Q I h=>zhz pos pins s σ H Q I h
theorem zgp (hg:Gl X y) (hm:X.mg y=some (.ref C)) (h:PN X es Cs) (hd:(y == ("__debug__":Str))=false:=by decide) (hs:starEach (.Name y p :: es) X.env=(false,eval (.Name y p) X.env) :: starEach es X.env:=by rfl):PN X (.Name y p :: es) (C :: Cs) :=
 λpos pins s σ H Q I q=>zfk (zrw hg hm hd) h hs pos pins s σ H Q I q
theorem zry:∀{Cs:List Addr}{us:List Value},Vals (Cs.map V.ref) us->us=Cs.map Value.ref
 | [],us,h=>by cases h;rfl
 | C :: Cs,us,h=>by
  cases h with
  | cons r q =>
   rw [zry q]
   cases (show _=Value.ref C from r)
   rfl
def ycf (K:QFg):List V->Hp->VK->Prop:=λxs H Q=>∃(a tp C:Addr) (Cs:List Addr) (b:Bool),xs=[.ref a,.ref tp]/\H a=some (.ext (phi a C))/\H tp=some (.tup (Cs.map V.ref))/\ExcQ K C/\kitAny K (.ref C) (Cs.map Value.ref)=some b/\Q (.bl b) H
theorem ycg:CallR X (.builtin "isinstance") (ycf X.K):=by
 intro pins s σ H xs us Q I r h
 obtain ⟨a,tp,C,Cs,b,rfl,ha,ht,hc,hk,q⟩:=h
 obtain ⟨u1,u2,rfl,r1,r2⟩:=r.two
 cases (show u1=Value.ref a from r1)
 cases (show u2=Value.ref tp from r2)
 obtain ⟨ph,_⟩:=(show ObjOk X.prog X.w H s.heap a (.ext (phi a C)) from I.hok a _ ha)
 obtain ⟨its,rv,pt,_⟩:=I.tuple (SqT.of (K:=X.K) ht)
 have e:=zry rv
 subst e
 obtain ⟨ob,h1,h2,h3⟩:=pt
 obtain ⟨n,h3⟩:=h3
 obtain ⟨c,dd,dt,sl⟩:=ob
 cases h2;cases h3
 exact kia_tup (zrv hc) I.kIn ph h1 hk (λz=>nomatch z) λtk=>⟨.bl b,H,I.tok tk,rfl,q⟩
def ych (K:QFg) (c:V) (cv:Value):List V->Hp->VK->Prop:=λxs H Q=>∃(a C:Addr) (b:Bool),xs=[.ref a,c]/\H a=some (.ext (phi a C))/\ExcQ K C/\kitOne K (.ref C) cv=some b/\Q (.bl b) H
theorem zrz {c:V}{cv:Value}(hcv:∀u,RelV c u->u=cv):CallR X (.builtin "isinstance") (ych X.K c cv):=by
 intro pins s σ H xs us Q I r h
 obtain ⟨a,C,b,rfl,ha,hc,hk,q⟩:=h
 obtain ⟨u1,u2,rfl,r1,r2⟩:=r.two
 cases (show u1=Value.ref a from r1)
 cases hcv u2 r2
 obtain ⟨ph,_⟩:=(show ObjOk X.prog X.w H s.heap a (.ext (phi a C)) from I.hok a _ ha)
 exact kia_one (zrv hc) I.kIn ph hk (λz=>nomatch z) λtk=>⟨.bl b,H,I.tok tk,rfl,q⟩
end
noncomputable def zed (tab:List (Str × Bool)):D->Sto->Option (D × Sto):=λx S=>match x with
 | .ref n=>(match S[n]? with
  | some (.exc c)=>(tab.lookup c).bind λb=>some (.bl b,S)
  | _=>none)
 | _=>none
theorem zno {K:QFg}{ρ:List Addr}{S:Sto}{H:Hp}{x v:D}{S':Sto}{x':V}{tab:List (Str × Bool)}(sim:Sim K ρ S H) (r:RD ρ H x x') (h:zed tab x S=some (v,S')) :
  S' = S/\∃a c C b,x' = .ref a/\tab.lookup c=some b/\v=.bl b/\nsIn K mainGlobals c=some (some (.ref C))/\H a=some (.ext (phi a C)):=by
 unfold zed at h
 split at h
 ·split at h
  ·rename_i n S c e
   obtain ⟨b,hb,h⟩:=bnd h
   cases h
   cases r with
   | @ref _ a hn =>
    obtain ⟨C,hc,hH⟩:=sim.at' n a _ hn e
    exact ⟨rfl,a,c,C,b,rfl,hb,rfl,hc,hH⟩
  ·cases h
 ·cases h
section
variable {X:Cx}{a:Expr}{ma:EM}{pos p tp p2:Pos}{es:List Expr}{Cs:List Addr}{x1:Nat}{tab:List (Str × Bool)}{y:Str}{D0:Addr}
theorem znp:bootBuiltins "isinstance" = some (.builtin "isinstance"):=by decide +kernel
theorem zr0 (hg:Gl X "isinstance") (hm:X.mg "isinstance" = none) (ha:PE3 X a ma) (hn:PN X es Cs) (hl:Cs.length<=sizeLine)
  (hk:∀c b C,tab.lookup c=some b->nsIn X.K mainGlobals c=some (some (.ref C))->ExcQ X.K C/\kitAny X.K (.ref C) (Cs.map Value.ref)=some b)
  (he:starEach (a :: [.Tuple es x1 tp]) X.env=(false,eval a X.env) :: starEach [.Tuple es x1 tp] X.env:=by rfl) (he2:starEach [.Tuple es x1 tp] X.env=(false,eval (.Tuple es x1 tp) X.env) :: starEach [] X.env:=by rfl) (hpl:(backTo pos (starEach [.Tuple es x1 tp] X.env)).any (·.1)=false:=by rfl) :
  PE3 X (.Call (.Name "isinstance" p) [a,.Tuple es x1 tp] [] pos) (eUn (zed tab) ma) :=
 PE.imp (zje ycg hg hm znp (zfk ha (zfk (zms hn) zhz he2) he) (by decide) (by decide) he hpl) λσ H Q hx1_=>by
  obtain ⟨ρ,l,S,v,S',sim,ro,hq,pz⟩:=hx1_
  obtain ⟨⟨x,S1⟩,h1,hq⟩:=bnd hq
  refine ⟨ρ,l,S,x,S1,sim,ro,h1,λρ1 H1 x' e1 s1 r1=>?_⟩
  obtain ⟨rfl,a',c,C,b,rfl,hb,rfl,hc,hH⟩:=zno s1 r1 hq
  obtain ⟨q1,q2⟩:=hk c b C hb hc
  refine ⟨by rw [qlm];exact hl,λt ht=>?_⟩
  refine ⟨a',t,C,Cs,b,rfl,?_,zfj,q1,q2,?_⟩
  ·rw [za9 (zdo hH ht)];exact hH
  ·exact pz ρ1 _ _ (e1.trans (zfl ht)) (s1.laid ht) (.bl b)
theorem yci (hg:Gl X "isinstance") (hm:X.mg "isinstance" = none) (ha:PE3 X a ma) (hgy:Gl X y) (hmy:X.mg y=some (.ref D0))
  (hk:∀c b C,tab.lookup c=some b->nsIn X.K mainGlobals c=some (some (.ref C))->ExcQ X.K C/\kitOne X.K (.ref C) (.ref D0)=some b) (hd:(y == ("__debug__":Str))=false:=by decide)
  (he:starEach (a :: [.Name y p2]) X.env=(false,eval a X.env) :: starEach [.Name y p2] X.env:=by rfl) (he2:starEach [.Name y p2] X.env=(false,eval (.Name y p2) X.env) :: starEach [] X.env:=by rfl) (hpl:(backTo pos (starEach [.Name y p2] X.env)).any (·.1)=false:=by rfl) :
  PE3 X (.Call (.Name "isinstance" p) [a,.Name y p2] [] pos) (eUn (zed tab) ma) :=
 PE.imp (zje (zrz (c:=.ref D0) (cv:=.ref D0) λu h=>h) hg hm znp (zfk ha (zfk (zrw hgy hmy hd) zhz he2) he) (by decide) (by decide) he hpl) λσ H Q hx2_=>by
  obtain ⟨ρ,l,S,v,S',sim,ro,hq,pz⟩:=hx2_
  obtain ⟨⟨x,S1⟩,h1,hq⟩:=bnd hq
  refine ⟨ρ,l,S,x,S1,sim,ro,h1,λρ1 H1 x' e1 s1 r1=>?_⟩
  obtain ⟨rfl,a',c,C,b,rfl,hb,rfl,hc,hH⟩:=zno s1 r1 hq
  obtain ⟨q1,q2⟩:=hk c b C hb hc
  exact ⟨a',C,b,rfl,hH,q1,q2,pz ρ1 _ _ e1 s1 (.bl b)⟩
theorem ycj {U:String}(hg:Gl X "isinstance") (hm:X.mg "isinstance" = none) (ha:PE3 X a ma) (hgy:Gl X y) (hmy:X.mg y=none) (hv:bootBuiltins y=some (.type U))
  (hk:∀c b C,tab.lookup c=some b->nsIn X.K mainGlobals c=some (some (.ref C))->ExcQ X.K C/\kitOne X.K (.ref C) (.type U)=some b) (hn:y≠"__name__":=by decide) (hdb:(y == ("__debug__":Str))=false:=by decide)
  (he:starEach (a :: [.Name y p2]) X.env=(false,eval a X.env) :: starEach [.Name y p2] X.env:=by rfl) (he2:starEach [.Name y p2] X.env=(false,eval (.Name y p2) X.env) :: starEach [] X.env:=by rfl) (hpl:(backTo pos (starEach [.Name y p2] X.env)).any (·.1)=false:=by rfl) :
  PE3 X (.Call (.Name "isinstance" p) [a,.Name y p2] [] pos) (eUn (zed tab) ma) :=
 PE.imp (zje (zrz (c:=.ty U) (cv:=.type U) λu h=>h) hg hm znp (zfk ha (zfk (zo5 (v:=.ty U) hgy hmy hv rfl hn hdb) zhz he2) he) (by decide) (by decide) he hpl) λσ H Q hx3_=>by
  obtain ⟨ρ,l,S,v,S',sim,ro,hq,pz⟩:=hx3_
  obtain ⟨⟨x,S1⟩,h1,hq⟩:=bnd hq
  refine ⟨ρ,l,S,x,S1,sim,ro,h1,λρ1 H1 x' e1 s1 r1=>?_⟩
  obtain ⟨rfl,a',c,C,b,rfl,hb,rfl,hc,hH⟩:=zno s1 r1 hq
  obtain ⟨q1,q2⟩:=hk c b C hb hc
  exact ⟨a',C,b,rfl,hH,q1,q2,pz ρ1 _ _ e1 s1 (.bl b)⟩
end
theorem zls {K:QFg}{c0:Str}{b0:Bool}{C0:Addr}{R:Addr->Bool->Prop}(hn:nsIn K mainGlobals c0=some (some (.ref C0))) (h:R C0 b0) :
  ∀c b C,([(c0,b0)]:List (Str × Bool)).lookup c=some b->nsIn K mainGlobals c=some (some (.ref C))->R C b:=λc b C hl hc=>by
 rw [List.lookup_cons] at hl
 split at hl
 ·rename_i q
  cases hl
  have e:c=c0:=by simpa using q
  subst e
  rw [hn] at hc;cases hc
  exact h
 ·cases hl
theorem yck {c0:Str}{R:Str->Prop}(h:R c0):∀c,(c == c0)=true->R c:=λc hc=>by
 have e:c=c0:=by simpa using hc
 rw [e];exact h
section
variable {X:Cx}{o e:Expr}{es:List Expr}{to:TE}{t:TA}{name:Str}{apos cpos:Pos}{T id:String}{r:V->List V->Hp->VK->Prop}{ty:V->Hp->Prop}
end
section
variable {X:Cx}{j:Nat}
end
section
variable {X:Cx}{j:Nat}{o e:Expr}{mo m:EM}{apos cpos:Pos}
variable {a b:Expr}{ma mb:EM}{pos:Pos}
end
section
variable {K:QFg}{ρ:List Addr}{H:Hp}{S:Sto}
end
section
variable {X:Cx}{a b e f o i value:Expr}{ma mb me mf mo mi mv:EM}{pos pos' apos cpos:Pos}{k:Nat}
end
section
variable {X:Cx}{pos:Pos}
end
section
variable {X:Cx}{o i value:Expr}{mo mi mv:EM}{pos pos':Pos}{k:Nat}
end
def Fnc (K:QFg) (mg:Str->Option Value) (x:Str):Prop:=∃f o,PySem.W.nsIn K mainGlobals x=some (some (.ref f))/\K.lookup f=some o/\mg x=some (.ref f)
section
variable {K:QFg}{ρ:List Addr}{H:Hp}{S:Sto}
end
section
variable {X:Cx}{x y:Str}{pos p:Pos}{a:Expr}{es:List Expr}
end
section
variable {k:Nat}{names:List (Str × NameKind)}{acc:List (Str × Addr)}
end
end L3
namespace SP
open PySem PySem.W PyProof.Rows PySem.Calls
section
variable {prog:Program}{w:World}{A:Around}{E:Value->Shared->Prop}{s:Shared}
end
end SP
namespace L3
open PySem PySem.Spec PyProof.Rows L2
section
variable {X:Cx}
end
section
variable {X:Cx}{a:Expr}{es:List Expr}{mA:AM}{pos p:Pos}
end
end L3
namespace SP
open PySem PySem.W PyProof.Rows PySem.Calls
section
variable {prog:Program}{w:World}{A:Around}{E:Value->Shared->Prop}{s:Shared}{d it:Addr}{es:Array DictEntry}{ep i:Nat}
end
end SP
namespace L3
open PySem PySem.Spec PyProof.Rows L2
section
variable {X:Cx}{tg:Expr}
end
section
variable {X:Cx}{tgt iter:Expr}{m:EM}
end
section
variable {X:Cx}
end
section
variable {X:Cx}{a:Expr}{es:List Expr}{mA:AM}{pos p:Pos}
end
section
variable {X:Cx}{a:Expr}
end
section
variable {prog:Program}{w:World}{A:Around}{E:Value->Shared->Prop}{s:Shared}{c:Addr}{i j:Int}{t u:Tok}
end
section
variable {X:Cx}
end
section
variable {X:Cx}{a:Expr}{es:List Expr}{mA:AM}{pos p:Pos}
end
section
variable {prog:Program}{w:World}{K:Type} [DecidableEq K] {knd:HeapKind prog w K}{A:Around}{E:Value->Shared->Prop}{s:Shared}{d a:Addr}{k:K}{xs:List (K × Addr × Value)}{z:Value}
end
section
variable {X:Cx}{o e f:Expr}{td ty tx:TE}{apos cpos:Pos}
end
section
variable {X:Cx}{o e f:Expr}{mo me mf:EM}{apos cpos:Pos}{k:Nat}
end
section
variable {h:Heap}{p:PyData}
noncomputable def eqR (h:Heap) (p:PyData) (y:Value):Bool:=@decide (∃q as,Reads h y q as/\q.canLay0=true/\q.eqv p=true) (Classical.propDecidable _)
theorem zr1 {y:Value}{q:PyData}{as:List Addr}(r:Reads h y q as) (c:q.canLay0=true):eqR h p y=q.eqv p:=by
 unfold eqR
 cases e:q.eqv p with
 | true=>exact @decide_eq_true _ (Classical.propDecidable _) ⟨q,as,r,c,e⟩
 | false =>
  refine @decide_eq_false _ (Classical.propDecidable _) λ⟨q',as',r',_,e'⟩=>?_
  have:=PySem.SeqAt.Reads.unique q q' y as as' c r r'
  subst this
  rw [e] at e';cases e'
theorem zr2:∀{us:List Value}{qs:List PyData}{as:List Addr},ReadsAll h us qs as->PyData.canLayAll0 qs=true->us.map (eqR h p)=qs.map λq=>q.eqv p
 | _,_,_,.nil,_=>rfl
 | _,_,_,.cons r rs,c=>by
  rw [PyData.canLayAll0,Bool.and_eq_true] at c
  rw [List.map_cons,List.map_cons,zr1 r c.1,zr2 rs c.2]
theorem zr3 {A:Around}{s:Shared}{x:Value}{bs:List Addr}(rx:Reads s.heap x p bs) (cx:p.canLay0=true) (hu:A.units+p.depth<cLine):∀{us:List Value}{qs:List PyData}{as:List Addr},ReadsAll s.heap us qs as->PyData.canLayAll0 qs=true->∀y∈us,SeqAt.EqAt A s y x (eqR s.heap p y)
 | _,_,_,.nil,_=>λy hy=>by cases hy
 | _,_,_,.cons r rs,c=>λy hy=>by
  rw [PyData.canLayAll0,Bool.and_eq_true] at c
  rcases List.mem_cons.mp hy with e|hy
  ·subst e
   rw [zr1 r c.1]
   exact PySem.SeqAt.eqAt_reads _ p A s _ x _ bs r rx c.1 cx (Nat.lt_of_le_of_lt (Nat.add_le_add_left (Nat.min_le_right _ _) _) hu)
  ·exact zr3 rx cx hu rs c.2 y hy
end
def zr4 (K:QFg) (neg:Bool):R2:=λx y H Q=>∃ρ S dx xs p qs a us,Sim K ρ S H/\RD ρ H dx x/\y=.ref a/\SqL K H a us/\RDs ρ H xs us/\zax S 60 dx=some p/\pyAll S 60 xs=some qs/\p.canLay0=true/\PyData.canLayAll0 qs=true/\Q (.bl (if neg then !qs.any λq=>q.eqv p else qs.any λq=>q.eqv p)) H
noncomputable def zic (neg:Bool):D->D->Sto->Option (D × Sto)
 | x,.ref n,S=>(lstOf S n).bind λxs=>(zax S 60 x).bind λp=>(pyAll S 60 xs).bind λqs=>if p.canLay0=true/\PyData.canLayAll0 qs=true then some (.bl (if neg then !qs.any λq=>q.eqv p else qs.any λq=>q.eqv p),S) else none
 | _,_,_=>none
section
variable {X:Cx}{k:Nat}
theorem ycl {us:List Value}{qs:List PyData}{f:Value->Bool}{g:PyData->Bool}(h:us.map f=qs.map g):us.toArray.any f=qs.any g:=by
 have h1:us.any f=(us.map f).any id:=by simp [List.any_map]
 have h2:qs.any g=(qs.map g).any id:=by simp [List.any_map]
 rw [List.any_toArray,h1,h,<-h2]
theorem ycm (hr:Room k X.A):OpR X (compareOp .In) (zr4 X.K false):=by
 intro pins s σ H x y v u Q I rx ry h
 obtain ⟨ρ,S,dx,xs,p,qs,a,us,sim,r1,rfl,sq,r2,h1,h2,c1,c2,hq⟩:=h
 cases ry
 obtain ⟨⟨as,k1⟩,_,_,k2⟩:=zh8 I sim 60 dx x v p r1 rx h1
 obtain ⟨its,rv,pl,_⟩:=I.list sq
 obtain ⟨⟨bs,k3⟩,_,_,_⟩:=yak I sim 60 xs us its qs r2 rv h2
 refine SeqAt.in_listAt (eqR s.heap p) pl.isList (λw hw=>zr3 k1 c1 (by have:=hr.un;show X.A.units+1+_<_;omega) k3 c2 w (by simpa using hw)) ⟨.bl _,H,I,rfl,?_⟩
 rw [ycl (zr2 k3 c2)]
 exact hq
theorem ycn {K:QFg}{neg:Bool}:Op3 K (zic neg) (zr4 K neg):=by
 intro ρ S H x y x' y' v S' Q sim rx ry h p
 unfold zic at h
 split at h
 ·obtain ⟨xs,h1,h⟩:=bnd h
  obtain ⟨d1,h2,h⟩:=bnd h
  obtain ⟨ds,h3,h⟩:=bnd h
  obtain ⟨hc,e⟩:=zdl h
  cases e
  obtain ⟨a,us,ha,sq,rv⟩:=sim.lstOf h1
  cases ry with
  | ref hn =>
   rw [ha] at hn;cases hn
   exact ⟨ρ,_,x,xs,d1,ds,a,us,sim,rx,rfl,sq,rv,h2,h3,hc.1,hc.2,p ρ H _ (Ext.refl ..) sim (.bl _)⟩
 ·cases h
variable {a b:Expr}{ma mb:EM}{pos:Pos}
theorem yco (hr:Room k X.A) (ha:PE3 X a ma) (hb:PE3 X b mb) (hm:behindInMarks .In b=false:=by rfl):PT3 X (.Compare a [.In] [b] pos) (tE (eOp (zic false) ma mb)):=zfn (ycm hr) (ycn (neg:=false)) ha hb hm
end
section
variable {X:Cx}{k:Nat}
variable {o e:Expr}{mo me:EM}{apos cpos:Pos}
end
section
variable {X:Cx}{o:Expr}{mo:EM}{apos cpos:Pos}
end
section
variable {X:Cx}{pos:Pos}{ke ve:Expr}
end
section
variable {X:Cx}{pos:Pos}{ke ve:Expr}{mk mv:EM}{k:Nat}
end
section
variable {X:Cx}
end
section
variable {X:Cx}{a:Expr}{es:List Expr}{mA:AM}{pos p:Pos}
end
section
variable {elt t1 i1 t2 i2:Expr}{ifs1 ifs2:List Expr}{scope:Scope}{pos:Pos}{it acc:Value}{env:Env}
noncomputable abbrev two (elt t1 i1 t2 i2:Expr) (ifs1 ifs2:List Expr) (scope:Scope) (pos:Pos):Expr:=.ListComp elt [⟨t1,i1,ifs1,0⟩,⟨t2,i2,ifs2,0⟩] scope pos
variable {prog:Program}{w:World}{A:Around}{R:Result->Shared->Prop}{s:Shared}
end
abbrev RM:=Lo->Sto->Option ((Int × Nat) × Sto)
inductive tr (K:QFg) (r:RM) (σ:St) (H:Hp) (R:It->Hp->Prop):Prop
 | mk (ρ:_) (l:_) (S:_) (lo:_) (n:_) (S':_) (_:Sim K ρ S H) (_:RO ρ H l σ) (_:r l S=some ((lo,n),S')) (_:∀ρ' H',Ext ρ H ρ' H'->Sim K ρ' S' H'->R (Itr lo n) H')
section
variable {X:Cx}{tgt:Expr}{mA:AM}{p0 pos':Pos}{a a2:Expr}
end
section
variable {prog:Program}{w:World}{A:Around}{E:Value->Shared->Prop}{s:Shared}
variable {z TI TO i1 i2 c1 c2:Addr}{n1 n2 k:Nat}{P1 P2:Nat->Value->Prop}{T1 T2:Nat->Heap->Prop}{a b:Value}
end
section
variable {prog:Program}{w:World}{A:Around}{E:Value->Shared->Prop}{s:Shared}
variable {z TI TO i1 i2 c1 c2:Addr}{n1 n2 k:Nat}{P1 P2:Nat->Value->Prop}{T1 T2:Nat->Heap->Prop}{a b:Value}
end
section
variable {prog:Program}{w:World}{A:Around}{E:Value->Shared->Prop}{s:Shared}
end
section
variable {P:Program}{w:World}{K:QFg}{tg:Expr}
theorem zr5 (x:Str) (t:Tok) (T:String) (it:Addr) (hn:["enumerate","zip","dict_itemiterator","dict_reverseitemiterator","odict_iterator","itertools.zip_longest","itertools.pairwise"].contains T=false)
  (W:∀A:Around,A.handled=none->Walks P w A it [it] [it] x.cps.size (SignAt x) (λi h=>h.IsStrIter it T x t i))
  (hs:∀(A:Around) (i:Nat) (s:Shared) (Q:Value->Shared->Prop) (E:Value->Shared->Prop),s.heap.IsStrIter it T x t i->Q (.ref it) s->wpAny (model P w) A (pyIter (.ref it)) Q E s) :
  Turn P w K tg (Its x) [it] it (λi h=>h.IsStrIter it T x t i/\i<=x.cps.size) where
 mem:=by simp
 obj:=λi h st b hb=>by
  have e:b=it:=by simpa using hb
  subst e
  obtain ⟨⟨o,e,c,d⟩,_⟩:=st
  exact ⟨o,e,λv z=>by rw [d] at z;cases z⟩
 keep:=λi h h1 st k=>let ⟨⟨o,q,r⟩,l⟩:=st;⟨⟨o,k it (by simp) o q,r⟩,l⟩
 item:=by
  intro X hP hw hK hc i pins s σ H E I hf st hg
  subst hP hw hK
  obtain ⟨f0,f1,f2,f3,f4,f5⟩:=hf it (by simp)
  refine (W X.A (I.ok.hd hc)).item i s _ _ hg st.1 λv h' tk hv st' kk=>?_
  obtain ⟨c,u,hc1,rfl⟩:=hv
  have I1:Inv X pins σ H { s with heap:=h',toks:=tk }:=I.turned (λb o hb e=>kk b o (by simpa using hb) e) f0 f1 f3 f4 f5
  obtain ⟨o,e,c2,d⟩:=id st'
  exact ⟨_,rfl,zk0 (s:={ s with heap:=h',toks:=tk }) e c2 d hn ⟨.str ⟨#[c]⟩,H,I1,⟨u,rfl⟩,⟨rfl,c,hc1,rfl⟩,⟨st',hg⟩,λb hb=>(hf b hb).1⟩⟩
 done:=by
  intro X hP hw hK hc i pins s σ H E I hf st hg
  subst hP hw hK
  obtain ⟨f0,f1,f2,f3,f4,f5⟩:=hf it (by simp)
  have hge:x.cps.size<=i:=hg
  have hi:i=x.cps.size:=by have:=st.2;omega
  subst hi
  exact (W X.A (I.ok.hd hc)).done s _ _ st.1 λh' tk kk=>⟨rfl,I.turned (λb o hb e=>kk b o (by simpa using hb) e) f0 f1 f3 f4 f5⟩
 self:=λA i s Q E st h=>hs A i s Q E st.1 h
end
section
variable {X:Cx}{tg l:Expr}{tl:TE}{m:EM}
def ycp (tl:TE):TI:=λσ H R=>tl σ H λx H1=>∃z,x=.str z/\R (Its z) H1
theorem ycq (hl:PE X l tl):PI X tg l (ycp tl):=by
 intro pins s σ H R I h
 refine thn (hl pins s σ H _ I h) λv s1 ⟨x,H1,I1,r1,q1⟩=>?_
 obtain ⟨z,rfl,q⟩:=q1
 obtain ⟨t,rfl⟩:=r1
 refine wpAny_pyIter_strU ?_
 have fp:∀b∈[s1.heap.objs.size],zfu X pins H1 b:=λb hb=>by
  have e:b=s1.heap.objs.size:=by simpa using hb
  subst e
  exact I1.fpOk (qlr _) (I1.hok.fresh (qlr _))
 have I2:Inv X pins σ H1 { s1 with heap:=s1.heap.push { cls:=.type (strIterType z),data:=.fields #[.str z t,.int 0 0] } }:=I1.kept (t':=s1.toks) λb o e=>qps _ e
 cases ha:z.cps.all (· < 128)
 ·have hT:strIterType z = "str_iterator":=by simp [strIterType,ha]
  rw [hT] at I2 ⊢
  exact ⟨s1.heap.objs.size,[s1.heap.objs.size],_,_,H1,rfl,I2,zr5 z t _ _ (by decide) (λA hA=>Walks.strWide hA _ z t) (λA i s Q E st h=>wpAny_pyIter_striter_wide st h),⟨⟨_,Heap.get?_push_size _ rfl,rfl,rfl⟩,Nat.zero_le _⟩,fp,q⟩
 ·have hT:strIterType z = "str_ascii_iterator":=by simp [strIterType,ha]
  rw [hT] at I2 ⊢
  exact ⟨s1.heap.objs.size,[s1.heap.objs.size],_,_,H1,rfl,I2,zr5 z t _ _ (by decide) (λA hA=>Walks.strAscii hA _ z t) (λA i s Q E st h=>wpAny_pyIter_striter_ascii st h),⟨⟨_,Heap.get?_push_size _ rfl,rfl,rfl⟩,Nat.zero_le _⟩,fp,q⟩
noncomputable def zeo (e:EM):IM:=λl S=>(e l S).bind λp=>match p.1 with
 | .str z=>some (itX (sgn z),z.cps.size+1,p.2)
 | _=>none
theorem zj3 (hl:PE3 X l m):PI3 X tg l (zeo m):=PI.imp (ycq hl) λσ H R hx1_=>by
 obtain ⟨ρ,l,S,it,k,S',sim,ro,hm,p⟩:=hx1_
 obtain ⟨⟨x,S1⟩,h1,hm⟩:=bnd hm
 refine ⟨ρ,l,S,x,S1,sim,ro,h1,λρ1 H1 x' e1 s1 r1=>?_⟩
 cases r1 with
 | str z=>cases hm;exact ⟨z,rfl,p ρ1 H1 _ e1 s1 ybm⟩
 | _=>cases hm
end
section
variable {X:Cx}{a b e:Expr}{m ma mb:EM}{pos:Pos}{es:List Expr}{ms:List EM}{out:Str}
end
open PySem.Builtin PySem.Builtin.Str
noncomputable def zdx:D->List D->Sto->Option (D × Sto)
 | .str x,[.str y],S=>if y.length≠0/\x.length+2<=sizeLine then some (.ref S.length,S++[.lst ((Txt.split x y).map D.str)]) else none
 | _,_,_=>none
noncomputable def zhq:D->List D->Sto->Option (D × Sto)
 | .str x,[.str y],S=>if y.length≠0/\x.length<=sizeLine then some (.tup [.str (Txt.partition x y).1,.str (Txt.partition x y).2.1,.str (Txt.partition x y).2.2],S) else none
 | _,_,_=>none
def zr6:V->List V->Hp->VK->Prop:=λv vs H Q=>∃x y,v=.str x/\vs=[.str y]/\y.length≠0/\x.length+2<=sizeLine/\∀a,H a=none->Q (.ref a) (upd H a (.lst ((Txt.split x y).map V.str)))
def zr7:V->List V->Hp->VK->Prop:=λv vs H Q=>∃x y,v=.str x/\vs=[.str y]/\y.length≠0/\x.length<=sizeLine/\∀a,H a=none->Q (.ref a) (upd H a (.tup [.str (Txt.partition x y).1,.str (Txt.partition x y).2.1,.str (Txt.partition x y).2.2]))
theorem zr8:∀(k:Nat) (ps:List Str),Vals (ps.map V.str) (strsFrom k ps)
 | _,[]=>.nil
 | k,p :: ps=>.cons ⟨k,rfl⟩ (zr8 (k+1) ps)
section
variable {X:Cx}
theorem ycr:MtM X "str.split" zr6:=by
 intro pins s σ H v vs v' us Q I rx rv h
 obtain ⟨x,y,rfl,rfl,hy,hx,q⟩:=h
 obtain ⟨t,rfl⟩:=rx
 obtain ⟨w,rfl,rw'⟩:=rv.one
 obtain ⟨u,rfl⟩:=rw'
 have hl:=split_le x y
 have hy0:(y.length == 0)=false:=by simp [hy]
 have key:∀(its:List Value) (k:Nat),Vals ((Txt.split x y).map V.str) its->EP X pins σ Q (.ref s.heap.objs.size) { s with heap:=s.heap.push { cls:=.type "list",data:=.seq its.toArray },toks:=k }:=λits k hv =>
  ⟨.ref s.heap.objs.size,_,I.lnew hv (by rw [qlm];omega),rfl,q _ I.fresh⟩
 cases h1:(decide (x.length<y.length) || decide (strKind x<strKind y))
 ·cases hf:(occurrences x y 0 x.length (x.length+1)).isEmpty
  ·have e:Txt.split x y=partsBetween x (occurrences x y 0 x.length (x.length+1)) y.length:=(if_neg (ne_true_of_eq_false h1)).trans (if_neg (ne_true_of_eq_false hf))
   refine call_meets F.slot_str_split (typeIs_str _ _ _) F.entry_str_split (F.args_str_split_2 _ _) (meets_str_split_sep x y t u h1 hy0 hf (by omega) (by rw [<-e];omega)) ?_
   exact key _ _ (by rw [e];exact zr8 _ _)
  ·have e:Txt.split x y=[x]:=(if_neg (ne_true_of_eq_false h1)).trans (if_pos hf)
   refine call_meets F.slot_str_split (typeIs_str _ _ _) F.entry_str_split (F.args_str_split_2 _ _) (meets_str_split_not_found x y t u h1 hy0 hf) ?_
   exact key _ _ (by rw [e];exact .cons ⟨t,rfl⟩ .nil)
 ·have e:Txt.split x y=[x]:=if_pos h1
  refine call_meets F.slot_str_split (typeIs_str _ _ _) F.entry_str_split (F.args_str_split_2 _ _) (meets_str_split_cannot_occur x y t u h1) ?_
  exact key _ _ (by rw [e];exact .cons ⟨t,rfl⟩ .nil)
theorem ycs:MtM X "str.partition" zr7:=by
 intro pins s σ H v vs v' us Q I rx rv h
 obtain ⟨x,y,rfl,rfl,hy,hx,q⟩:=h
 obtain ⟨t,rfl⟩:=rx
 obtain ⟨w,rfl,rw'⟩:=rv.one
 obtain ⟨u,rfl⟩:=rw'
 have hy0:(y.length == 0)=false:=by simp [hy]
 have key:∀(its:List Value) (k:Nat),Vals [.str (Txt.partition x y).1,.str (Txt.partition x y).2.1,.str (Txt.partition x y).2.2] its->EP X pins σ Q (.ref s.heap.objs.size) { s with heap:=s.heap.push { cls:=.type "tuple",data:=.seq its.toArray },toks:=k }:=λits k hv =>
  ⟨.ref s.heap.objs.size,_,I.laid (λb o e=>qps _ e) (qlr _) (show ObjOk X.prog X.w _ _ _ (.tup _) from ⟨(by show 3<=sizeLine;decide),its,hv,IsTD.new _ _⟩),rfl,q _ I.fresh⟩
 refine call_meets F.slot_str_partition (typeIs_str _ _ _) F.entry_str_partition (F.args_str_partition_2 _ _) (meets_str_partition x y t u hy0 hx) ?_
 unfold Txt.partition at key
 revert key
 cases occurrences x y 0 x.length 1 with
 | nil=>intro key;exact key _ _ (.cons ⟨_,rfl⟩ (.cons ⟨_,rfl⟩ (.cons ⟨_,rfl⟩ .nil)))
 | cons i r=>intro key;exact key _ _ (.cons ⟨_,rfl⟩ (.cons ⟨_,rfl⟩ (.cons ⟨_,rfl⟩ .nil)))
theorem yct {K:QFg}:Mt3 K zdx zr6:=by
 intro ρ S H x x' xs vs v S' Q sim rx r h p
 unfold zdx at h
 split at h
 ·obtain ⟨hz,e⟩:=zdl h
  cases e
  obtain ⟨w,rfl,rw'⟩:=r.one
  cases rw';cases rx
  exact ⟨_,_,rfl,rfl,hz.1,hz.2,zh4 sim (zrr _) p⟩
 ·cases h
theorem ycu {K:QFg}:Mt3 K zhq zr7:=by
 intro ρ S H x x' xs vs v S' Q sim rx r h p
 unfold zhq at h
 split at h
 ·obtain ⟨hz,e⟩:=zdl h
  cases e
  obtain ⟨w,rfl,rw'⟩:=r.one
  cases rw';cases rx
  exact ⟨_,_,rfl,rfl,hz.1,hz.2,zil sim (.cons (.str _) (.cons (.str _) (.cons (.str _) .nil))) p⟩
 ·cases h
variable {o e:Expr}{mo m:EM}{apos cpos:Pos}{name:Str}{id:String}{f:D->List D->Sto->Option (D × Sto)}{r:V->List V->Hp->VK->Prop}
theorem zr9 (slot:Slot "str" name id) (hty:typeOf (.builtin id)=pure (.type "method_descriptor")) (hm:MtM X id r) (h3:Mt3 X.K f r) (ho:PE3 X o mo) (he:PE3 X e m)
  (hbase:attributeBase o name X.env (eval o X.env)=eval o X.env)
  (hfew:((backTo cpos (starEach [e] X.env)).all (λx=>!x.1) && (backToKw cpos (keywordEach [] X.env)).all (λx=>x.1.isSome)
   && decide ([e].length+([]:List Keyword).length+(if ([]:List Keyword).isEmpty then 0 else 1)<30))=true)
  (hline:(apos.endLine == cpos.line)=true) (hs:starEach [e] X.env=(false,eval e X.env) :: starEach [] X.env) :
  PE3 X (.Call (.Attribute o name apos) [e] [] cpos) (zc7 f mo (zaa m zab)) :=
 PE.imp (zmx PySem.F.plainAttrs_str slot hty hm ho (zae he zaf hs) hbase hfew hline hs rfl) λσ H Q hx3_=>by
  obtain ⟨ρ,l,S,v,S',sim,ro,hq,p⟩:=hx3_
  obtain ⟨⟨x,S1⟩,h1,hq⟩:=bnd hq
  obtain ⟨_,h2,hq⟩:=bnd hq
  obtain ⟨⟨ys,S2⟩,h4,hq⟩:=bnd hq
  refine ⟨ρ,l,S,x,S1,sim,ro,h1,λρ1 H1 x' e1 s1 r1=>⟨?_,ρ1,l,S1,ys,S2,s1,ro.mono e1,h4,λρ2 H2 vs e2 s2 r2=>h3 ρ2 S2 H2 x x' ys vs v S' Q s2 (r1.mono e2) r2 hq (p.ext (e1.trans e2))⟩⟩
  cases r1 with
  | str z=>exact rfl
  | _=>cases h2
theorem zf5 (ho:PE3 X o mo) (he:PE3 X e m) (hbase:attributeBase o "split" X.env (eval o X.env)=eval o X.env:=by rfl)
  (hfew:((backTo cpos (starEach [e] X.env)).all (λx=>!x.1) && (backToKw cpos (keywordEach [] X.env)).all (λx=>x.1.isSome)
   && decide ([e].length+([]:List Keyword).length+(if ([]:List Keyword).isEmpty then 0 else 1)<30))=true:=by rfl)
  (hline:(apos.endLine == cpos.line)=true:=by rfl) (hs:starEach [e] X.env=(false,eval e X.env) :: starEach [] X.env:=by rfl) :
  PE3 X (.Call (.Attribute o "split" apos) [e] [] cpos) (zc7 zdx mo (zaa m zab)):=zr9 F.slot_str_split F.type_str_split ycr yct ho he hbase hfew hline hs
theorem zsa (ho:PE3 X o mo) (he:PE3 X e m) (hbase:attributeBase o "partition" X.env (eval o X.env)=eval o X.env:=by rfl)
  (hfew:((backTo cpos (starEach [e] X.env)).all (λx=>!x.1) && (backToKw cpos (keywordEach [] X.env)).all (λx=>x.1.isSome)
   && decide ([e].length+([]:List Keyword).length+(if ([]:List Keyword).isEmpty then 0 else 1)<30))=true:=by rfl)
  (hline:(apos.endLine == cpos.line)=true:=by rfl) (hs:starEach [e] X.env=(false,eval e X.env) :: starEach [] X.env:=by rfl) :
  PE3 X (.Call (.Attribute o "partition" apos) [e] [] cpos) (zc7 zhq mo (zaa m zab)):=zr9 F.slot_str_partition F.type_str_partition ycs ycu ho he hbase hfew hline hs
end
section
variable {X:Cx}{o:Expr}{mo:EM}{apos cpos:Pos}
end
section
variable {prog:Program}{w:World}{A:Around}{E:Value->Shared->Prop}
end
section
variable {X:Cx}
variable {o e:Expr}{mo m:EM}{apos cpos:Pos}
end
section
variable {prog:Program}{w:World}{A:Around}{E:Value->Shared->Prop}{s:Shared}
noncomputable abbrev dis (ns:List Int) (n:Nat):List Int:=firstMet (λi=>ns.getD i 0) n
end
section
variable {X:Cx}{K:QFg}{a:Expr}{es:List Expr}{mA:AM}{pos p:Pos}{k:Nat}
end
end L3
namespace SP
open PySem PySem.W PyProof.Rows PySem.Calls
section
variable {prog:Program}{w:World}{A:Around}{E:Value->Shared->Prop}{s:Shared}
end
end SP
namespace L3
open PySem PySem.Spec PyProof.Rows L2
section
variable {X:Cx}{K:QFg}{a:Expr}{es:List Expr}{mA:AM}{pos p:Pos}
end
section
variable {X:Cx}{a b:Expr}{ma mb:EM}{pos:Pos}
end
open PySem.W
section
variable {X:Cx}{pos:Pos}
end
section
variable {X:Cx}{E:XK}{CA:Str->Addr}{tgt iter:Expr}{body:List Stmt}{g:GM}{b:SM}{rb:ZM}{m:EM}{pos:Pos}
end
def rSetL:List V->Hp->VK->Prop:=λxs H Q=>∃(a:Addr) (ns:List Int),xs=[.ref a]/\H a=some (.lst (ns.map V.int))/\ns.length+1<scanBound/\∀l,H l=none->Q (.ref l) (upd H l (.set (λk=>(dis ns ns.length).any (· == k)) (dis ns ns.length).length))
section
variable {X:Cx}{K:QFg}{a:Expr}{es:List Expr}{mA:AM}{pos p:Pos}{k:Nat}
end
section
variable {X:Cx}{K:QFg}{a:Expr}{es:List Expr}{mA:AM}{pos p:Pos}
end
def FlyM (h:Heap) (e C T:Addr) (m:Value):Prop:=∃oe vs oT ts a0,h.get? e=some oe/\oe.cls=.ref C/\oe.data=.fields vs/\vs[0]? = some a0/\vs[1]? = some (.ref T)/\T≠e/\h.get? T=some oT/\oT.data=.fields ts/\ts[3]? = some m
theorem FlyM.keep {h h':Heap}{e C T b:Addr}{m:Value}(f:FlyM h e C T m) (k:∀x o,x≠b->h.get? x=some o->h'.get? x=some o) (hb:∀o vs,h.get? b=some o->o.data≠.fields vs):FlyM h' e C T m:=by
 obtain ⟨oe,vs,oT,ts,a0,he,hc,hd,h0,h1,hTe,hT,hdT,h3⟩:=f
 exact ⟨oe,vs,oT,ts,a0,k e oe (λz=>hb oe vs (by rw [<-z];exact he) hd) he,hc,hd,h0,h1,hTe,k T oT (λz=>hb oT ts (by rw [<-z];exact hT) hdT) hT,hdT,h3⟩
section
variable {M:Model}{A:Around}{E:Value->Shared->Prop}{s:Shared}{base:Heap}{env:Env}{outer:List Env}{L e C T:Addr}{m:Value}{Q:Unit->Shared->Prop}
theorem zsb {fr:Option Addr}(fl:FlyM s.heap e C T m) (hQ:∀h',(∀b,b≠T->h'.get? b=s.heap.get? b)->FlyM h' e C T (fr.elim .none λf=>rawInt f)->Q () { s with heap:=h' }):wpAny M A (setFlight (.ref e) fr) Q E s:=by
 obtain ⟨oe,vs,oT,ts,a0,he,hc,hd,h0,h1,hTe,hT,hdT,h3⟩:=fl
 have z3:3<ts.size:=(Array.getElem?_eq_some_iff.mp h3).1
 unfold setFlight
 refine qwb (wpAny_field he hd h1 (if_pos (c:=(Value.ref T != Value.none)=true) (by simp) ▸ wpAny_setField hT hdT z3 (hQ _ (λb hb=>Heap.get?_update_other _ _ (Ne.symm hb)) ?_)))
 exact ⟨oe,vs,_,_,a0,by rw [Heap.get?_update_other _ _ hTe];exact he,hc,hd,h0,h1,hTe,Heap.get?_update_self _ hT (Obj.isFreed_of_fields (Obj.data_mapFields hdT _)),Obj.data_mapFields hdT _,by simp [z3]⟩
theorem zsc (hfr:A.frames=some (env :: outer)) (hl:s.heap.FunFrames base (env :: outer)) (hf:env.frame=some L) (fl:FlyM s.heap e C T m)
  (hQ:∀h' T',Tr (frs (env :: outer)) e T s.heap h'->FlyM h' e C T' (rawInt L)->(T' = T\/s.heap.get? T' = none)->Q () { s with heap:=h' }):wpAny M A (noteFrame (.ref e) env) Q E s:=by
 have fl0:=fl
 obtain ⟨oe,vs,oT,ts,a0,he,hc,hd,h0,h1,hTe,hT,hdT,h3⟩:=fl
 unfold noteFrame
 rw [hf]
 refine qwb (wpAny_field he hd h1 ?_)
 rw [if_pos (c:=(Value.ref T != Value.none)=true) (by simp)]
 refine qwb (wpAny_field hT hdT h3 ?_)
 by_cases hm:m=rawInt L
 ·rw [if_pos (by rw [hm];simp)]
  exact qwp (hQ s.heap T ⟨λ_ _ _ _ _ q=>q,λb o _ q _=>⟨o.slots,q⟩⟩ (by rw [<-hm];exact fl0) (.inl rfl))
 ·rw [if_neg (by simpa using hm)]
  have z3:3<ts.size:=(Array.getElem?_eq_some_iff.mp h3).1
  refine qwb (wpAny_setField hT hdT z3 ?_)
  have other:∀b,b≠T->(s.heap.update T (Obj.mapFields (·.setIfInBounds 3 .none))).get? b=s.heap.get? b:=λb hb=>Heap.get?_update_other _ _ (Ne.symm hb)
  have nof:∀b o,s.heap.get? b=some o->(∀ws,o.data≠.fields ws)->b≠T:=λb o hb hn q=>by
   rw [q,hT] at hb;cases hb;exact hn ts hdT
  have hl':=funFrames_hide (as:=e :: T :: frs (env :: outer)) hl λv hv a ha=>List.mem_cons_of_mem _ (List.mem_cons_of_mem _ (zln v hv a ha))
  refine wpAny_entryW (base:=hideAll s.heap (e :: T :: frs (env :: outer))) hfr (hl'.of_keeps λb o hb hn=>⟨o,(other b (nof b o hb hn)).trans hb,rfl⟩) hf ((other e (Ne.symm hTe)).trans he) (λb o q=>?_) (hideAll_none _ (by simp)) hd (Array.getElem?_eq_some_iff.mp h1).1 h0 λh' hN=>?_
  ·have hbT:b≠T:=λz=>by rw [z,hideAll_none _ (by simp)] at q;cases q
   rw [other b hbT];exact of_hideAll _ q
  ·obtain ⟨k1,k2,⟨oe',vs',T',oT',ts',e1,⟨c1,z1⟩,d1,f1,n1,ne1,g1,d1',t1⟩,k4⟩:=hN
   have k5:∀b o,s.heap.get? b=some o->(∀ws,o.data≠.fields ws)->∃sl,h'.get? b=some { o with slots:=sl }:=λb o q hn=>k4 b o ((other b (nof b o q hn)).trans q) hn
   refine hQ h' T' ⟨λb o hb h2 h3 q=>k1 b o (hideAll_get _ q (by simp only [List.mem_cons,not_or];exact ⟨h2,h3,hb⟩)),λb o _ q hn=>k5 b o q hn⟩ ⟨oe',vs',oT',ts',a0,e1,c1.trans hc,d1,z1,f1,ne1,g1,d1',t1⟩ ?_
   cases q:s.heap.get? T' with
   | none=>exact .inr rfl
   | some o =>
    refine .inl (Classical.byContradiction λhTT=>?_)
    by_cases hmm:T'∈e :: T :: frs (env :: outer)
    ·simp only [List.mem_cons] at hmm
     rcases hmm with z|z|z
     ·exact ne1 z
     ·exact hTT z
     ·obtain ⟨_,o2,ho2,hnf⟩:=hl.mem z
      rw [q] at ho2;cases ho2
      obtain ⟨sl,hs⟩:=k5 T' o q hnf
      rw [g1] at hs;cases hs
      exact hnf ts' d1'
    ·rw [hideAll_get _ q hmm] at n1;cases n1
theorem ycv (hfr:A.frames=some (env :: outer)) (hl:s.heap.FunFrames base (env :: outer)) (hf:env.frame=some L) (fl:FlyM s.heap e C T m)
  (hQ:∀h' T',Tr (frs (env :: outer)) e T s.heap h'->Fly h' e C T'->(T' = T\/s.heap.get? T' = none)->Q () { s with heap:=h' }):wpAny M A (leaving env (.ref e)) Q E s:=by
 have fl0:=fl
 obtain ⟨_,_,oT,ts,_,_,_,_,_,_,_,hT,hdT,_⟩:=fl0
 refine qwb (zsc hfr hl hf fl λh1 T1 tr f1 hT1=>zsb (s:={ s with heap:=h1 }) f1 λh2 k f2=>hQ h2 T1 ⟨λb o hb he hT' q=>?_,λb o hb q hn=>?_⟩ f2 hT1)
 ·rw [k b ?_]
  ·exact tr.keep b o hb he hT' q
  ·rcases hT1 with z|z
   ·rw [z];exact hT'
   ·rintro rfl;rw [z] at q;cases q
 ·rw [k b ?_]
  ·exact tr.slot b o hb q hn
  ·rintro rfl
   rcases hT1 with z|z
   ·rw [z,hT] at q;cases q;exact hn ts hdT
   ·rw [z] at q;cases q
end
structure XF (X:Cx) (E:XK):Prop where
 stk:∃e0 out L,X.stack=e0 :: out/\e0.frame=some L/\X.env.frame=some L
 fly:∀(pins:List (Addr × Obj)) (σ:L2.St) (H:Hp) (s:Shared) (a C T:Addr) (m:Value),Inv X pins σ H s->(∀o,X.s₀.heap.get? a=some o->a∈X.ex)->(∀o,X.s₀.heap.get? T=some o->T∈X.ex)->H a=none->H T=none->FlyM s.heap a C T m->E (.ref C) none H->X.xe (.ref a) s
section
variable {P:Program}{w:World}{K:QFg}{mg:Str->Option Value}{base:Heap}{N:List Str}{qual:Str}{scope:Scope}{f:Addr}{cd:Value}{A:Around}{outer:List Env}{s:Shared}{H:Hp}{E:XK}
theorem zsd {h:Heap}{a:Addr}(z:∀o,h.get? a=some o->a∈([]:List Addr)):h.get? a=none:=by
 cases q:h.get? a with
 | none=>rfl
 | some o=>cases z o q
theorem zse:XF (zdp (CX1 P w) P w K mg base N qual scope f cd A outer s H E) E where
 stk:=⟨_,_,s.heap.objs.size,rfl,rfl,rfl⟩
 fly:=λpins σ H1 s1 a C T m I na nT ha hT fl hE=>ycv (L:=s.heap.objs.size) I.ok.frames I.stack rfl fl λh' T' tr fl' hT'=>znl I (zsd na) (zsd nT) ha hT hE tr fl' hT'
end
theorem XF.passes {X:Cx}{E:XK}(F:XF X E):zh0 (CX1 X.prog X.w) X E:=by
 rintro pins σ H1 s1 e s2 I ⟨a,C,T,H',rfl,ho,hg,un,hok,na,nT,fl,ha,hT,hE⟩
 have I2:=I.call' (s':=s2) (ch:=[]) ho un hok hg (λb hb=>by cases hb)
 have up:∀b,s1.heap.get? b=none->∀o,X.s₀.heap.get? b=some o->b∈X.ex:=λb q o z=>Classical.byContradiction λhx=>by
  obtain ⟨o',e⟩:=I.base.there b o z hx;rw [q] at e;cases e
 exact F.fly pins σ H' s2 a C T .none I2 (up a na) (up T nT) ha hT fl hE
def xeB (X:Cx) (scope:Scope) (C:Addr):Value->Shared->Prop :=
 notedBy (model X.prog X.w) X.A (compEnvC scope (zeq X.env scope.names []) C X.env) λx s''=>∃m,s''.heap.Ns C m/\∀h',Heap.SameBut C s''.heap h'->∀cenv:Env,cenv.locals=C->wpAny (model X.prog X.w) X.A (PySem.passOn "comprehension.variables-let-go" x cenv:Sem Value) (λ_ _=>False) X.xe { s'' with heap:=h' }
noncomputable abbrev cxZ (X:Cx) (N':List Str) (scope:Scope) (C:Addr) (s:Shared) (H:Hp) (fp:List Addr) (pins:List (Addr × Obj)):Cx:=(cxC X N' scope C s H fp pins).wish (xeB X scope C)
theorem zsf {X:Cx}{E:XK}{N':List Str}{scope:Scope}{fp:List Addr}{pins:List (Addr × Obj)}{σ:L2.St}{H3:Hp}{s3:Shared}(F:XF X E) (I3:Inv X pins σ H3 s3) (f3:∀b∈fp,zfu X pins H3 b):XF (cxZ X N' scope s3.heap.objs.size s3 H3 fp pins) E:=by
 obtain ⟨e0,out,L,hs,h0,hL⟩:=F.stk
 refine ⟨⟨e0,out,L,hs,h0,hL⟩,λpins5 σ5 H5 s5 a C T m I na nT ha hT fl hE=>?_⟩
 have na:∀o,s3.heap.get? a=some o->a∈fp:=na
 have nT:∀o,s3.heap.get? T=some o->T∈fp:=nT
 have hfr:X.A.frames=some (e0 :: out):=by rw [<-hs];exact I3.ok.frames
 have hst:s5.heap.FunFrames X.base (e0 :: out):=by have z:s5.heap.FunFrames X.base X.stack:=I.stack;rw [hs] at z;exact z
 have hcf:(compEnvC scope (zeq X.env scope.names []) s3.heap.objs.size X.env).frame=some L:=hL
 have e1:noteFrame (.ref a) (compEnvC scope (zeq X.env scope.names []) s3.heap.objs.size X.env)=noteFrame (.ref a) e0:=by
  unfold noteFrame PySem.frameOf
  rw [hcf,h0]
 show wpAny _ _ (noteFrame _ _) _ _ _
 rw [e1]
 have fl5:=fl
 obtain ⟨oe,vs,oT,ts,a0,he5,_,hd5,_,_,_,hT5,hdT5,_⟩:=fl5
 obtain ⟨mC,hnC,_⟩:=I.loc
 have hnC:s5.heap.Ns s3.heap.objs.size mC:=hnC
 have base:Un (frs X.stack) fp H3 H5 s3.heap s5.heap:=I.base
 have hC5:H5 s3.heap.objs.size=none:=I.free
 have stkF:∀b∈frs X.stack,H5 b=none:=λb hb=>I.stkFree b hb
 have hok5:HOk X.prog X.w H5 s5.heap:=I.hok
 have os5:s5.os=s3.os:=I.os
 obtain ⟨oC,es,ep,hoC,hdC,rC⟩:=hnC
 have hCa:s3.heap.objs.size≠a:=λz=>by rw [z,he5] at hoC;cases hoC;rw [hd5] at hdC;cases hdC
 have hCT:s3.heap.objs.size≠T:=λz=>by rw [z,hT5] at hoC;cases hoC;rw [hdT5] at hdC;cases hdC
 have lt3:∀b o,s3.heap.get? b=some o->b≠s3.heap.objs.size:=λb o q=>Nat.ne_of_lt (Heap.lt_size q)
 have frO:∀b,b∈frs X.stack->b≠s3.heap.objs.size/\∃o,s5.heap.get? b=some o/\∀ws,o.data≠.fields ws:=λb hb=>by
  obtain ⟨_,o,ho,_⟩:=I3.stack.mem hb
  obtain ⟨_,o2,ho2,hn2⟩:=hst.mem (by rw [hs] at hb;exact hb)
  exact ⟨lt3 b o ho,o2,ho2,hn2⟩
 rw [<-hs] at hfr hst
 refine zsc (outer:=out) (by rw [hfr,hs]) (by rw [hs] at hst;exact hst) h0 fl λh1 T1 tr f1 hT1=>?_
 rw [<-hs] at tr
 have c1:h1.get? s3.heap.objs.size=some oC:=tr.keep _ oC (λz=>(frO _ z).1 rfl) hCa hCT hoC
 refine ⟨mC,⟨oC,es,ep,c1,hdC,rC⟩,λh' sb cenv _=>?_⟩
 have f2:FlyM h' a C T1 (rawInt L):=f1.keep (b:=s3.heap.objs.size) (λx o hx q=>sb.extBut x o hx q) λo ws q z=>by rw [c1] at q;cases q;rw [hdC] at z;cases z
 have f2':=f2
 obtain ⟨oe',vs',_,_,_,he',_,hd',_,h1',_⟩:=f2'
 unfold PySem.passOn
 refine qwb (wpAny_field (s:={ s5 with heap:=h' }) he' hd' h1' ?_)
 rw [if_neg (by simp)]
 have fin:wpAny (model X.prog X.w) X.A (do setFlight (.ref a) cenv.frame;throw (.ref a):Sem Value) (λ_ _=>False) X.xe { s5 with heap:=h' }:=by
  refine qwb (zsb (s:={ s5 with heap:=h' }) f2 λh2 k2 f3'=>wpAny_throw ?_)
  have ne1:∀b o,s5.heap.get? b=some o->b≠T->b≠T1:=λb o q hb z=>by
   rcases hT1 with y|y
   ·exact hb (z.trans y)
   ·rw [<-z,q] at y;cases y
  have keep:∀b o,b ∉ frs X.stack->b≠a->b≠T->b≠s3.heap.objs.size->s5.heap.get? b=some o->h2.get? b=some o:=λb o x1 x2 x3 x4 q=>by
   rw [k2 b (ne1 b o q x3)]
   exact sb.extBut b o x4 (tr.keep b o x1 x2 x3 q)
  have slot:∀b o,b∈frs X.stack->s5.heap.get? b=some o->∃sl,h2.get? b=some { o with slots:=sl }:=λb o hb q=>by
   obtain ⟨x1,o2,ho2,hn2⟩:=frO b hb
   rw [q] at ho2;cases ho2
   obtain ⟨sl,e⟩:=tr.slot b o hb q hn2
   refine ⟨sl,?_⟩
   rw [k2 b (ne1 b o q λz=>by rw [z,hT5] at q;cases q;exact hn2 ts hdT5)]
   exact sb.extBut b _ x1 e
  have un:Un (frs X.stack) fp H3 H5 s3.heap h2:=by
   refine ⟨λb o q n hb hx=>?_,λb o q n hb hx=>?_,base.free,λb o q hx=>?_,base.tups,base.frzs,base.tbls⟩
   ·exact keep b o hb (λz=>hx (by rw [z] at q ⊢;exact na o q)) (λz=>hx (by rw [z] at q ⊢;exact nT o q)) (lt3 b o q) (base.keep b o q n hb hx)
   ·obtain ⟨sl,e⟩:=base.slot b o q n hb hx
    obtain ⟨sl',e'⟩:=slot b _ hb e
    exact ⟨sl',e'⟩
   ·obtain ⟨o',e⟩:=base.there b o q hx
    by_cases hb:b∈frs X.stack
    ·obtain ⟨sl,e'⟩:=slot b o' hb e
     exact ⟨_,e'⟩
    ·exact ⟨o',keep b o' hb (λz=>hx (by rw [z] at q ⊢;exact na o q)) (λz=>hx (by rw [z] at q ⊢;exact nT o q)) (lt3 b o q) e⟩
  have hok2:HOk X.prog X.w H5 h2:=λb u e=>(hok5 b u e).stay (λc v hc q=>by
   have hcn:H5 c≠none:=by
    rcases hc with z|z
    ·rw [z,e];intro y;cases y
    ·rw [z];intro y;cases y
   exact keep c v (λz=>hcn (stkF c z)) (λz=>hcn (by rw [z];exact ha)) (λz=>hcn (by rw [z];exact hT)) (λz=>hcn (by rw [z];exact hC5)) q) (λ_ q=>q) λ_ _ q=>q
  have IX:Inv X pins σ H5 { s5 with heap:=h2 }:=I3.call' (s':={ s5 with heap:=h2 }) (ch:=fp) os5 un hok2 I.bare λb hb=>⟨(f3 b hb).2.2.2.1,(f3 b hb).2.1,(f3 b hb).2.2.2.2.1,(f3 b hb).2.2.2.2.2⟩
  have up:∀b,(∀o,s3.heap.get? b=some o->b∈fp)->∀o,X.s₀.heap.get? b=some o->b∈X.ex:=λb q o z=>Classical.byContradiction λhx=>by
   obtain ⟨o',e⟩:=I3.base.there b o z hx
   rcases (f3 b (q o' e)).2.2.2.1 with y|y
   ·exact hx y
   ·exact absurd (Heap.lt_size z) (Nat.not_lt.mpr y)
  have nT1:∀o,s3.heap.get? T1=some o->T1∈fp:=λo q=>Classical.byContradiction λhx=>by
   obtain ⟨o',e⟩:=base.there T1 o q hx
   rcases hT1 with y|y
   ·rw [y] at q hx;exact hx (nT o q)
   ·rw [y] at e;cases e
  have hT1':H5 T1=none:=by
   rcases hT1 with y|y
   ·rw [y];exact hT
   ·cases z:H5 T1 with
    | none=>rfl
    | some u=>obtain ⟨o',e⟩:=ObjOk.there (hok5 T1 u z);rw [y] at e;cases e
  exact F.fly pins σ H5 _ a C T1 _ IX (up a na) (up T1 nT1) ha hT1' f3' hE
 first
  | exact qwb (qwp fin)
  | exact fin
section
variable {X:Cx}{E:XK}{CA:Str->Addr}{N':List Str}{elt iter tgt:Expr}{ifs:List Expr}{scope:Scope}{pos:Pos}
theorem ycw {wi:TI}{src:L2.St->L2.St}{g:TG}{tts:TT}{t:TE}(F:XF X E) (hcalm:X.calm=true) (sc:CompSc X N' scope src) (hi:PI X tgt iter wi) (hg:∀C s H fp pins,PG (cxZ X N' scope C s H fp pins) tgt g) (ht:∀C s H fp pins,PTs (cxZ X N' scope C s H fp pins) ifs tts)
  (he:∀C s H fp pins,XF (cxZ X N' scope C s H fp pins) E->PE (cxZ X N' scope C s H fp pins) elt t) (hs:∀x,foldedSetIterable iter X.env x=pure x):PE X (.ListComp elt [⟨tgt,iter,ifs,0⟩] scope pos) (zh7 X.K wi src g tts t):=by
 intro pins s σ H Q I h
 rw [eval_ListComp]
 refine zlf (xb:=xeB X scope) (B:=λC s H fp pins=>XF (cxZ X N' scope C s H fp pins) E) (use:=none) hcalm sc hi hg ht he (λ_ _ _ _ z=>z) (λ_ _ _ I3 f3=>zsf F I3 f3) hs I h λD H5 s6 C mC IX fp hn q=>⟨mC,hn,λh'' sb=>⟨.ref D,H5,?_,rfl,q⟩⟩
 exact IX.turned (t':=s6.toks) (λb o hb e=>sb.extBut b o hb e) fp.1 fp.2.1 fp.2.2.2.1 fp.2.2.2.2.1 fp.2.2.2.2.2
end
noncomputable def zex (it:ItM) (g:GM) (t:TM) (e:EM) (r:ZM):Nat->Nat->ZM
 | 0,_=>λ_ _=>none
 | m+1,i=>λl S=>(it i S).bind λo=>match o with
  | none=>none
  | some x=>(g x l S).bind λq=>(t q.1 q.2).bind λb=>if b.1=true then (r q.1 b.2).or ((e q.1 b.2).bind λv=>zex it g t e r m (i+1) q.1 v.2) else zex it g t e r m (i+1) q.1 b.2
noncomputable def ze6 (im:IM) (ixs:List (Option Nat)) (g:GM) (t:TM) (e:EM) (r:ZM):ZM:=λl S=>(im l S).bind λp=>if p.2.1<=sizeLine then zex p.1 g t e r p.2.1 0 (zbp ixs l) p.2.2 else none
theorem zsg {K:QFg}{E:XK}{CA:Str->Addr}{im:IM}{ixs:List (Option Nat)}{g:GM}{t:TM}{e:EM}{r:ZM}(σ:L2.St) (H:Hp) (Q:VK) (q:Rz K E CA (ze6 im ixs g t e r) σ H):zh7 K (ti K im) (zbp ixs) (tg K g) (tt K t) (λσ H Q=>te K e σ H Q\/Rz K E CA r σ H) σ H Q:=by
 obtain ⟨ρ,l,S,C,S',sim,ro,hm,p⟩:=q
 obtain ⟨⟨it,k,S1⟩,q1,hm⟩:=bnd hm
 obtain ⟨hz,hm⟩:=zrk hm
 refine ⟨ρ,l,S,it,k,S1,sim,ro,q1,λρ1 H1 J e1 s1 io D hD hK=>⟨λi m σ' H'=>∃ρ' l' S2 vs,Ext ρ1 H1 ρ' H'/\Sim K ρ' S2 H'/\RO ρ' H' l' σ'/\H' D=some (.lst vs)/\(∀n:Nat,ρ'[n]?≠some D)/\zex it g t e r m i l' S2=some (C,S')/\vs.length+m<=sizeLine,⟨k,ρ1,zbp ixs l,S1,[],zfl hD,s1.laid hD,(zq0 ixs (ro.mono e1)).mono (zfl hD),zfj,s1.notin hD hK,hm,by simpa using hz⟩,?_⟩⟩
 rintro i m σ' H' ⟨ρ',l',S2,vs,e2,s2,ro2,hD2,hn2,hc,hl⟩
 cases m with
 | zero=>cases hc
 | succ m =>
  unfold zex at hc
  obtain ⟨o,ho,hc⟩:=bnd hc
  obtain ⟨iStop,iGo⟩:=io i ρ' S2 H' e2 s2
  cases o with
  | none=>cases hc
  | some x =>
   obtain ⟨⟨l3,S3⟩,q3,hc⟩:=bnd hc
   obtain ⟨⟨b,S4⟩,q4,hc⟩:=bnd hc
   obtain ⟨hgo,hy⟩:=iGo x ho
   refine .inr ⟨hgo,_,λσ' H' h=>h,λy H'' hyl=>?_⟩
   obtain ⟨rfl,ry⟩:=hy y H'' hyl
   refine ⟨ρ',l',S2,x,l3,S3,s2,ro2,ry,q3,λρ3 H3 σ3 e3 s3 ro3=>⟨ρ3,l3,S3,b,S4,s3,ro3,q4,λρ4 H4 e4 s4=>?_⟩⟩
   obtain ⟨hD3,hn3⟩:=e3.out D _ hD2 hn2
   obtain ⟨hD4,hn4⟩:=e4.out D _ hD3 hn3
   cases b with
   | false=>exact zgc ⟨m,Nat.lt_succ_self m,ρ4,l3,S4,vs,e2.trans (e3.trans e4),s4,ro3.mono e4,hD4,hn4,hc,by omega⟩
   | true =>
    have hc:((r l3 S4).or ((e l3 S4).bind λv=>zex it g t e r m (i+1) l3 v.2))=some (C,S'):=hc
    cases er:r l3 S4 with
    | some z =>
     rw [er] at hc;cases hc
     exact zfw (.inr ⟨ρ4,l3,S4,C,S',s4,ro3.mono e4,er,λρ5 H5 e5 s5=>p ρ5 H5 (e1.trans (e2.trans (e3.trans (e4.trans e5)))) s5⟩)
    | none =>
     rw [er] at hc
     obtain ⟨⟨y5,S5⟩,q5,hc⟩:=bnd (show ((e l3 S4).bind λv=>zex it g t e r m (i+1) l3 v.2)=some (C,S') from hc)
     refine zfw (.inl ⟨ρ4,l3,S4,y5,S5,s4,ro3.mono e4,q5,λρ5 H5 v5 e5 s5 r5=>?_⟩)
     obtain ⟨hD5,hn5⟩:=e5.out D _ hD4 hn4
     refine ⟨vs,hD5,by omega,m,Nat.lt_succ_self m,ρ5,l3,S5,vs++[v5],(e2.trans (e3.trans (e4.trans e5))).beside hD hD5,s5.beside hD5 hn5,?_,zfj,hn5,hc,by simp;omega⟩
     have r0:=(ro3.mono e4).mono e5
     exact ⟨r0.len,λi d h=>let ⟨w,h1,h2⟩:=r0.get i d h;⟨w,h1,h2.mono0 (zjf hD5)⟩⟩
section
variable {X:Cx}{E:XK}{CA:Str->Addr}{r q:ZM}{mc:TM}{pos:Pos}
theorem zsh {N':List Str}{elt iter tgt:Expr}{ifs:List Expr}{scope:Scope}{im:IM}{ixs:List (Option Nat)}{g:GM}{t:TM}{e:EM}(F:XF X E) (hcalm:X.calm=true) (sc:CompSc X N' scope (zbp ixs)) (hi:PI3 X tgt iter im)
  (hg:∀C s H fp pins,PG3 (cxZ X N' scope C s H fp pins) tgt g) (ht:∀C s H fp pins,PTs (cxZ X N' scope C s H fp pins) ifs (tt X.K t)) (he:∀C s H fp pins,PE3 (cxZ X N' scope C s H fp pins) elt e) (hz:∀C s H fp pins,XF (cxZ X N' scope C s H fp pins) E->PEz (cxZ X N' scope C s H fp pins) E CA elt r)
  (hs:∀x,foldedSetIterable iter X.env x=pure x:=by intro _;rfl):PEz X E CA (.ListComp elt [⟨tgt,iter,ifs,0⟩] scope pos) (ze6 im ixs g t e r):=λpins s σ H Q I h =>
 ycw (g:=tg X.K g) (tts:=tt X.K t) (t:=λσ H Q=>te X.K e σ H Q\/Rz X.K E CA r σ H) F hcalm sc hi hg ht (λC s H fp pins xf pins' s' σ' H' Q' I' h'=>h'.elim (he C s H fp pins pins' s' σ' H' Q' I') (hz C s H fp pins xf pins' s' σ' H' Q' I')) hs pins s σ H Q I (zsg σ H Q h)
theorem ycx {c a d:Expr}(hc:PT3 X c mc) (ha:PEz X E CA a r) (hb:PEz X E CA d q):PEz X E CA (.IfExp c a d pos) (zIf mc r q):=λpins s σ H Q I ⟨ρ,l,S,C,S',sim,ro,hm,p⟩=>zo6 hc ha hb pins s σ H Q I (by
 obtain ⟨⟨x,S1⟩,q1,hm⟩:=bnd hm
 refine ⟨ρ,l,S,x,S1,sim,ro,q1,λρ1 H1 e1 s1=>?_⟩
 cases x with
 | true=>exact zfw ⟨ρ1,l,S1,C,S',s1,ro.mono e1,hm,λρ2 H2 e2 s2=>p ρ2 H2 (e1.trans e2) s2⟩
 | false=>exact zgc ⟨ρ1,l,S1,C,S',s1,ro.mono e1,hm,λρ2 H2 e2 s2=>p ρ2 H2 (e1.trans e2) s2⟩)
theorem zsi {a:Expr}{es:List Expr}{p:Pos}(hg:Gl X "tuple") (hm:X.mg "tuple" = none) (ha:PAz X E CA (a :: es) r) (he:starEach (a :: es) X.env=(false,eval a X.env) :: starEach es X.env:=by rfl) (hpl:(backTo pos (starEach es X.env)).any (·.1)=false:=by rfl):PEz X E CA (.Call (.Name "tuple" p) (a :: es) [] pos) r :=
 λpins s σ H Q I q=>zpy zp8 hg hm ziq ha (by decide) (by decide) he hpl pins s σ H Q I q
end
def TZ (X:Cx) (E:XK) (CA:Str->Addr) (sts:List Stmt) (r:ZM):Prop:=∀(pins:List (Addr × Obj)) (s:Shared) (σ:L2.St) (H:Hp),Inv X pins σ H s->Rz X.K E CA r σ H ->
 wpAny (model X.prog X.w) X.A (execs sts X.env) (λ_ _=>False) (λe s'=>∃H1 s1,Inv X pins σ H1 s1/\CX1 X.prog X.w X.stack H1 s1 E e s') s
section
variable {X:Cx}{E:XK}{CA:Str->Addr}{a:Expr}{es:List Expr}{mA:AM}{cpos p apos py tpos:Pos}{x y:Str}{k j n:Nat}{rx:ZF}{r q:ZM}
theorem znq (F:zdg X.prog X.w X.K X.mg X.base CA x k n rx) (hxe:∀e s,X.xe e s->False) (hr:Room j X.A) (hkj:k<=j) (ha:PA3 X (a :: es) mA) (hl:∀l S v S',mA l S=some (v,S')->v.length=n) (hg:Gl X x:=by rfl) (hdb:(x == ("__debug__":Str))=false:=by decide) (he:starEach (a :: es) X.env=(false,eval a X.env) :: starEach es X.env:=by rfl) (hpl:(backTo cpos (starEach es X.env)).any (·.1)=false:=by rfl)
  (hs:swapsWithSole [.Name y py] (.Call (.Name x p) (a :: es) [] cpos) apos.line X.env=pure false:=by rfl) (hw:swappedStores [.Name y py] (.Call (.Name x p) (a :: es) [] cpos) X.env=pure none:=by rfl):TZ X E CA [.Assign [.Name y py] (.Call (.Name x p) (a :: es) [] cpos) apos] (zdc rx mA) :=
 λ_ _ _ _ I h=>yb8 F hxe hr hkj hg ha hl hdb he hpl hs hw I h
theorem zsj {c:Expr}{a b:List Stmt}{mc:TM}(hxe:∀e s,X.xe e s->False) (hc:PT3 X c mc) (ha:TZ X E CA a r) (hb:TZ X E CA b q):TZ X E CA [.If c a b apos] (zIf mc r q):=by
 intro pins s σ H I ⟨ρ,l,S,C,S',sim,ro,hm,p⟩
 refine wpAny_execs_cons (wpAny_mono (Q:=λ_ _=>False) ?_ (λ_ _ z=>z.elim) λ_ _ z=>z)
 obtain ⟨⟨v,S1⟩,q1,hm⟩:=bnd hm
 refine wpAny_If (wpAny_mono (hc pins s σ H (λb' H1=>∃ρ1,Ext ρ H ρ1 H1/\Sim X.K ρ1 S1 H1/\b' = v) I ⟨ρ,l,S,v,S1,sim,ro,q1,λρ1 H1 e1 s1=>⟨ρ1,e1,s1,rfl⟩⟩) (λd s1 ⟨H1,I1,ρ1,e1,s1',hd⟩=>?_) λ_ _ z=>(hxe _ _ z).elim)
 subst hd
 cases d with
 | true=>exact ha pins s1 σ H1 I1 ⟨ρ1,l,S1,C,S',s1',ro.mono e1,hm,λρ2 H2 e2 s2=>p ρ2 H2 (e1.trans e2) s2⟩
 | false=>exact hb pins s1 σ H1 I1 ⟨ρ1,l,S1,C,S',s1',ro.mono e1,hm,λρ2 H2 e2 s2=>p ρ2 H2 (e1.trans e2) s2⟩
variable {i:Nat}{Dh:Addr}{nm hx:Str}{np hpos:Pos}{b0:Stmt}{body suite:List Stmt}{mN mS:SM}{ok:Str->Bool}
theorem ycy (i:Nat) (hN:X.N.Nodup) (hxe:∀e s,X.xe e s->False) (hstk:X.stack=X.env :: X.outer) (hfm:X.env.frame=some X.env.locals) (hex:X.ex=[]) (hmh:X.mg hx=some (.ref Dh)) (qD:excIn X.K Dh zea "ValueError.__new__" = true)
  (hok:∀c,ok c=true->PySem.W.nsIn X.K mainGlobals c=some (some (.ref (CA c)))/\excIn X.K (CA c) zea "ValueError.__new__" = true/\(Value.ref (CA c) :: zhe X.K (CA c)).contains (.ref Dh)=true)
  (hS:∀e,zfm (mk1 X e) (b0 :: suite) mS) (hz:∀E,TZ X E CA body r) (hNorm:zfm X body mN)
  (hi:X.N[i]? = some nm:=by rfl) (hln:X.env.scope.names.lookup nm=some .local:=by rfl) (hgh:Gl X hx:=by rfl) (hd:(hx == ("__debug__":Str))=false:=by decide) :
  PS3 X (.Try body [.ExceptHandler (some (.Name hx np)) (some nm) (b0 :: suite) hpos] [] [] tpos) (zhp i ok mN r mS):=by
 have main:PS X (.Try body [.ExceptHandler (some (.Name hx np)) (some nm) (b0 :: suite) hpos] [] [] tpos) (λD σ H=>ts X.K mN D σ H\/Rz X.K (EH X Dh (ts X.K mS) i D σ) CA r σ H):=by
  intro pins s σ H D I h
  rcases h with h|h
  ·refine wpAny_Try_except (wpAny_mono (hNorm pins s σ H D I h) (λf s1 q=>?_) λe s1 z=>(hxe _ _ z).elim)
   cases f with
   | next=>exact wpAny_execs_nil q
   | _=>exact q
  ·exact wpAny_Try_except (wpAny_mono (hz _ pins s σ H I h) (λ_ _ z=>z.elim) λe s2 ⟨H1,s1,I1,cx⟩=>yb6 (tS:=ts X.K mS) hstk hfm hex hgh hmh qD hS hN hi hln hd I1 cx)
 refine PS.imp main λD σ H hx1_=>?_
 obtain ⟨ρ,l,S,f,l',S',sim,ro,hm,pz⟩:=hx1_
 unfold zhp at hm
 cases e1:mN l S with
 | some q =>
  rw [e1] at hm
  cases hm
  exact .inl ⟨ρ,l,S,f,l',S',sim,ro,e1,pz⟩
 | none =>
  rw [e1] at hm
  cases e2:r l S with
  | none=>rw [e2] at hm;cases hm
  | some q =>
   obtain ⟨c,S1⟩:=q
   rw [e2] at hm
   obtain ⟨hc,hm⟩:=zrk hm
   obtain ⟨⟨g,l2,S2⟩,q2,hm⟩:=bnd hm
   obtain ⟨k1,k2,k3⟩:=hok c hc
   refine .inr ⟨ρ,l,S,c,S1,sim,ro,e2,λρ1 H1 ex1 s1=>⟨CA c,rfl,k2,k3,λe he'=>?_⟩⟩
   have ex2:=zqi (ρ:=ρ1) (u:=.ext (phi e (CA c))) he'
   have sim2:Sim X.K (ρ1++[e]) (S1++[.exc c]) (upd H1 e (.ext (phi e (CA c)))):=s1.pushG he' ⟨CA c,k1,zfj⟩
   have ro2:=((ro.mono ex1).mono ex2).set i (d:=.ref S1.length) (v:=.ref e) (.ref (by rw [<-s1.len];exact zdh ρ1 e))
   cases g with
   | nx =>
    cases hm
    exact ⟨ρ1++[e],_,_,.nx,l2,S2,sim2,ro2,q2,λρ' H' σ' e' s' r'=>pz ρ' H' (σ'.set i none) (ex1.trans (ex2.trans e')) s' (RO.unset r' i)⟩
   | _=>cases hm
end
noncomputable def zid (i j:Str):Bool:=!(Builtin.Str.occurrences j i 0 j.length 1).isEmpty
noncomputable def zhg (neg:Bool):D->D->Sto->Option (D × Sto)
 | .str i,.str j,S=>some (.bl (if neg=true then !(zid i j) else zid i j),S)
 | _,_,_=>none
section
variable {X:Cx}{K:QFg}{a b:Expr}{ma mb:EM}{pos:Pos}
theorem ycz {neg:Bool}:Op3 K (zhg neg) (λx y H Q=>∃i j,x=.str i/\y=.str j/\Q (.bl (if neg=true then !(zid i j) else zid i j)) H):=by
 intro ρ S H x y x' y' v S' Q sim rx ry h p
 unfold zhg at h
 split at h
 ·cases h;cases rx;cases ry
  exact ⟨_,_,rfl,rfl,p ρ H _ (Ext.refl ..) sim (.bl _)⟩
 ·cases h
theorem zsk (ha:PE3 X a ma) (hb:PE3 X b mb) (hm:behindInMarks .NotIn b=false:=by rfl):PT3 X (.Compare a [.NotIn] [b] pos) (tE (eOp (zhg true) ma mb)):=zfn (zxr (X:=X)) ycz ha hb hm
end
theorem zsl {X:Cx}{x:Str}{k j:Nat}{m:FM}{p pos:Pos}(F:Has X.prog X.w X.K X.mg X.base x k 0 m) (hr:Room j X.A) (hkj:k<=j) (hg:Gl X x) (hdb:(x == ("__debug__":Str))=false:=by decide):PE3 X (.Call (.Name x p) [] [] pos) (zac m zab):=by
 obtain ⟨f,fd,ps,F,hm,hk,hb⟩:=F
 refine PE.imp (zx7 F (hr.mono hkj) hg hm hk hb .nil zqe hdb) λσ H Q hx=>?_
 obtain ⟨ρ,l,S,v,S',sim,ro,hq,q⟩:=hx
 exact ⟨rfl,ρ,[],S,v,S',sim,.nil,hq,q⟩
end L3
namespace TX
open PySem PySem.Builtin PySem.Builtin.Str PySem.StrLaws
structure Mk (y:Str) (d m:Nat):Prop where
 at_:y.cps.toList[m]? = some d
 pre:∀i,i<m->y.cps.toList[i]?≠some d
 kind:strKind y=1
variable {x y:Str}{d m:Nat}
theorem len_eq (z:Str):z.length=z.cps.toList.length:=by simp [Str.length]
theorem yc0 (h:Mk y d m) {k:Nat}(hk:At x y x.length k):x.cps.toList[k+m]? = some d:=by
 have:=hk.2
 rw [subAt_eq] at this
 have e:=eq_of_beq this
 have hm:=(qme h.at_).1
 have h1:=h.at_
 rw [<-e,List.getElem?_take_of_lt (by rw [len_eq];exact hm),List.getElem?_drop] at h1
 exact h1
theorem yc1 {a:Nat}{p r:List Nat}(h:x.cps.toList.drop a=p++y.cps.toList++r) (ha:a<=x.length):At x y x.length (a+p.length):=by
 have hl:=congrArg List.length h
 simp only [List.length_drop,qla] at hl
 rw [<-len_eq,<-len_eq] at hl
 refine ⟨by omega,?_⟩
 rw [subAt_eq,<-List.drop_drop,h,List.append_assoc,List.drop_left,len_eq,List.take_left]
 exact beq_self_eq_true _
theorem yc2 (hm:Mk y d m) {a k:Nat}{p r:List Nat}(h:x.cps.toList.drop a=p++y.cps.toList++r) (hf:d ∉ p) (h1:a<=k) (h2:k<a+p.length):¬At x y x.length k:=by
 intro hA
 have e:=yc0 hm hA
 have e2:(x.cps.toList.drop a)[k-a+m]? = some d:=by rw [List.getElem?_drop];rw [show a+(k-a+m)=k+m by omega];exact e
 have hmy:=(qme hm.at_).1
 rw [h,List.append_assoc] at e2
 by_cases hlt:k-a+m<p.length
 ·rw [List.getElem?_append_left hlt] at e2
  exact hf (qmg e2)
 ·rw [List.getElem?_append_right (by omega),List.getElem?_append_left (by omega)] at e2
  exact hm.pre _ (by omega) e2
theorem str_ext {a b:Str}(h:a.cps.toList=b.cps.toList):a=b:=Str.ext' (Array.toList_inj.mp h)
theorem partn (hm:Mk y d m) (p r:Str) (hf:d ∉ p.cps.toList):Txt.partition (p++y++r) y=(p,y,r):=by
 have h:(p++y++r).cps.toList.drop 0=p.cps.toList++y.cps.toList++r.cps.toList:=by simp only [Str.cps_append,Array.toList_append,List.drop_zero]
 have hA:=yc1 h (Nat.zero_le _)
 rw [Nat.zero_add] at hA
 unfold Txt.partition
 rcases occ_head (p++y++r) y 1 (qlr 1) with ⟨_,hn⟩|⟨i,q,h0,hi,hn⟩
 ·exact absurd hA (hn _)
 ·rw [h0]
  have e:i=p.cps.toList.length:=by
   have h1:i<=p.cps.toList.length:=Nat.le_of_not_lt λz=>hn _ z hA
   by_cases h2:i<p.cps.toList.length
   ·exact absurd hi (yc2 hm h hf (Nat.zero_le _) (by omega))
   ·omega
  subst e
  rw [List.drop_zero] at h
  have e1:strSub (p++y++r) 0 p.cps.toList.length=p:=str_ext (by rw [strSub_toList,List.drop_zero,h,List.append_assoc,Nat.sub_zero,List.take_left])
  have e2:strSub (p++y++r) (p.cps.toList.length+y.length) (p++y++r).length=r:=str_ext (by
   rw [strSub_toList,List.take_of_length_le (by rw [List.length_drop,<-len_eq];omega),<-List.drop_drop,h,List.append_assoc,List.drop_left,len_eq,List.drop_left])
  dsimp only
  rw [e1,e2]
end TX
namespace L3
open PySem
theorem zas {α:Type}{x:α}{p:α->Prop}:(∃d,(some (some x):Option (Option α))=some (some d)/\p d)=p x:=by
 apply propext;constructor
 ·rintro ⟨d,h,q⟩;cases h;exact q
 ·exact λq=>⟨x,rfl,q⟩
theorem za5 {α:Type}{x:α}{p:α->Prop}:(∃d,(some x:Option α)=some d/\p d)=p x:=by
 apply propext;constructor
 ·rintro ⟨d,h,q⟩;cases h;exact q
 ·exact λq=>⟨x,rfl,q⟩
theorem zbg {b:Bool}{p:Bool->Prop}:(∃k,D.bl b=D.bl k/\p k)=p b:=by
 apply propext;constructor
 ·rintro ⟨d,h,q⟩;cases h;exact q
 ·exact λq=>⟨b,rfl,q⟩
theorem zb7 {α:Type}{x y:α}:L2.atI [x,y] 0=some x:=rfl
theorem zb8 {α:Type}{x y:α}:L2.atI [x,y] 1=some y:=rfl
theorem zcm {α:Type}{x y z:α}:L2.atI [x,y,z] 0=some x:=rfl
theorem zcz {α:Type}{x y z:α}:L2.atI [x,y,z] 1=some y:=rfl
theorem zc0 {α:Type}{x y z:α}:L2.atI [x,y,z] 2=some z:=rfl
theorem za1 {S:Sto}{xs:List D}:lstOf (S++[.lst xs]) S.length=some xs:=by unfold lstOf;rw [zdh]
theorem zlt {α:Type}(xs:List α) (i:Int) (h0:0<=i) (h1:i<xs.length):∃x,L2.atI xs i=some x/\x∈xs:=by
 have hl:i.toNat<xs.length:=by omega
 refine ⟨xs[i.toNat],?_,List.getElem_mem hl⟩
 unfold L2.atI L2.ixN
 rw [if_pos h0,if_pos h1]
 simp [hl]
theorem atI_get {α:Type}{xs:List α}{i:Nat}{x:α}(h:xs[i]? = some x):L2.atI xs (i:Int)=some x:=by
 have hl:=(qme h).1
 unfold L2.atI L2.ixN
 rw [if_pos (by omega),if_pos (by omega)]
 simpa using h
section
variable {S:Sto}{Q:D->Sto->Prop}{l:Lo}{QG:Lo->Sto->Prop}
theorem zc1 {i j:Int}:Wo (zhb (.int i) (.int j) S) Q=(((-(2 ^ 64)<i/\i<2 ^ 64)\/(-(2 ^ 64)<j/\j<2 ^ 64))/\Q (.int (i*j)) S):=zgk
theorem zsm:Wo none Q=False:=by unfold Wo;simp
theorem zbw {xs:List D}{i:Int}:Wo (zam (.tup xs) (.int i) S) Q = ∃v,L2.atI xs i=some v/\Q v S:=by
 have e:zam (.tup xs) (.int i) S=dIx (.tup xs) (.int i) S:=by
  unfold zam
  cases h:dIx (.tup xs) (.int i) S with
  | some v=>rfl
  | none=>rfl
 rw [e,zci]
theorem zbh {k:Nat}{i:Int}:Wo (zam (.ref k) (.int i) S) Q = ∃xs,lstOf S k=some xs/\∃v,L2.atI xs i=some v/\Q v S:=by
 have e:zam (.ref k) (.int i) S=dIx (.ref k) (.int i) S:=by
  unfold zam
  cases h:dIx (.ref k) (.int i) S with
  | some v=>rfl
  | none=>rfl
 rw [e,zcj]
theorem zb9 {z:Str}{i:Int}:Wo (zam (.str z) (.int i) S) Q=(z.length<=sizeLine/\∃c,L2.atI z.cps.toList i=some c/\Q (.str ⟨#[c]⟩) S):=by
 show Wo (if z.length<=sizeLine then (L2.atI z.cps.toList i).bind λc=>some (.str ⟨#[c]⟩,S) else none) Q=_
 by_cases h:z.length<=sizeLine
 ·rw [if_pos h,zha];simp only [zc6,h,true_and]
 ·rw [if_neg h,zsm];simp [h]
theorem zb1 {k:Nat}:Wo (za8 [.ref k] S) Q = ∃xs,lstOf S k=some xs/\Q (.int xs.length) S:=zcl
theorem zcn {xs:List D}:Wo (za8 [.tup xs] S) Q=Q (.int xs.length) S:=zck
theorem zc2 {z:Str}:Wo (za8 [.str z] S) Q=(z.length<=sizeLine/\Q (.int z.length) S):=zgk
theorem zb2 {i:Int}:Wo (zgl [.int i] S) Q=(i.natAbs.log2<1920/\Q (.str (toString i)) S):=zgk
theorem zc3 {i j:Str}:Wo (dEq (.str i) (.str j) S) Q=Q (.bl (decide (i=j))) S:=zc6
theorem zc4 {i j:Int}:Wo (dNe (.int i) (.int j) S) Q=Q (.bl (!decide (i=j))) S:=zc6
theorem zsn {n:Nat}:Wo (zit [.ref n] S) Q = ∃xs,lstOf S n=some xs/\xs.all zis=true/\Q (.bl (xs.all isT)) S:=by
 show Wo ((lstOf S n).bind λxs=>if xs.all zis=true then some (.bl (xs.all isT),S) else none) Q=_
 rw [zha];simp only [zgk]
theorem zbx {f:D->List D->Sto->Option (D × Sto)}{a:EM}{r:AM}:We (zc7 f a r) l S Q=We a l S λx S1=>zjy x=some ()/\Wa r l S1 λys S2=>Wo (f x ys S2) Q:=by
 apply propext
 constructor
 ·rintro ⟨v,S',h,q⟩
  obtain ⟨⟨x,S1⟩,h1,h⟩:=bnd h
  obtain ⟨_,h2,h⟩:=bnd h
  obtain ⟨⟨y,S2⟩,h3,h⟩:=bnd h
  exact ⟨x,S1,h1,h2,y,S2,h3,v,S',h,q⟩
 ·rintro ⟨x,S1,h1,h2,y,S2,h3,v,S',h,q⟩
  refine ⟨v,S',?_,q⟩
  unfold zc7;rw [h1];show (zjy x).bind _=_;rw [h2];show (r l S1).bind _=_;rw [h3];exact h
theorem zlu {z:Str}{n:Nat}:Wo (zgm (.str z) [.ref n] S) Q = ∃xs,lstOf S n=some xs/\∃ts,zhn xs=some ts/\(ts.map (·.length)).sum+ts.length*z.length<=16777216/\Q (.str (Str.join z ts)) S:=by
 show Wo ((lstOf S n).bind λxs=>(zhn xs).bind λts=>if (ts.map (·.length)).sum+ts.length*z.length<=16777216 then some (.str (Str.join z ts),S) else none) Q=_
 rw [zha];simp only [zha,zgk]
theorem zca {U:String}{b:Int}:Wo (zfp U (.int b) S) Q=Q (.bl (isI "int" U)) S:=zc6
theorem zc5 {U:String}{b:List D}:Wo (zfp U (.tup b) S) Q=Q (.bl (isI "tuple" U)) S:=zc6
theorem zcb {U:String}:isI U U=true:=by unfold isI;simp
theorem yc3 {n m:Nat}{xs:List D}(h1:S[n]? = some (.lst xs)) (h2:S[m]? = some (.lst [])):Wo (ziv (.ref n) (.ref m) S) Q=Q (.bl xs.isEmpty) S:=by
 show Wo (match S[n]?,S[m]? with|some (.lst xs),some (.lst [])=>some (.bl xs.isEmpty,S)|_,_=>none) Q=_
 rw [h1,h2];exact zc6
theorem znr {n m:Nat}{xs:List D}(h1:S[n]? = some (.lst xs)) (h2:S[m]? = some (.lst [])):Wo (zew (.ref n) (.ref m) S) Q=Q (.bl (!xs.isEmpty)) S:=by
 show Wo (match S[n]?,S[m]? with|some (.lst xs),some (.lst [])=>some (.bl (!xs.isEmpty),S)|_,_=>none) Q=_
 rw [h1,h2];exact zc6
end
def Gr (S0 S:Sto):Prop:=∃ex,S=S0++ex
theorem Gr.refl (S:Sto):Gr S S:=⟨[],by rw [List.append_nil]⟩
theorem Gr.trans {A B C:Sto}(h:Gr A B) (g:Gr B C):Gr A C:=by obtain ⟨x,rfl⟩:=h;obtain ⟨y,rfl⟩:=g;exact ⟨x++y,by rw [List.append_assoc]⟩
theorem Gr.push {A B:Sto}(h:Gr A B) (o:Ob):Gr A (B++[o]):=h.trans ⟨[o],rfl⟩
theorem Gr.get {A B:Sto}{n:Nat}{o:Ob}(h:Gr A B) (e:A[n]? = some o):B[n]? = some o:=by
 obtain ⟨x,rfl⟩:=h
 rw [List.getElem?_append_left (qme e).1];exact e
theorem Gr.lst {A B:Sto}{n:Nat}{xs:List D}(h:Gr A B) (e:lstOf A n=some xs):lstOf B n=some xs:=by
 unfold lstOf at e ⊢
 cases q:A[n]? with
 | none=>rw [q] at e;cases e
 | some o=>rw [h.get q];rw [q] at e;exact e
section
variable {it:ItM}{im:IM}{ixs:List (Option Nat)}{g:GM}{t:TM}{e:EM}{l:Lo}{S S1:Sto}{Q:D->Sto->Prop}{k:Nat}
theorem zns (xs:List D) (R:Nat->List D->Lo->Sto->Prop) (hit:∀i acc l S,R i acc l S->it i S=some xs[i]?)
  (step:∀(i:Nat) x acc l S,xs[i]? = some x->R i acc l S->Wg (g x l S) λl1 S1=>Wt t l1 S1 λb S2=>if b=true then We e l1 S2 λv S3=>R (i+1) (acc++[v]) l1 S3 else R (i+1) acc l1 S2) :
  ∀(n i:Nat) (acc:List D) (l:Lo) (S:Sto),n+i=xs.length->R i acc l S->∃rest S' l',zd9 it g t e (n+1) i l S=some (rest,S')/\R xs.length (acc++rest) l' S'
 | 0,i,acc,l,S,hn,h=>by
  have hi:i=xs.length:=by omega
  have e0:=hit i acc l S h
  rw [List.getElem?_eq_none_iff.mpr (by omega)] at e0
  refine ⟨[],S,l,?_,by rw [List.append_nil,<-hi];exact h⟩
  unfold zd9;rw [e0];rfl
 | n+1,i,acc,l,S,hn,h=>by
  have hi:i<xs.length:=by omega
  have e0:=hit i acc l S h
  rw [qge hi] at e0
  obtain ⟨l1,S1,e1,b,S2,e2,q⟩:=step i _ acc l S (qge hi) h
  cases b with
  | true =>
   obtain ⟨v,S3,e3,q⟩:=q
   obtain ⟨rest,S',l',e4,q⟩:=zns xs R hit step n (i+1) (acc++[v]) l1 S3 (by omega) q
   refine ⟨v :: rest,S',l',?_,by rw [List.append_assoc] at q;exact q⟩
   unfold zd9;rw [e0];show (g _ l S).bind _=_;rw [e1];show (t l1 S1).bind _=_;rw [e2]
   show (e l1 S2).bind _=_;rw [e3];show (zd9 it g t e (n+1) (i+1) l1 S3).bind _=_;rw [e4];rfl
  | false =>
   obtain ⟨rest,S',l',e4,q⟩:=zns xs R hit step n (i+1) acc l1 S2 (by omega) q
   refine ⟨rest,S',l',?_,q⟩
   unfold zd9;rw [e0];show (g _ l S).bind _=_;rw [e1];show (t l1 S1).bind _=_;rw [e2]
   exact e4
theorem znt (xs:List D) (R:Nat->List D->Lo->Sto->Prop) (him:im l S=some (it,xs.length+1,S1)) (h0:R 0 [] (zbp ixs l) S1) (hit:∀i acc l S,R i acc l S->it i S=some xs[i]?)
  (step:∀(i:Nat) x acc l S,xs[i]? = some x->R i acc l S->Wg (g x l S) λl1 S1=>Wt t l1 S1 λb S2=>if b=true then We e l1 S2 λv S3=>R (i+1) (acc++[v]) l1 S3 else R (i+1) acc l1 S2)
  (fin:∀acc l' S',R xs.length acc l' S'->acc.length<=sizeLine/\Q (.ref S'.length) (S'++[.lst acc])):We (zbv im ixs g t e) l S Q:=by
 obtain ⟨rest,S',l',h1,h2⟩:=zns (it:=it) (g:=g) (t:=t) (e:=e) xs R hit step xs.length 0 [] (zbp ixs l) S1 rfl h0
 obtain ⟨hz,q⟩:=fin rest l' S' h2
 refine ⟨_,_,?_,q⟩
 unfold zbv;rw [him];show (zd9 it g t e (xs.length+1) 0 (zbp ixs l) S1).bind _=_;rw [h1];show (if _ then _ else _)=_;rw [if_pos hz]
theorem znu (xs:List D) (F:D->Option D) (P:Sto->Prop) (L:Lo->Prop) (him:im l S=some (it,xs.length+1,S1)) (h0:P S1) (l0:L (zbp ixs l)) (hit:∀i S,P S->it i S=some xs[i]?) (hz:xs.length<=sizeLine)
  (step:∀x l S,x∈xs->L l->P S->Wg (g x l S) λl1 S2=>L l1/\Wt t l1 S2 λb S3=>P S3/\(b=false->F x=none)/\(b=true->We e l1 S3 λv S4=>F x=some v/\P S4))
  (fin:∀S',P S'->Q (.ref S'.length) (S'++[.lst (xs.filterMap F)])):We (zbv im ixs g t e) l S Q:=by
 refine znt xs (λi acc l S=>acc=(xs.take i).filterMap F/\L l/\P S) him ⟨rfl,l0,h0⟩ (λi acc l S h=>hit i S h.2.2) ?_ ?_
 ·rintro i x acc l S hx ⟨rfl,hl,hp⟩
  obtain ⟨l1,S2,e1,q1,b,S3,e2,p3,hf,ht⟩:=step x l S (qmg hx) hl hp
  refine ⟨l1,S2,e1,b,S3,e2,?_⟩
  have et:xs.take (i+1)=xs.take i++[x]:=by rw [List.take_add_one,hx];rfl
  cases b with
  | true =>
   obtain ⟨v,S4,e4,hv,p4⟩:=ht rfl
   dsimp only
   rw [if_pos rfl]
   refine ⟨v,S4,e4,?_,q1,p4⟩
   rw [et,List.filterMap_append];simp [hv]
  | false =>
   dsimp only
   rw [if_neg Bool.false_ne_true]
   refine ⟨?_,q1,p3⟩
   rw [et,List.filterMap_append];simp [hf rfl]
 ·rintro acc l' S' ⟨rfl,hl,hp⟩
  rw [List.take_length]
  exact ⟨Nat.le_trans (List.length_filterMap_le _ _) hz,fin S' hp⟩
theorem zso (xs:List D) (V:D->Prop) (P:Nat->Sto->Prop) (L:Lo->Prop) (him:im l S=some (it,xs.length+1,S1)) (h0:P 0 S1) (l0:L (zbp ixs l)) (hit:∀i S,P i S->it i S=some xs[i]?) (hz:xs.length<=sizeLine)
  (step:∀(i:Nat) x l S,xs[i]? = some x->L l->P i S->Wg (g x l S) λl1 S2=>L l1/\We e l1 S2 λv S3=>V v/\P (i+1) S3)
  (fin:∀vs S',vs.length=xs.length->(∀v∈vs,V v)->P xs.length S'->Q (.ref S'.length) (S'++[.lst vs])):We (zbv im ixs g zbc e) l S Q:=by
 refine znt xs (λi acc l S=>acc.length=i/\(∀v∈acc,V v)/\L l/\P i S) him ⟨rfl,(λv hv=>by cases hv),l0,h0⟩ (λi acc l S h=>hit i S h.2.2.2) ?_ ?_
 ·rintro i x acc l S hx ⟨hl,hv,hL,hp⟩
  obtain ⟨l1,S2,e1,q1,v,S3,e2,hv2,p3⟩:=step i x l S hx hL hp
  refine ⟨l1,S2,e1,?_⟩
  dsimp only
  rw [zq3,if_pos rfl]
  refine ⟨v,S3,e2,by simp [hl],λu hu=>?_,q1,p3⟩
  rcases List.mem_append.mp hu with hu|hu
  ·exact hv u hu
  ·rw [List.mem_singleton.mp hu];exact hv2
 ·rintro acc l' S' ⟨hl,hv,hL,hp⟩
  exact ⟨by rw [hl];exact hz,fin acc S' hl hv hp⟩
end
theorem yc4 {as:AM}{l:Lo}{S S1:Sto}{j:Int}(h:as l S=some ([.int j],S1)) (hz:-(2 ^ 62)<=j/\j<2 ^ 62):zeg as l S=some ((0,j.toNat),S1):=by
 unfold zeg;rw [h];simp only [Option.bind_some];rw [if_pos hz]
theorem zsp {as:AM}{l:Lo}{S S1:Sto}{n:Nat}(h:as l S=some ([.int (n:Int)],S1)) (hn:n<1000000000):zjv (zeg as) l S=some (itX (zd8 0 n),(zd8 0 n).length+1,S1):=by
 have:=yc4 h ⟨by omega,by omega⟩
 unfold zjv;rw [this];simp only [Option.bind_some,Int.toNat_natCast,zir]
theorem zix {e:EM}{l:Lo}{S S1:Sto}{xs:List D}(h:e l S=some (.tup xs,S1)):zdj e l S=some (itX xs,xs.length+1,S1):=by
 unfold zdj;rw [h];rfl
theorem zsq {e:EM}{l:Lo}{S S1:Sto}{n:Nat}{xs:List D}(h:e l S=some (.ref n,S1)) (hn:lstOf S1 n=some xs):zdj e l S=some (itL n,xs.length+1,S1):=by
 unfold zdj;rw [h];show (lstOf S1 n).bind _=_;rw [hn];rfl
theorem zlv {n i:Nat}{S:Sto}{xs:List D}(hn:lstOf S n=some xs):itL n i S=some xs[i]?:=by unfold itL;rw [hn];rfl
section
variable {g:GM}{b:SM}
theorem znv (P:Nat->Lo->Sto->Prop) (O:D->Sto->Prop):∀(xs:List D) (k:Nat) (l:Lo) (S:Sto),P k l S ->
  (∀(i:Nat) x l S,xs[i]? = some x->P (k+i) l S->Wg (g x l S) λl1 S1=>Ws b l1 S1 λf l2 S2=>((f=.nx\/f=.ct)/\P (k+i+1) l2 S2)\/∃d,f=.rt d/\O d S2) ->
  Wr (zf0 g b xs l S) λf l' S'=>(f=.nx/\P (k+xs.length) l' S')\/∃d,f=.rt d/\O d S'
 | [],k,l,S,h0,_=>⟨_,_,_,rfl,.inl ⟨rfl,h0⟩⟩
 | x :: xs,k,l,S,h0,hs=>by
  obtain ⟨l1,S1,e1,f,l2,S2,e2,q⟩:=hs 0 x l S rfl h0
  rcases q with ⟨hf,h1⟩|⟨d,rfl,hd⟩
  ·have ih:=znv P O xs (k+1) l2 S2 h1 λi y l S hy hp=>by
    have:=hs (i+1) y l S (by simpa using hy) (by rw [show k+(i+1)=k+1+i by omega];exact hp)
    rw [show k+(i+1)+1=k+1+i+1 by omega] at this
    exact this
   obtain ⟨f',l',S',e3,q1⟩:=ih
   refine ⟨f',l',S',?_,by rw [List.length_cons,show k+(xs.length+1)=k+1+xs.length by omega];exact q1⟩
   unfold zf0
   rw [e1];show (b l1 S1).bind _=_;rw [e2]
   rcases hf with rfl|rfl <;> exact e3
  ·refine ⟨_,l2,S2,?_,.inr ⟨d,rfl,hd⟩⟩
   unfold zf0
   rw [e1];show (b l1 S1).bind _=_;rw [e2];rfl
theorem zlw (P:Nat->Lo->Sto->Prop) (O:D->Sto->Prop) {as:AM}{l:Lo}{S S1:Sto}{n:Nat}{QS:Fl->Lo->Sto->Prop}(h:as l S=some ([.int (n:Int)],S1)) (hn:n<1000000000) (h0:P 0 l S1)
  (step:∀(i:Nat) l S,i<n->P i l S->Wg (g (.int i) l S) λl1 S1=>Ws b l1 S1 λf l2 S2=>((f=.nx\/f=.ct)/\P (i+1) l2 S2)\/∃d,f=.rt d/\O d S2)
  (fin:∀l' S',P n l' S'->QS .nx l' S') (out:∀d l' S',O d S'->QS (.rt d) l' S'):Ws (zgj (zeg as) g b) l S QS:=by
 rw [yai]
 refine ⟨_,_,h,(n:Int),rfl,⟨by omega,by omega⟩,?_⟩
 rw [Int.toNat_natCast]
 refine (znv P O (zd8 0 n) 0 l S1 h0 ?_).mono ?_
 ·intro i x l S hx hp
  obtain ⟨hi,rfl⟩:=yaj hx
  rw [Nat.zero_add] at hp
  have:=step i l S hi hp
  rw [Int.zero_add,Nat.zero_add]
  exact this
 ·rintro f l' S' (⟨rfl,hp⟩|⟨d,rfl,hd⟩)
  ·rw [zir,Nat.zero_add] at hp;exact fin l' S' hp
  ·exact out d l' S' hd
end
section
variable {S:Sto}{Q:D->Sto->Prop}{l:Lo}
theorem zcc {i j:Int}:Wo (dPlusA (.int i) (.int j) S) Q=Q (.int (i+j)) S:=zc6
theorem zj4 {i j:Str}:Wo (dPlusA (.str i) (.str j) S) Q=(i.length+j.length<=sizeLine/\Q (.str (i++j)) S):=by
 by_cases h:i.length+j.length<=sizeLine
 ·have:dPlusA (.str i) (.str j) S=some (.str (i++j),S):=by unfold dPlusA zho;simp only [h,if_true]
  rw [this,zc6];simp [h]
 ·have:dPlusA (.str i) (.str j) S=none:=by unfold dPlusA zho;simp only [h,if_false];rfl
  rw [this,zsm];simp [h]
theorem znw {n m:Nat}{xs ys:List D}(h1:S[n]? = some (.lst xs)) (h2:S[m]? = some (.lst ys)):Wo (dPlusA (.ref n) (.ref m) S) Q=(xs.length+ys.length<=sizeLine/\Q (.ref S.length) (S++[.lst (xs++ys)])):=by
 show Wo (match S[n]?,S[m]? with|some (.lst xs),some (.lst ys)=>if xs.length+ys.length<=sizeLine then some (.ref S.length,S++[.lst (xs++ys)]) else none|_,_=>none) Q=_
 rw [h1,h2];exact zgk
theorem yc5 {z:Str}{n:Int}(h:intText? z=some n) (hz:z.length<=640):Wo (zdv [.str z] S) Q=Q (.int n) S:=by
 have:zdv [.str z] S=some (.int n,S):=by unfold zdv;simp only [h,Option.bind_some,hz,if_true]
 rw [this];exact zc6
end
section
variable {it:ItM}{im:IM}{g:GM}{b:SM}
theorem yc6 {e:EM}(xs:List D) (P:Nat->Lo->Sto->Prop) (O:D->Sto->Prop) {l:Lo}{S S1:Sto}{QS:Fl->Lo->Sto->Prop}(he:e l S=some (.tup xs,S1)) (h0:P 0 l S1)
  (step:∀(i:Nat) x l S,xs[i]? = some x->P i l S->Wg (g x l S) λl1 S1=>Ws b l1 S1 λf l2 S2=>((f=.nx\/f=.ct)/\P (i+1) l2 S2)\/∃d,f=.rt d/\O d S2)
  (fin:∀l' S',P xs.length l' S'->QS .nx l' S') (out:∀d l' S',O d S'->QS (.rt d) l' S'):Ws (zf2 e g b) l S QS:=by
 rw [zq4]
 refine ⟨_,_,he,?_⟩
 refine (znv P O xs 0 l S1 h0 ?_).mono ?_
 ·intro i x l S hx hp
  rw [Nat.zero_add] at hp ⊢
  exact step i x l S hx hp
 ·rintro f l' S' (⟨rfl,hp⟩|⟨d,rfl,hd⟩)
  ·rw [Nat.zero_add] at hp;exact fin l' S' hp
  ·exact out d l' S' hd
theorem zsr {n:Nat}(xs:List D) (P:Nat->Lo->Sto->Prop) (O:D->Sto->Prop) (hit:∀i l S,P i l S->lstOf S n=some xs)
  (step:∀(i:Nat) x l S,xs[i]? = some x->P i l S->Wg (g x l S) λl1 S1=>Ws b l1 S1 λf l2 S2=>((f=.nx\/f=.ct)/\P (i+1) l2 S2)\/∃d,f=.rt d/\O d S2) :
  ∀(k i:Nat) (l:Lo) (S:Sto),k+i=xs.length->P i l S->Wr (zf1 g b n (k+1) i l S) λf l' S'=>(f=.nx/\P xs.length l' S')\/∃d,f=.rt d/\O d S'
 | 0,i,l,S,hn,h=>by
  have hi:i=xs.length:=by omega
  refine ⟨.nx,l,S,?_,.inl ⟨rfl,by rw [<-hi];exact h⟩⟩
  unfold zf1;rw [hit i l S h];simp only [Option.bind_some];rw [List.getElem?_eq_none_iff.mpr (by omega)]
 | k+1,i,l,S,hn,h=>by
  have hi:i<xs.length:=by omega
  obtain ⟨l1,S1,e1,f,l2,S2,e2,q⟩:=step i _ l S (qge hi) h
  rcases q with ⟨hf,h1⟩|⟨d,rfl,hd⟩
  ·obtain ⟨f',l',S',e3,q1⟩:=zsr xs P O hit step k (i+1) l2 S2 (by omega) h1
   refine ⟨f',l',S',?_,q1⟩
   unfold zf1;rw [hit i l S h];simp only [Option.bind_some];rw [qge hi];show (g _ l S).bind _=_;rw [e1];show (b l1 S1).bind _=_;rw [e2]
   rcases hf with rfl|rfl <;> exact e3
  ·refine ⟨_,l2,S2,?_,.inr ⟨d,rfl,hd⟩⟩
   unfold zf1;rw [hit i l S h];simp only [Option.bind_some];rw [qge hi];show (g _ l S).bind _=_;rw [e1];show (b l1 S1).bind _=_;rw [e2];rfl
theorem zss {e:EM}{n:Nat}(xs:List D) (P:Nat->Lo->Sto->Prop) (O:D->Sto->Prop) {l:Lo}{S S1:Sto}{QS:Fl->Lo->Sto->Prop}(he:e l S=some (.ref n,S1)) (h0:P 0 l S1) (hit:∀i l S,P i l S->lstOf S n=some xs)
  (step:∀(i:Nat) x l S,xs[i]? = some x->P i l S->Wg (g x l S) λl1 S1=>Ws b l1 S1 λf l2 S2=>((f=.nx\/f=.ct)/\P (i+1) l2 S2)\/∃d,f=.rt d/\O d S2)
  (fin:∀l' S',P xs.length l' S'->QS .nx l' S') (out:∀d l' S',O d S'->QS (.rt d) l' S'):Ws (zf2 e g b) l S QS:=by
 rw [zq4]
 refine ⟨_,_,he,?_⟩
 simp only
 rw [hit 0 l S1 h0];simp only [Option.bind_some]
 refine (zsr xs P O hit step xs.length 0 l S1 rfl h0).mono ?_
 rintro f l' S' (⟨rfl,hp⟩|⟨d,rfl,hd⟩)
 ·exact fin l' S' hp
 ·exact out d l' S' hd
end
theorem zst (B:Nat):∀ts:List Str,(∀t∈ts,t.length<=B)->(ts.map (·.length)).sum<=B*ts.length
 | [],_=>Nat.zero_le _
 | t :: ts,h=>by
  have h1:=h t List.mem_cons_self
  have h2:=zst B ts λx hx=>h x (List.mem_cons_of_mem _ hx)
  simp only [List.map_cons,List.sum_cons,List.length_cons]
  rw [Nat.mul_add];omega
theorem yc7 (xs:List PyData):PyData.shownAll xs=xs.map PyData.shown:=by
 induction xs with
 | nil=>rfl
 | cons x xs ih=>unfold PyData.shownAll;rw [ih];rfl
theorem yc8 (B:Nat) (xs:List PyData) (h:∀x∈xs,x.shown.length<=B):(PyData.tuple xs).shown.length<=B*xs.length+2*xs.length+3:=by
 show (tupleText (PyData.shownAll xs)).length<=_
 rw [yc7]
 have h1:=tupleText_len_le (xs.map PyData.shown)
 have h2:=zst B (xs.map PyData.shown) λt ht=>by
  obtain ⟨p,hp,rfl⟩:=List.mem_map.mp ht
  exact h p hp
 simp only [qlm] at h1 h2
 omega
def Sh (S:Sto) (k B:Nat) (d:D):Prop:=∃p:PyData,p.shown.length<=B/\∀S',Gr S S'->zax S' k d=some p
theorem Sh.le {S:Sto}{k B B':Nat}{d:D}(h:Sh S k B d) (hb:B<=B'):Sh S k B' d:=let ⟨p,h1,h2⟩:=h;⟨p,Nat.le_trans h1 hb,h2⟩
theorem zsu {S:Sto}{k B:Nat}:∀(xs:List D),(∀x∈xs,Sh S k B x)->∃ps:List PyData,ps.length=xs.length/\(∀p∈ps,p.shown.length<=B)/\∀S',Gr S S'->pyAll S' k xs=some ps
 | [],_=>⟨[],rfl,(λp hp=>by cases hp),λex _=>by unfold pyAll;rfl⟩
 | x :: xs,h=>by
  obtain ⟨p,h1,h2⟩:=h x List.mem_cons_self
  obtain ⟨ps,h3,h4,h5⟩:=zsu xs λy hy=>h y (List.mem_cons_of_mem _ hy)
  refine ⟨p :: ps,by simp [h3],λq hq=>?_,λex g=>?_⟩
  ·rcases List.mem_cons.mp hq with rfl|hq
   ·exact h1
   ·exact h4 q hq
  ·unfold pyAll;rw [h2 ex g,h5 ex g];rfl
theorem zj5 {S:Sto}{k B n:Nat}{xs:List D}(h:∀x∈xs,Sh S k B x) (hn:xs.length<=n):Sh S (k+1) (B*n+2*n+3) (.tup xs):=by
 obtain ⟨ps,h1,h2,h3⟩:=zsu xs h
 refine ⟨.tuple ps,?_,λex g=>?_⟩
 ·have:=yc8 B ps h2
  rw [h1] at this
  have h4:B*xs.length<=B*n:=Nat.mul_le_mul_left _ hn
  omega
 ·unfold zax;rw [h3 ex g];rfl
theorem zgx {n:Nat}(h:n<1000000):((n:Nat):Int).natAbs.log2<1920:=by
 by_cases hz:n=0
 ·subst hz;decide
 ·have h1:((n:Nat):Int).natAbs=n:=by omega
  rw [h1]
  have h2:n.log2<20:=(Nat.log2_lt hz).mpr (Nat.lt_of_lt_of_le h (by decide))
  omega
theorem znx {S:Sto}{k n:Nat}(h:n<1000000):Sh S (k+1) 10 (.int n):=by
 refine ⟨.int n,?_,λex _=>by unfold zax;rw [if_pos (zgx h)]⟩
 show (PySem.Str.ofString (toString (n:Int))).length<=10
 exact PySem.W.KT.len_num (by omega) (by omega)
theorem yc9 {S:Sto}{k:Nat}:Sh S (k+1) 10 .non:=⟨.none,by decide +kernel,λex _=>by unfold zax;rfl⟩
section
variable {l:Lo}{S:Sto}{Q:D->Sto->Prop}{QG:Lo->Sto->Prop}{a b c:EM}
end
theorem Gr.len {A B:Sto}(h:Gr A B):A.length<=B.length:=by obtain ⟨x,rfl⟩:=h;rw [qla];omega
theorem Gr.set {A B:Sto}{r:Nat}(h:Gr A B) (hr:A.length<=r) (o:Ob):Gr A (B.set r o):=by
 obtain ⟨x,rfl⟩:=h
 exact ⟨x.set (r-A.length) o,by rw [List.set_append_right _ _ hr]⟩
section
variable {a b m:EM}{ms:List EM}{l:Lo}{S S1:Sto}{Q:D->Sto->Prop}{out:Str}
theorem yda {x y:Str}:Wo (zhq (.str x) [.str y] S) Q=((y.length≠0/\x.length<=sizeLine)/\Q (.tup [.str (Txt.partition x y).1,.str (Txt.partition x y).2.1,.str (Txt.partition x y).2.2]) S):=zgk
theorem zny {e:EM}{z:Str}(h:e l S=some (.str z,S1)):zeo e l S=some (itX (sgn z),(sgn z).length+1,S1):=by
 unfold zeo;rw [h,zj0];rfl
theorem zlx (ts:List Str):zhn (ts.map D.str)=some ts:=by
 induction ts with
 | nil=>rfl
 | cons t ts ih=>show (zhn (ts.map D.str)).bind _=_;rw [ih];rfl
theorem zie {α:Type}{im:IM}{it:ItM}{ixs:List (Option Nat)}{g:GM}{e:EM}(ys:List α) (f h:α->D) (P:Sto->Prop) (L:Lo->Prop) (him:im l S=some (it,(ys.map f).length+1,S1)) (h0:P S1) (l0:L (zbp ixs l)) (hit:∀i S,P S->it i S=some (ys.map f)[i]?) (hz:ys.length<=sizeLine)
  (step:∀y l S,y∈ys->L l->P S->Wg (g (f y) l S) λl1 S2=>L l1/\We e l1 S2 λv S3=>v=h y/\P S3)
  (fin:∀S',P S'->Q (.ref S'.length) (S'++[.lst (ys.map h)])):We (zbv im ixs g zbc e) l S Q:=by
 refine znt (ys.map f) (λi acc l S=>acc=(ys.take i).map h/\L l/\P S) him ⟨rfl,l0,h0⟩ (λi acc l S h=>hit i S h.2.2) ?_ ?_
 ·rintro i x acc l S hx ⟨rfl,hl,hp⟩
  rw [qgm] at hx
  obtain ⟨y,hy,rfl⟩:=Option.map_eq_some_iff.mp hx
  obtain ⟨l1,S2,e1,q1,v,S3,e2,rfl,p3⟩:=step y l S (qmg hy) hl hp
  refine ⟨l1,S2,e1,?_⟩
  dsimp only
  rw [zq3,if_pos rfl]
  refine ⟨_,S3,e2,?_,q1,p3⟩
  rw [List.take_add_one,hy];simp
 ·rintro acc l' S' ⟨rfl,hl,hp⟩
  have e:ys.take (ys.map f).length=ys:=by rw [qlm,List.take_length]
  rw [e]
  exact ⟨by rw [qlm];exact hz,fin S' hp⟩
end
open PySem.Spec PyProof.Rows L2
section
variable {X:Cx}
variable {o e:Expr}{mo m:EM}{apos cpos:Pos}
noncomputable def zly:List Expr->Option (List Str)
 | []=>some []
 | .Constant (.str z) _ _ :: r=>(zly r).bind λzs=>some (z :: zs)
 | _=>none
noncomputable def aTx:List Str->AM
 | []=>zab
 | z :: r=>zaa (eC (.str z)) (aTx r)
theorem zsv:∀{es:List Expr}{zs:List Str},zly es=some zs->PA3 X es (aTx zs)
 | [],zs,h=>by cases h;exact zaf
 | e :: es,zs,h=>by
  unfold zly at h
  split at h
  ·rename_i q;cases q
  ·rename_i q
   cases q
   obtain ⟨ws,h1,h2⟩:=bnd h
   cases h2
   exact zae za3 (zsv h1) rfl
  ·cases h
theorem znz {es:List Expr}{zs:List Str}{pos:Pos}(h:zly es=some zs):PE3 X (.List es pos) (zac za6 (aTx zs)):=zdm (zsv h)
theorem ydb {l:Lo}{S:Sto}{Q:List D->Sto->Prop}:∀{zs:List Str},Wa (aTx zs) l S Q=Q (zs.map D.str) S:=by
 intro zs
 induction zs generalizing Q with
 | nil=>exact zap
 | cons z r ih=>unfold aTx;rw [zar,zay,ih];rfl
end
theorem ydc {X:Cx}{E:XK}{N':List Str}{elt iter tgt:Expr}{ifs:List Expr}{scope:Scope}{pos spos py:Pos}{wi:TI}{src:L2.St->L2.St}{g:TG}{tts:TT}{t:TE}{i:Nat}{y:Str}(F:XF X E) (hN:X.N.Nodup) (hi':X.N[i]? = some y) (hx:Loc X.env.scope y)
  (hsw:swapsWith (.ListComp elt [⟨tgt,iter,ifs,0⟩] scope pos) (some (.Name y py)) spos.line X.env=pure true) (hf:X.fn y=true\/X.env.scope.names.lookup y=some .local)
  (hcalm:X.calm=true) (sc:CompSc X N' scope src)
  (hi:PI X tgt iter wi) (hg:∀C s H fp pins,PG (cxZ X N' scope C s H fp pins) tgt g) (ht:∀C s H fp pins,PTs (cxZ X N' scope C s H fp pins) ifs tts) (he:∀C s H fp pins,XF (cxZ X N' scope C s H fp pins) E->PE (cxZ X N' scope C s H fp pins) elt t)
  (hs:∀x,foldedSetIterable iter X.env x=pure x):PS X (.Assign [.Name y py] (.ListComp elt [⟨tgt,iter,ifs,0⟩] scope pos) spos) (zkz (zh7 X.K wi src g tts t) (zky i)):=by
 intro pins s σ H D I h
 rw [exec_Assign_Name_used _ _ _ _ hsw]
 refine qwb (wpAny_standAt (qwb ?_))
 show wpAny _ X.A (do let _ <-comprehension (.ListComp elt [⟨tgt,iter,ifs,0⟩] scope pos) scope X.env _ (newList []) false (eval iter X.env) (some (assign (.Name y py) X.env))) _ _ s
 refine qwb (wpAny_mono (zlf (xb:=xeB X scope) (B:=λC s H fp pins=>XF (cxZ X N' scope C s H fp pins) E) (use:=some (assign (.Name y py) X.env)) (R:=λ_ s'=>SP X pins D .next s') hcalm sc hi hg ht he (λ_ _ _ _ z=>z) (λ_ _ _ I3 f3=>zsf F I3 f3) hs I h λD' H5 s6 C mC IX fp hn q=>?_) (λ_ s' hq=>qwp (qwp hq)) λ_ _ e=>e)
 show wpAny _ X.A (assign (.Name y py) X.env (.ref D')) _ _ s6
 refine wpAny_assign_Name (zmk (v:=.ref D') IX hN hi' hx rfl (λs' I' ha=>?_) hf)
 obtain ⟨a,sb,ha⟩:=ha
 have hCa:C≠a:=by
  rcases ha with ha|ha
  ·rw [ha];exact fp.2.1
  ·exact λz=>fp.2.2.2.2.1 y a ha z.symm
 refine ⟨mC,hn.sameBut sb hCa,λh'' sb''=>⟨_,H5,?_,q⟩⟩
 exact I'.turned (t':=s'.toks) (λb o hb e=>sb''.extBut b o hb e) fp.1 fp.2.1 fp.2.2.2.1 fp.2.2.2.2.1 fp.2.2.2.2.2
theorem ydd {X:Cx}{E:XK}{CA:Str->Addr}(j:Nat) {N':List Str}{elt iter tgt:Expr}{ifs:List Expr}{scope:Scope}{pos spos py:Pos}{y:Str}{im:IM}{ixs:List (Option Nat)}{g:GM}{t:TM}{e:EM}{r:ZM}(hN:X.N.Nodup) (F:XF X E) (hcalm:X.calm=true) (sc:CompSc X N' scope (zbp ixs)) (hi:PI3 X tgt iter im)
  (hg:∀C s H fp pins,PG3 (cxZ X N' scope C s H fp pins) tgt g) (ht:∀C s H fp pins,PTs (cxZ X N' scope C s H fp pins) ifs (tt X.K t)) (he:∀C s H fp pins,PE3 (cxZ X N' scope C s H fp pins) elt e) (hz:∀C s H fp pins,XF (cxZ X N' scope C s H fp pins) E->PEz (cxZ X N' scope C s H fp pins) E CA elt r)
  (hi':X.N[j]? = some y:=by rfl) (hx:Loc X.env.scope y:=by first|exact Or.inl rfl|exact Or.inr rfl)
  (hsw:swapsWith (.ListComp elt [⟨tgt,iter,ifs,0⟩] scope pos) (some (.Name y py)) spos.line X.env=pure true:=by with_unfolding_all rfl) (hf:X.fn y=true\/X.env.scope.names.lookup y=some .local:=by first|exact .inl rfl|exact .inr rfl|assumption)
  (hs:∀x,foldedSetIterable iter X.env x=pure x:=by intro _;rfl):PSz X E CA (.Assign [.Name y py] (.ListComp elt [⟨tgt,iter,ifs,0⟩] scope pos) spos) (ze6 im ixs g t e r):=λpins s σ H D I h =>
 ydc (g:=tg X.K g) (tts:=tt X.K t) (t:=λσ H Q=>te X.K e σ H Q\/Rz X.K E CA r σ H) F hN hi' hx hsw hf hcalm sc hi hg ht (λC s H fp pins xf pins' s' σ' H' Q' I' h'=>h'.elim (he C s H fp pins pins' s' σ' H' Q' I') (hz C s H fp pins xf pins' s' σ' H' Q' I')) hs pins s σ H D I (zsg σ H _ h)
end L3
section
namespace G
open PySem PySem.Spec PyProof.Rows L2 L3
noncomputable abbrev bd:List Stmt:=PySem.Challenge.pw_opencells_k62_no_machines_written.main.body
noncomputable def zsw:SM:=sRet (zfc (eUn (zfp "int") (eVar 0)) (zfc (zg7 (eUn (zfp "bool") (eVar 0))) (zhk dLe dLt (eC (.int 0)) (eVar 0) (eVar 1))))
noncomputable def zf6:FM:=zc9 2 zsw
noncomputable def zsx:SM:=zag (sIf (zdu (zdi (tE (eUn (zfp "tuple") (eVar 0)))) (tE (eOp dNe (zac za8 (zaa (eVar 0) (zab))) (eC (.int 2))))) (sRet (eC (.bl false))) (zat)) (zag (zaj (eVar 0) (zgv 2 (zd3 (gName3 2) (zd3 (gName3 3) (zgu))))) (sRet (zfc (zgd (eOp dIs (eVar 2) (eC .non)) (zac zf6 (zaa (eVar 2) (zaa (eVar 1) (zab))))) (zgd (eOp dIs (eVar 3) (eC .non)) (zac zf6 (zaa (eVar 3) (zaa (eC (.int 8)) (zab))))))))
noncomputable def zj6:FM:=zc9 4 zsx
noncomputable def zsy:SM:=zag (sIf (zdu (zdi (tE (eUn (zfp "tuple") (eVar 0)))) (tE (eOp dNe (zac za8 (zaa (eVar 0) (zab))) (eVar 1)))) (sRet (eC (.bl false))) (zat)) (sRet (zac zit (zaa (zbv (zdj (eVar 0)) [none,some 2] (gName3 0) (zbc) (zac zj6 (zaa (eVar 0) (zaa (eVar 1) (zab))))) (zab))))
noncomputable def zj7:FM:=zc9 3 zsy
noncomputable def zsz:SM:=zag (sIf (zdu (zdi (tE (eUn (zfp "tuple") (eVar 0)))) (tE (eOp dNe (zac za8 (zaa (eVar 0) (zab))) (eC (.int 2))))) (sRet (eC (.bl false))) (zat)) (zag (zaj (eVar 0) (zgv 2 (zd3 (gName3 1) (zd3 (gName3 2) (zgu))))) (zag (sIf (zdu (zdi (tE (zac zf6 (zaa (eVar 1) (zaa (eOp dPlusA (eC (.int 4)) (eC (.int 1))) (zab)))))) (tE (eOp dEq (eVar 1) (eC (.int 0))))) (sRet (eC (.bl false))) (zat)) (zag (sIf (zdu (zdi (tE (eUn (zfp "tuple") (eVar 2)))) (zdi (tE (zhk dLe dLe (eC (.int 1)) (zac za8 (zaa (eVar 2) (zab))) (eC (.int 24)))))) (sRet (eC (.bl false))) (zat)) (sRet (zac zit (zaa (zbv (zdj (eVar 2)) [none,some 1,some 2] (gName3 0) (zbc) (zac zj7 (zaa (eVar 0) (zaa (eVar 1) (zaa (zac za8 (zaa (eVar 2) (zab))) (zab)))))) (zab)))))))
noncomputable def zgy:FM:=zc9 3 zsz
noncomputable def zs0:SM:=zag (zgj (zeg (zaa (eVar 1) (zab))) (gName3 2) (sIf (tE (eOp dEq (eVar 0) (zac zgl (zaa (eVar 2) (zab))))) (sRet (eVar 2)) (zat))) (ze4)
noncomputable def zdw:FM:=zc9 3 zs0
noncomputable def zs1:ZM:=zd0 (zgj (zeg (zaa (eVar 1) (zab))) (gName3 2) (sIf (tE (eOp dEq (eVar 0) (zac zgl (zaa (eVar 2) (zab))))) (sRet (eVar 2)) (zat))) (λ_ S=>some ("NoText",S))
noncomputable def zeb:ZF:=zhf 3 zs1
noncomputable def zs2:SM:=sRet (zm0 (tE (eOp dEq (eVar 0) (eC (.str "-")))) (eC .non) (zac zdw (zaa (eVar 0) (zaa (eVar 1) (zab)))))
noncomputable def zeh:FM:=zc9 2 zs2
noncomputable def zn0:ZM:=zIf (tE (eOp dEq (eVar 0) (eC (.str "-")))) (zgo) (zdc zeb (zaa (eVar 0) (zaa (eVar 1) (zab))))
noncomputable def zff:ZF:=zhf 2 zn0
noncomputable def zn1:SM:=sIf (zdi (tE (eUn (zfp "str") (eVar 0)))) (ze4) (zat)
noncomputable def zee:FM:=zc9 1 zn1
noncomputable def zj8:ZM:=zIf (zdi (tE (eUn (zfp "str") (eVar 0)))) (λ_ S=>some ("NoText",S)) (zgo)
noncomputable def ze7:ZF:=zhf 1 zj8
noncomputable def zn2:SM:=zag (zdz (zac zee (zaa (eVar 0) (zab)))) (zag (zaj (zc7 zdx (eVar 0) (zaa (eC (.str "/")) zab)) (gName3 1)) (zag (sIf (tE (eOp dNe (zac za8 (zaa (eVar 1) (zab))) (eC (.int 2)))) (ze4) (zat)) (sRet (zac zbo (zaa (zac zeh (zaa (eOp zam (eVar 1) (eC (.int 0))) (zaa (eC (.int 24)) (zab)))) (zaa (zac zeh (zaa (eOp zam (eVar 1) (eC (.int 1))) (zaa (eC (.int 8)) (zab)))) (zab)))))))
noncomputable def zd1:FM:=zc9 2 zn2
noncomputable def zj9:ZM:=zOr (zdc ze7 (zaa (eVar 0) (zab))) (zd0 (zdz (zac zee (zaa (eVar 0) (zab)))) (zd0 (zaj (zc7 zdx (eVar 0) (zaa (eC (.str "/")) zab)) (gName3 1)) (zOr (zIf (tE (eOp dNe (zac za8 (zaa (eVar 1) (zab))) (eC (.int 2)))) (λ_ S=>some ("NoText",S)) (zgo)) (zd0 (sIf (tE (eOp dNe (zac za8 (zaa (eVar 1) (zab))) (eC (.int 2)))) (ze4) (zat)) (zOr (zdc zff (zaa (eOp zam (eVar 1) (eC (.int 0))) (zaa (eC (.int 24)) (zab)))) (zj1 (zac zeh (zaa (eOp zam (eVar 1) (eC (.int 0))) (zaa (eC (.int 24)) (zab)))) (zdc zff (zaa (eOp zam (eVar 1) (eC (.int 1))) (zaa (eC (.int 8)) (zab))))))))))
noncomputable def zep:ZF:=zhf 2 zj9
noncomputable def zn3:SM:=zag (zdz (zac zee (zaa (eVar 0) (zab)))) (zag (zaj (zc7 zhq (eVar 0) (zaa (eC (.str ": ")) zab)) (zgv 3 (zd3 (gName3 1) (zd3 (gName3 2) (zd3 (gName3 3) (zgu)))))) (zag (zaj (zac zdw (zaa (eVar 1) (zaa (eOp dPlusA (eC (.int 4)) (eC (.int 1))) (zab)))) (gName3 4)) (zag (zaj (zbv (zdj (zc7 zdx (eVar 3) (zaa (eC (.str " | ")) zab))) [none] (gName3 0) (zbc) (zac zdb (zaa (zbv (zdj (zc7 zdx (eVar 0) (zaa (eC (.str " ")) zab))) [none] (gName3 0) (zbc) (zac zd1 (zaa (eVar 0) (zab)))) (zab)))) (gName3 5)) (zag (zaj (zac zbo (zaa (eVar 4) (zaa (zac zdb (zaa (eVar 5) (zab))) (zab)))) (gName3 6)) (zag (sIf (zdi (tE (zac zgy (zaa (eVar 6) (zab))))) (ze4) (zat)) (sRet (eVar 6)))))))
noncomputable def zf7:FM:=zc9 7 zn3
noncomputable def zka:ZM:=zOr (zdc ze7 (zaa (eVar 0) (zab))) (zd0 (zdz (zac zee (zaa (eVar 0) (zab)))) (zd0 (zaj (zc7 zhq (eVar 0) (zaa (eC (.str ": ")) zab)) (zgv 3 (zd3 (gName3 1) (zd3 (gName3 2) (zd3 (gName3 3) (zgu)))))) (zOr (zdc zeb (zaa (eVar 1) (zaa (eOp dPlusA (eC (.int 4)) (eC (.int 1))) (zab)))) (zd0 (zaj (zac zdw (zaa (eVar 1) (zaa (eOp dPlusA (eC (.int 4)) (eC (.int 1))) (zab)))) (gName3 4)) (zOr (ze6 (zdj (zc7 zdx (eVar 3) (zaa (eC (.str " | ")) zab))) [none] (gName3 0) (zbc) (zac zdb (zaa (zbv (zdj (zc7 zdx (eVar 0) (zaa (eC (.str " ")) zab))) [none] (gName3 0) (zbc) (zac zd1 (zaa (eVar 0) (zab)))) (zab))) (ze6 (zdj (zc7 zdx (eVar 0) (zaa (eC (.str " ")) zab))) [none] (gName3 0) (zbc) (zac zd1 (zaa (eVar 0) (zab))) (zdc zep (zaa (eVar 0) (zab))))) (zd0 (zaj (zbv (zdj (zc7 zdx (eVar 3) (zaa (eC (.str " | ")) zab))) [none] (gName3 0) (zbc) (zac zdb (zaa (zbv (zdj (zc7 zdx (eVar 0) (zaa (eC (.str " ")) zab))) [none] (gName3 0) (zbc) (zac zd1 (zaa (eVar 0) (zab)))) (zab)))) (gName3 5)) (zd0 (zaj (zac zbo (zaa (eVar 4) (zaa (zac zdb (zaa (eVar 5) (zab))) (zab)))) (gName3 6)) (zIf (zdi (tE (zac zgy (zaa (eVar 6) (zab))))) (λ_ S=>some ("NoText",S)) (zgo)))))))))
noncomputable def zgz:ZF:=zhf 7 zka
noncomputable def zn4:SM:=zag (zdz (zac zee (zaa (eVar 1) (zab)))) (zag (sIf (tE (eOp dEq (eVar 1) (eC (.str "-")))) (sRet (zac zbo (zab))) (zat)) (zag (sIf (tE (eOp dEq (eVar 1) (eC (.str "")))) (ze4) (zat)) (sRet (zac zdb (zaa (zbv (zeo (eVar 1)) [none,some 0] (gName3 0) (zbc) (zac zdw (zaa (eVar 0) (zaa (eVar 1) (zab))))) (zab))))))
noncomputable def zf8:FM:=zc9 2 zn4
noncomputable def zkb:ZM:=zOr (zdc ze7 (zaa (eVar 1) (zab))) (zd0 (zdz (zac zee (zaa (eVar 1) (zab)))) (zd0 (sIf (tE (eOp dEq (eVar 1) (eC (.str "-")))) (sRet (zac zbo (zab))) (zat)) (zOr (zIf (tE (eOp dEq (eVar 1) (eC (.str "")))) (λ_ S=>some ("NoText",S)) (zgo)) (zd0 (sIf (tE (eOp dEq (eVar 1) (eC (.str "")))) (ze4) (zat)) (ze6 (zeo (eVar 1)) [none,some 0] (gName3 0) (zbc) (zac zdw (zaa (eVar 0) (zaa (eVar 1) (zab)))) (zdc zeb (zaa (eVar 0) (zaa (eVar 1) (zab)))))))))
noncomputable def zg0:ZF:=zhf 2 zkb
noncomputable def zs3:SM:=zag (zaj (eC .non) (gName3 3)) (zag (zaj (eC .non) (gName3 4)) (zag (zhp 5 (λc=>c == "NoText") (sIf (tE (eOp dEq (eVar 0) (eC (.int 0)))) (zaj (zac zf7 (zaa (eVar 2) (zab))) (gName3 4)) (sIf (tE (eOp dEq (eVar 0) (eC (.int 1)))) (zaj (zac zd1 (zaa (eVar 2) (zab))) (gName3 4)) (zaj (zac zf8 (zaa (eVar 1) (zaa (eVar 2) (zab)))) (gName3 4)))) (zIf (tE (eOp dEq (eVar 0) (eC (.int 0)))) (zdc zgz (zaa (eVar 2) (zab))) (zIf (tE (eOp dEq (eVar 0) (eC (.int 1)))) (zdc zep (zaa (eVar 2) (zab))) (zdc zg0 (zaa (eVar 1) (zaa (eVar 2) (zab)))))) (zaj (eVar 5) (gName3 3))) (zag (sIf (tE (eOp dIs (eVar 3) (eC .non))) (sRet (zac zbo (zaa (eC (.str "read")) (zaa (zac zev (zaa (eVar 4) (zab))) (zab))))) (zat)) (zag (zaj (eUn (zed [("NoText",false)]) (eVar 3)) (gName3 6)) (zag (zaj (zgd (eVar 6) (eUn (zed [("NoText",false)]) (eVar 3))) (gName3 6)) (sRet (zac zbo (zaa (eC (.str "refused")) (zaa (zfc (eUn (zed [("NoText",true)]) (eVar 3)) (zfc (eUn (zed [("NoText",true)]) (eVar 3)) (zg7 (eVar 6)))) (zab))))))))))
noncomputable def zey:FM:=zc9 7 zs3
noncomputable def zs4:SM:=zag (sIf (tE (eOp dEq (eVar 0) (eC (.str "-")))) (sRet (zac za6 (zaa (eC .non) (zab)))) (zat)) (zag (zaj (zbv (zeo (eVar 0)) [none] (gName3 0) (tE (eOp (zhg true) (eVar 0) (eC (.str "0123456789")))) (eVar 0)) (gName3 2)) (zag (sIf (zdu (tE (eOp dEq (eVar 0) (eC (.str "")))) (zdu (tE (eOp dGt (zac za8 (zaa (eVar 0) (zab))) (eC (.int 2)))) (tE (eOp zew (eVar 2) (zac za6 (zab)))))) (sRet (zac za6 (zab))) (zat)) (zag (sIf (zdu (zfb (tE (eOp dEq (zac za8 (zaa (eVar 0) (zab))) (eC (.int 2)))) (tE (eOp dEq (eOp zam (eVar 0) (eC (.int 0))) (eC (.str "0"))))) (tE (eOp dGt (zac zdv (zaa (eVar 0) (zab))) (eVar 1)))) (sRet (zac za6 (zab))) (zat)) (sRet (zac za6 (zaa (zac zdv (zaa (eVar 0) (zab))) (zab)))))))
noncomputable def zg1:FM:=zc9 3 zs4
noncomputable def zs5:SM:=zag (zaj (zc7 zdx (eVar 0) (zaa (eC (.str "/")) zab)) (gName3 1)) (zag (sIf (tE (eOp dNe (zac za8 (zaa (eVar 1) (zab))) (eC (.int 2)))) (sRet (eC .non)) (zat)) (zag (zaj (eOp dPlusA (zac zg1 (zaa (eOp zam (eVar 1) (eC (.int 0))) (zaa (eC (.int 23)) (zab)))) (zac zg1 (zaa (eOp zam (eVar 1) (eC (.int 1))) (zaa (eC (.int 7)) (zab))))) (gName3 2)) (zag (sIf (tE (eOp dNe (zac za8 (zaa (eVar 2) (zab))) (eC (.int 2)))) (sRet (eC .non)) (zat)) (sRet (zac zbo (zaa (eOp zam (eVar 2) (eC (.int 0))) (zaa (eOp zam (eVar 2) (eC (.int 1))) (zab))))))))
noncomputable def zhh:FM:=zc9 3 zs5
noncomputable def zs6:SM:=zag (sIf (zdu (tE (eOp (dIn true) (zbu (eVar 0) (zda) (zbb (eC (.int 1)))) (zac zbo (zaa (eC (.str "1")) (zaa (eC (.str "2")) (zaa (eC (.str "3")) (zaa (eC (.str "4")) (zab)))))))) (tE (eOp dNe (zbu (eVar 0) (zbb (eC (.int 1))) (zbb (eC (.int 3)))) (eC (.str ": "))))) (sRet (eC .non)) (zat)) (zag (zaj (zac za6 (zab)) (gName3 1)) (zag (zf2 (zc7 zdx (zbu (eVar 0) (zbb (eC (.int 3))) (zda)) (zaa (eC (.str " | ")) zab)) (gName3 2) (zag (zaj (zbv (zdj (zc7 zdx (eVar 2) (zaa (eC (.str " ")) zab))) [none] (gName3 0) (zbc) (zac zhh (zaa (eVar 0) (zab)))) (gName3 3)) (zag (sIf (zdu (tE (eOp (zic false) (eC .non) (eVar 3))) (tE (eOp dNe (zac za8 (zaa (eVar 3) (zab))) (zac zdv (zaa (eOp zam (eVar 0) (eC (.int 0))) (zab)))))) (sRet (eC .non)) (zat)) (zdz (zfr zfq (eVar 1) (zaa (zac zdb (zaa (eVar 3) (zab))) zab)))))) (zag (zf2 (eVar 1) (gName3 3) (sIf (tE (eOp zew (zbv (zdj (eVar 3)) [none,none,some 1] (zgv 2 (zd3 (gName3 0) (zd3 (gName3 1) (zgu)))) (zfb (tE (eOp zim (eVar 0) (eC .non))) (tE (eOp dGe (eVar 0) (zac za8 (zaa (eVar 2) (zab)))))) (eVar 0)) (zac za6 (zab)))) (sRet (eC .non)) (zat))) (sRet (eOp zam (zac za6 (zaa (eC .non) (zaa (zac zbo (zaa (zac zdv (zaa (eOp zam (eVar 0) (eC (.int 0))) (zab))) (zaa (zac zdb (zaa (eVar 1) (zab))) (zab)))) (zab)))) (zac zdv (zaa (eOp dLt (zac za8 (zaa (eVar 1) (zab))) (eC (.int 25))) (zab))))))))
noncomputable def ziy:FM:=zc9 4 zs6
noncomputable def zs7:SM:=zag (sIf (tE (eOp dEq (eVar 1) (eC (.str "-")))) (sRet (zac zbo (zab))) (zat)) (zag (sIf (zdu (tE (eOp dEq (eVar 1) (eC (.str "")))) (tE (eOp zew (zbv (zeo (eVar 1)) [none,some 0] (gName3 0) (tE (eOp (zhg true) (eVar 0) (zbu (eC (.str "0123456789")) (zda) (zbb (eVar 1))))) (eVar 0)) (zac za6 (zab))))) (sRet (eC .non)) (zat)) (sRet (zac zdb (zaa (zbv (zeo (eVar 1)) [none] (gName3 0) (zbc) (zac zdv (zaa (eVar 0) (zab)))) (zab)))))
noncomputable def ziz:FM:=zc9 2 zs7
noncomputable def zs8:SM:=zag (zaj (zac ziz (zaa (eVar 1) (zaa (eVar 2) (zab)))) (gName3 3)) (zag (sIf (tE (eOp dEq (eVar 0) (eC (.int 0)))) (zaj (zac ziy (zaa (eVar 2) (zab))) (gName3 3)) (zat)) (zag (sIf (tE (eOp dEq (eVar 0) (eC (.int 1)))) (zaj (zac zhh (zaa (eVar 2) (zab))) (gName3 3)) (zat)) (zag (sIf (tE (eOp dIs (eVar 3) (eC .non))) (sRet (eOp zft (zac zey (zaa (eVar 0) (zaa (eVar 1) (zaa (eVar 2) (zab))))) (zac zbo (zaa (eC (.str "refused")) (zaa (eC (.bl true)) (zab)))))) (zat)) (sRet (eOp zft (zac zey (zaa (eVar 0) (zaa (eVar 1) (zaa (eVar 2) (zab))))) (zac zbo (zaa (eC (.str "read")) (zaa (zac zev (zaa (eVar 3) (zab))) (zab)))))))))
noncomputable def zez:FM:=zc9 4 zs8
noncomputable def zs9:SM:=zag (zaj (eOp dPlusA (eOp zam (eVar 0) (eC (.int 2))) (eC (.int 1))) (zin (eVar 0) (eC (.int 2)))) (zag (sIf (tE (eOp dGt (eOp zam (eVar 0) (eC (.int 0))) (eC (.int 0)))) (zag (zaj (eOp zfy (eOp zam (eVar 0) (eC (.int 0))) (eVar 1)) (gName3 2)) (zag (zaj (eOp zm6 (eOp zam (eVar 0) (eC (.int 0))) (eVar 1)) (zin (eVar 0) (eC (.int 0)))) (sRet (eVar 2)))) (zat)) (zag (zaj (eOp zfy (eOp zhb (eOp dPlusA (eOp zam (eVar 0) (eC (.int 1))) (eC (.int 29))) (eOp dPlusA (eOp zhb (eC (.int 40503)) (eOp zam (eVar 0) (eC (.int 2)))) (eC (.int 7919)))) (eC (.int 2147483629))) (gName3 3)) (zag (zaj (eOp zfy (eOp dPlusA (eOp zjk (eVar 3) (eC (.int 3))) (eOp zhb (eC (.int 69621)) (eOp zam (eVar 0) (eC (.int 2))))) (eC (.int 2147483587))) (gName3 3)) (zag (zaj (eOp zfy (eOp zjk (eVar 3) (eC (.int 5))) (eOp zam (zac za6 (zaa (eC (.int 2147483647)) (zaa (eC (.int 2147483563)) (zaa (eC (.int 2147483549)) (zab))))) (eOp zfy (eOp zam (eVar 0) (eC (.int 2))) (eC (.int 3))))) (gName3 3)) (sRet (eOp zfy (eOp zm6 (eVar 3) (eC (.int 64))) (eVar 1)))))))
noncomputable def zco:FM:=zc9 4 zs9
noncomputable def zta:SM:=zag (zaj (eC (.str " !\"#$&'()*+,-./0123456789:;<=>?@ABCDEFGHIJKLMNOPQRSTUVWXYZ[\\]^_`")) (gName3 0)) (sRet (eOp dPlusA (eVar 0) (eC (.str "abcdefghijklmnopqrstuvwxyz{|}~\n"))))
noncomputable def zif:FM:=zc9 1 zta
noncomputable def ztb:SM:=zag (zaj (zac zco (zaa (eVar 0) (zaa (eC (.int 6)) (zab)))) (gName3 2)) (zag (zaj (eC (.str "0123456789-/:|; +")) (gName3 3)) (zag (zaj (eOp zam (zac za6 (zaa (zac zif (zab)) (zaa (eVar 3) (zab)))) (zac zco (zaa (eVar 0) (zaa (eC (.int 2)) (zab))))) (gName3 4)) (zag (zaj (eOp zam (eVar 4) (zac zco (zaa (eVar 0) (zaa (zac za8 (zaa (eVar 4) (zab))) (zab))))) (gName3 5)) (zag (zaj (zac zco (zaa (eVar 0) (zaa (eOp dPlusA (zac za8 (zaa (eVar 1) (zab))) (eC (.int 1))) (zab)))) (gName3 6)) (zag (sIf (tE (eOp dEq (eVar 2) (eC (.int 0)))) (sRet (eOp dPlusA (eOp dPlusA (zbu (eVar 1) (zda) (zbb (eVar 6))) (eVar 5)) (zbu (eVar 1) (zbb (eVar 6)) (zda)))) (zat)) (zag (sIf (tE (eOp dEq (eVar 2) (eC (.int 1)))) (sRet (eOp dPlusA (zbu (eVar 1) (zda) (zbb (eVar 6))) (zbu (eVar 1) (zbb (eOp dPlusA (eVar 6) (eC (.int 1)))) (zda)))) (zat)) (zag (sIf (tE (eOp dEq (eVar 2) (eC (.int 2)))) (sRet (eOp dPlusA (eOp dPlusA (zbu (eVar 1) (zda) (zbb (eVar 6))) (eVar 5)) (zbu (eVar 1) (zbb (eOp dPlusA (eVar 6) (eC (.int 1)))) (zda)))) (zat)) (zag (sIf (tE (eOp dEq (eVar 2) (eC (.int 3)))) (zag (zaj (zbu (eVar 1) (zbb (eVar 6)) (zbb (eOp dPlusA (eVar 6) (eC (.int 1))))) (gName3 7)) (zag (zaj (zbu (eVar 1) (zbb (eOp dPlusA (eVar 6) (eC (.int 1)))) (zbb (eOp dPlusA (eVar 6) (eC (.int 2))))) (gName3 8)) (sRet (eOp dPlusA (eOp dPlusA (eOp dPlusA (zbu (eVar 1) (zda) (zbb (eVar 6))) (eVar 8)) (eVar 7)) (zbu (eVar 1) (zbb (eOp dPlusA (eVar 6) (eC (.int 2)))) (zda)))))) (zat)) (zag (zaj (eOp dPlusA (eVar 6) (zac zco (zaa (eVar 0) (zaa (eC (.int 6)) (zab))))) (gName3 9)) (zag (zaj (eOp dPlusA (zbu (eVar 1) (zda) (zbb (eVar 9))) (zbu (eVar 1) (zbb (eVar 6)) (zda))) (gName3 10)) (zag (zaj (eOp dPlusA (zbu (eVar 1) (zda) (zbb (eVar 6))) (zbu (eVar 1) (zbb (eVar 9)) (zda))) (gName3 11)) (sRet (eOp zam (zac za6 (zaa (eVar 10) (zaa (eVar 11) (zab)))) (eOp zjj (eVar 2) (eC (.int 4))))))))))))))))
noncomputable def zhr:FM:=zc9 12 ztb
noncomputable def ztc:SM:=zag (sIf (tE (eOp zft (eVar 0) (zac zbo (zab)))) (sRet (eC (.str "-"))) (zat)) (sRet (zc7 zgm (eC (.str "")) (zaa (zbv (zdj (eVar 0)) [none] (gName3 0) (zbc) (zac zgl (zaa (eVar 0) (zab)))) zab)))
noncomputable def zkc:FM:=zc9 1 ztc
noncomputable def ztd:SM:=zag (sIf (tE (eOp dIs (eVar 0) (eC .non))) (sRet (eC (.str "-"))) (zat)) (sRet (zac zgl (zaa (eVar 0) (zab))))
noncomputable def zi0:FM:=zc9 1 ztd
noncomputable def zte:SM:=sRet (eOp dPlusA (eOp dPlusA (zac zi0 (zaa (eOp zam (eVar 0) (eC (.int 0))) (zab))) (eC (.str "/"))) (zac zi0 (zaa (eOp zam (eVar 0) (eC (.int 1))) (zab))))
noncomputable def zig:FM:=zc9 1 zte
noncomputable def ztf:SM:=zag (zaj (zbv (zdj (eOp zam (eVar 0) (eC (.int 1)))) [none] (gName3 0) (zbc) (zc7 zgm (eC (.str " ")) (zaa (zbv (zdj (eVar 0)) [none] (gName3 0) (zbc) (zac zig (zaa (eVar 0) (zab)))) zab))) (gName3 1)) (sRet (eOp dPlusA (eOp dPlusA (zac zgl (zaa (eOp zam (eVar 0) (eC (.int 0))) (zab))) (eC (.str ": "))) (zc7 zgm (eC (.str " | ")) (zaa (eVar 1) zab))))
noncomputable def zkd:FM:=zc9 2 ztf
noncomputable def ztg:SM:=zag (zaj (zac zco (zaa (eVar 0) (zaa (eVar 1) (zab)))) (gName3 4)) (zag (zaj (zac zco (zaa (eVar 0) (zaa (eVar 3) (zab)))) (gName3 5)) (zag (sIf (tE (eOp dLt (zac zco (zaa (eVar 0) (zaa (eC (.int 8)) (zab)))) (eVar 2))) (zaj (eC .non) (gName3 4)) (zat)) (zag (sIf (tE (eOp dLt (zac zco (zaa (eVar 0) (zaa (eC (.int 8)) (zab)))) (eVar 2))) (zaj (eC .non) (gName3 5)) (zat)) (sRet (zac zbo (zaa (eVar 4) (zaa (eVar 5) (zab))))))))
noncomputable def zi1:FM:=zc9 6 ztg
noncomputable def zth:SM:=zag (zaj (eOp dPlusA (eC (.int 1)) (zac zco (zaa (eVar 0) (zaa (eVar 1) (zab))))) (gName3 3)) (zag (zaj (eOp zam (zac za6 (zaa (eC (.int 0)) (zaa (eC (.int 1)) (zaa (eC (.int 3)) (zaa (eC (.int 6)) (zab)))))) (zac zco (zaa (eVar 0) (zaa (eC (.int 4)) (zab))))) (gName3 4)) (zag (zaj (eOp zam (zac za6 (zaa (eC (.int 2)) (zaa (eC (.int 3)) (zaa (eC (.int 8)) (zab))))) (zac zco (zaa (eVar 0) (zaa (eC (.int 3)) (zab))))) (gName3 5)) (zag (zaj (zac za6 (zab)) (gName3 6)) (zag (zgj (zeg (zaa (eVar 3) (zab))) (gName3 7) (zag (zaj (zbv (zjv (zeg (zaa (eVar 2) (zab)))) [none,some 0,some 3,some 4,some 5] (gName3 0) (zbc) (zac zi1 (zaa (eVar 1) (zaa (eVar 2) (zaa (eVar 3) (zaa (eVar 4) (zab))))))) (gName3 8)) (zag (sIf (zfb (tE (eOp dGt (eVar 7) (eC (.int 0)))) (tE (eOp dEq (zac zco (zaa (eVar 0) (zaa (eC (.int 3)) (zab)))) (eC (.int 0))))) (zag (zaj (zac zjn (zaa (eOp zam (eVar 6) (zac zco (zaa (eVar 0) (zaa (eVar 7) (zab))))) (zab))) (gName3 8)) (zaj (zac zi1 (zaa (eVar 0) (zaa (eVar 3) (zaa (eVar 4) (zaa (eVar 5) (zab)))))) (zin (eVar 8) (zac zco (zaa (eVar 0) (zaa (eVar 2) (zab))))))) (zat)) (zdz (zfr zfq (eVar 6) (zaa (zac zdb (zaa (eVar 8) (zab))) zab)))))) (sRet (zac zbo (zaa (eVar 2) (zaa (zac zdb (zaa (eVar 6) (zab))) (zab)))))))))
noncomputable def zke:FM:=zc9 9 zth
noncomputable def zti:SM:=zag (zaj (eOp dPlusA (eOp zhb (eC (.int 104729)) (eVar 1)) (eC (.int 37))) (gName3 2)) (zag (sIf (tE (eOp dLt (eVar 1) (zac za8 (zaa (eVar 0) (zab))))) (zaj (eOp zam (eVar 0) (eVar 1)) (gName3 2)) (sIf (tE (eOp dGt (zac za8 (zaa (eVar 0) (zab))) (eC (.int 0)))) (zaj (eOp dPlusA (eOp zfy (eOp zam (eVar 0) (eOp zfy (eVar 1) (zac za8 (zaa (eVar 0) (zab))))) (eC (.int 2147483629))) (eOp zhb (eC (.int 69621)) (eVar 1))) (gName3 2)) (zat))) (zag (sIf (tE (eOp dGe (eVar 2) (eOp zjk (eC (.int 10)) (eC (.int 18))))) (sRet (zac za6 (zaa (eOp zjj (eVar 2) (eOp zjk (eC (.int 10)) (eC (.int 18)))) (zaa (eOp zfy (eVar 2) (eC (.int 2147483587))) (zaa (eC (.int 0)) (zab)))))) (zat)) (sRet (zac za6 (zaa (eC (.int 0)) (zaa (eOp zfy (eVar 2) (eC (.int 2147483587))) (zaa (eC (.int 0)) (zab))))))))
noncomputable def zkf:FM:=zc9 3 zti
noncomputable def ztj:SM:=zag (zaj (zac za6 (zab)) (gName3 0)) (zag (zf2 (zac zbo (zaa (eC (.int 24)) (zaa (eC (.int 25)) (zab)))) (gName3 1) (zdz (zfr zfq (eVar 0) (zaa (eOp dPlusA (eC (.str "1: ")) (zc7 zgm (eC (.str " | ")) (zaa (eOp zhc (zac za6 (zaa (eC (.str "23/7")) (zab))) (eVar 1)) zab))) zab)))) (zag (zgj (zeg (zaa (eC (.int 6)) (zab))) (gName3 2) (zdz (zfr zfq (eVar 0) (zaa (eOp dPlusA (eOp dPlusA (zac zgl (zaa (eVar 2) (zab))) (eC (.str ": "))) (zc7 zgm (eC (.str " ")) (zaa (eOp zhc (zac za6 (zaa (eC (.str "0/0")) (zab))) (eVar 2)) zab))) zab)))) (zag (zaj (eOp dPlusA (eVar 0) (zac za6 (aTx ["1: 1/0","1: 0/8","1: 00/0","1: 0/00","1: -/-","1: --/-","01: 0/0","1:0/0"]))) (gName3 0)) (zag (zaj (eOp dPlusA (eVar 0) (zac za6 (zaa (eC (.str "1:  0/0")) (zab)))) (gName3 0)) (zag (zaj (eOp dPlusA (eVar 0) (zac za6 (aTx ["1: 0/0 |","1: 0/0 | ","1: 0/0|0/0","1: 0/0 || 0/0","1: 0/0  | 0/0","","1"]))) (gName3 0)) (sRet (eOp dPlusA (eVar 0) (zac za6 (zaa (eC (.str "1: ")) (zaa (eC (.str "1:")) (zaa (eC (.str "-")) (zab))))))))))))
noncomputable def zkg:FM:=zc9 3 ztj
noncomputable def ztk:SM:=zag (zaj (zac zkg (zab)) (gName3 1)) (zag (zgj (zeg (zaa (zac zjp (zaa (eC (.int 3)) (zaa (zac zjo (zaa (zac za8 (zaa (eVar 0) (zab))) (zaa (eC (.int 20)) (zab)))) (zab)))) (zab))) (gName3 2) (zag (zaj (zac zkf (zaa (eVar 0) (zaa (eVar 2) (zab)))) (gName3 3)) (zag (zaj (zac zco (zaa (eVar 3) (zaa (eC (.int 3)) (zab)))) (gName3 4)) (zag (zaj (eOp dPlusA (eC (.int 1)) (zac zco (zaa (eVar 3) (zaa (eC (.int 4)) (zab))))) (gName3 5)) (zag (zaj (zac zke (zaa (eVar 3) (zaa (eOp zam (zac za6 (zaa (eC (.int 4)) (zaa (eC (.int 4)) (zaa (eC (.int 4)) (zaa (eC (.int 24)) (zab)))))) (zac zco (zaa (eVar 3) (zaa (eC (.int 4)) (zab))))) (zaa (eVar 5) (zab))))) (gName3 6)) (zag (zaj (eOp zam (zac za6 (zaa (zac zkd (zaa (eVar 6) (zab))) (zaa (zac zig (zaa (eOp zam (eOp zam (eOp zam (eVar 6) (eC (.int 1))) (eC (.int 0))) (eC (.int 0))) (zab))) (zab)))) (eOp zfy (eVar 4) (eC (.int 2)))) (gName3 7)) (zag (sIf (tE (eOp dEq (eVar 4) (eC (.int 2)))) (zaj (zac zkc (zaa (zac zdb (zaa (zbv (zjv (zeg (zaa (zac zco (zaa (eVar 3) (zaa (eC (.int 9)) (zab)))) (zab)))) [none,some 3,some 5] (gName3 0) (zbc) (zac zco (zaa (eVar 1) (zaa (eVar 2) (zab))))) (zab))) (zab))) (gName3 7)) (zat)) (zag (zaj (zac zhr (zaa (eVar 3) (zaa (eVar 7) (zab)))) (gName3 8)) (zag (sIf (tE (eOp dEq (zac zco (zaa (eVar 3) (zaa (eC (.int 3)) (zab)))) (eC (.int 0)))) (zaj (zac zhr (zaa (eVar 3) (zaa (eVar 8) (zab)))) (gName3 8)) (zat)) (zag (sIf (zdu (zdi (tE (zac zez (zaa (eVar 4) (zaa (eVar 5) (zaa (eVar 8) (zab))))))) (zdi (tE (zac zez (zaa (eVar 4) (zaa (eVar 5) (zaa (eVar 7) (zab)))))))) (sRet (eC (.bl false))) (zat)) (zag (sIf (zdi (tE (zac zez (zaa (eC (.int 0)) (zaa (eVar 5) (zaa (eOp zam (eVar 1) (zac zco (zaa (eVar 3) (zaa (zac za8 (zaa (eVar 1) (zab))) (zab))))) (zab))))))) (sRet (eC (.bl false))) (zat)) (zag (zaj (eOp zam (zac za6 (zaa (eC .non) (zaa (eC (.bl true)) (zaa (eC (.int 0)) (zaa (zac zbo (zab)) (zaa (zac za6 (zaa (eVar 7) (zab))) (zaa (zac zbo (zaa (eVar 7) (zab))) (zaa (zlm) (zaa (eVar 6) (zab)))))))))) (zac zco (zaa (eVar 3) (zaa (eC (.int 8)) (zab))))) (gName3 9)) (sIf (tE (eOp zh9 (zac zey (zaa (eVar 4) (zaa (eVar 5) (zaa (eVar 9) (zab))))) (zac zbo (zaa (eC (.str "refused")) (zaa (eC (.bl true)) (zab)))))) (sRet (eC (.bl false))) (zat)))))))))))))) (zag (zaj (zac za6 (aTx ["23/7","24/7","23/8","/","0/","/0","-/","0/0/0","0","00/0","0/-1"])) (gName3 10)) (zag (zaj (eOp dPlusA (eVar 10) (zac za6 (zaa (eC (.str "+1/0")) (zaa (eC (.str "1 /0")) (zaa (eC (.str "1_0/0")) (zaa (eC (.str "100/0")) (zab))))))) (gName3 10)) (sRet (eOp ziv (zbv (zdj (eVar 10)) [none] (gName3 0) (zdi (tE (zac zez (zaa (eC (.int 1)) (zaa (eC (.int 1)) (zaa (eVar 0) (zab))))))) (eVar 0)) (zac za6 (zab)))))))
noncomputable def zhs:FM:=zc9 11 ztk
theorem bl0 {C:List PySem.Value->Prop}(h:C []):∀us:List PySem.Value,us.length=0->C us:=by
 intro us hl
 rw [List.eq_nil_of_length_eq_zero hl];exact h
theorem blS {n:Nat}{C:List PySem.Value->Prop}(h:∀a (us:List PySem.Value),us.length=n->C (a :: us)):∀us:List PySem.Value,us.length=n+1->C us:=by
 intro us hl
 cases us with
 | nil=>cases hl
 | cons a us=>exact h a us (Nat.succ.inj hl)
theorem bl1 {C:List PySem.Value->Prop}(h:∀a0,C [a0]):∀us:List PySem.Value,us.length=1->C us:=blS λa0=>bl0 (C:=λus=>C (a0 :: us)) (h a0)
theorem bl2 {C:List PySem.Value->Prop}(h:∀a0 a1,C [a0,a1]):∀us:List PySem.Value,us.length=2->C us:=blS λa0=>blS λa1=>bl0 (C:=λus=>C (a0 :: a1 :: us)) (h a0 a1)
theorem bl3 {C:List PySem.Value->Prop}(h:∀a0 a1 a2,C [a0,a1,a2]):∀us:List PySem.Value,us.length=3->C us:=blS λa0=>blS λa1=>blS λa2=>bl0 (C:=λus=>C (a0 :: a1 :: a2 :: us)) (h a0 a1 a2)
theorem bl4 {C:List PySem.Value->Prop}(h:∀a0 a1 a2 a3,C [a0,a1,a2,a3]):∀us:List PySem.Value,us.length=4->C us:=blS λa0=>blS λa1=>blS λa2=>blS λa3=>bl0 (C:=λus=>C (a0 :: a1 :: a2 :: a3 :: us)) (h a0 a1 a2 a3)
inductive FI (K:QFg) (x:Str) (st:Stmt):Prop
 | mk {f:Addr} {oc kV dc pm cd ct:Value} {od an:Option Addr} {sl:Array (Option Value)} (a:PySem.W.nsIn K mainGlobals x=some (some (.ref f))) (l:K.lookup f=some ⟨oc,od,.func (PySem.W.fnOf x x (zh1 st) (zfv st) (za2 st) .none kV dc pm an cd ct),sl⟩) (c:PySem.W.codeIn K cd x=true) (k:PySem.W.keepIn K (.ref f)=true)
inductive FJ (K:QFg) (mg:Str->Option Value) (x:Str) (st:Stmt):Prop
 | mk {f:Addr} {fd:FuncData} (F:Fun K x x st f fd) (m:mg x=some (.ref f)) (n:Fnc K mg x)
theorem FI.ok {K:QFg}{x:Str}{st:Stmt}{h:Heap}{mg:Str->Option Value}(i:FI K x st) (X:K.In h) (G:h.Ns mainGlobals mg):FJ K mg x st:=by
 obtain ⟨a,l,c,k⟩:=i
 exact ⟨zy3 l c k,PySem.W.mg_of X G a,_,_,a,l,PySem.W.mg_of X G a⟩
section
variable {P:Program}{w:World}{K:QFg}{mg:Str->Option Value}{base:Heap}{CA:Str->Addr}
theorem zdq {x:Str}{st:Stmt}{N ps:List Str}{n k:Nat}{b:SM}(F:FJ K mg x st) (S:FnScope N ps (za2 st)) (hn:ps.length=n)
  (hb:∀us:List Value,us.length=ps.length->∀(kV doc pm:Value) (an:Option Addr) (cdv ct:Value),bindArgs (PySem.W.fnOf x x (zh1 st) (zfv st) (za2 st) .none kV doc pm an cdv ct) ⟨us,[]⟩=pure (ps.zip us))
  (hbody:∀(f:Addr) (cdv:Value),PySem.W.codeIn K cdv x=true->∀(A:Around) (outer:List Env) (s:Shared) (H:Hp) (E:XK),Room k (A.deeper (envOfC x (za2 st) s.heap.objs.size f cdv)) ->
   zfm (zdp CX0 P w K mg base N x (za2 st) f cdv A outer s H E).nox (zfv st) b):Has P w K mg base x (k+1) n (zc9 N.length b):=by
 obtain ⟨F,m,_⟩:=F
 exact yag F m S hn (F.binds λ_ _ _ _ _ _ us hl=>hb us hl _ _ _ _ _ _) (hbody _)
theorem zi2 {x:Str}{st:Stmt}{N ps:List Str}{n k:Nat}{r:ZM}(F:FJ K mg x st) (S:FnScope N ps (za2 st)) (hn:ps.length=n)
  (hb:∀us:List Value,us.length=ps.length->∀(kV doc pm:Value) (an:Option Addr) (cdv ct:Value),bindArgs (PySem.W.fnOf x x (zh1 st) (zfv st) (za2 st) .none kV doc pm an cdv ct) ⟨us,[]⟩=pure (ps.zip us))
  (hbody:∀(f:Addr) (cdv:Value),PySem.W.codeIn K cdv x=true->∀(A:Around) (outer:List Env) (s:Shared) (H:Hp) (E:XK),Room k (A.deeper (envOfC x (za2 st) s.heap.objs.size f cdv)) ->
   zgn (zdp (CX1 P w) P w K mg base N x (za2 st) f cdv A outer s H E) E CA (zfv st) r):zdg P w K mg base CA x (k+1) n (zhf N.length r):=by
 obtain ⟨F,m,_⟩:=F
 exact yb7 F m S hn (F.binds λ_ _ _ _ _ _ us hl=>hb us hl _ _ _ _ _ _) (hbody _)
theorem yde:FnScope ["thing","count"] ["thing","count"] (za2 (top bd 18)):=⟨rfl,rfl,rfl,by decide +kernel,rfl,by decide +kernel,by decide +kernel⟩
theorem h_m_is_below (F:FJ K mg "is_below" (top bd 18)) (z_isinstance:mg "isinstance" = none) (z_int:mg "int" = none) (z_bool:mg "bool" = none):Has P w K mg base "is_below" 1 2 zf6:=by
 have sc:=yde
 refine zdq (k:=0) F sc rfl (bl2 λ_ _=>λ_ _ _ _ _ _=>rfl) λf cdv hcd A outer s H E hr=>?_
 exact zan (zba (zjh (zhm (U:="int") rfl z_isinstance rfl z_int zq2 (by decide) (zad 0)) (zjh (zqk (zhm (U:="bool") rfl z_isinstance rfl z_bool yaa (by decide) (zad 0))) (zik (zy4 zmq zmp (zg8 λ_ _ _ _=>.bl _) (zg8 λ_ _ _ _=>.bl _) (zai) (zad 0) (zad 1))))))
theorem ydf:FnScope ["thing","many","goes","says"] ["thing","many"] (za2 (top bd 21)):=⟨rfl,rfl,rfl,by decide +kernel,rfl,by decide +kernel,by decide +kernel⟩
theorem h_m_is_cell (F:FJ K mg "is_cell" (top bd 21)) (z_isinstance:mg "isinstance" = none) (z_tuple:mg "tuple" = none) (z_len:mg "len" = none) (c_ANSWERS:∃t,mg "ANSWERS" = some (.int 8 t)) (h_m_is_below:Has P w K mg base "is_below" 1 2 zf6):Has P w K mg base "is_cell" 2 2 zj6:=by
 obtain ⟨_,c_ANSWERS⟩:=c_ANSWERS
 have sc:=ydf
 refine zdq (k:=1) F sc rfl (bl2 λ_ _=>λ_ _ _ _ _ _=>rfl) λf cdv hcd A outer s H E hr=>?_
 exact zal (zbn (zfd (zfx (zfe (zfo (zhm (U:="tuple") rfl z_isinstance rfl z_tuple ziq (by decide) (zad 0)))) (zgg (zgt (zd4 rfl z_len (zae (zad 0) (zaf))) (zai))))) (zan (zba (zge))) (zbt)) (zal (zh6 (zad 0) (zjr rfl (zfz (zcp 2 sc.nd) (zfz (zcp 3 sc.nd) (zjq))))) (zan (zba (zjh (zm4 (zqs (zad 2) (zd6)) (zik (zaw h_m_is_below hr (by decide) rfl (zae (zad 2) (zae (zad 1) (zaf))) (zah (zah zao))))) (zik (zm4 (zqs (zad 3) (zd6)) (zik (zaw h_m_is_below hr (by decide) rfl (zae (zad 3) (zae (zgf rfl c_ANSWERS) (zaf))) (zah (zah zao))))))))))
theorem ydg:FnScope ["thing","asks","many"] ["thing","asks","many"] (za2 (top bd 20)):=⟨rfl,rfl,rfl,by decide +kernel,rfl,by decide +kernel,by decide +kernel⟩
theorem ydh:List.Nodup (["cell","many"]:List Str):=by decide +kernel
noncomputable abbrev ydi:List Str:=["thing","asks","many"]
theorem h_m_is_room (F:FJ K mg "is_room" (top bd 20)) (z_all:mg "all" = none) (z_isinstance:mg "isinstance" = none) (z_tuple:mg "tuple" = none) (z_len:mg "len" = none) (h_m_is_cell:Has P w K mg base "is_cell" 2 2 zj6):Has P w K mg base "is_room" 3 3 zj7:=by
 have sc:=ydg
 refine zdq (k:=2) F sc rfl (bl3 λ_ _ _=>λ_ _ _ _ _ _=>rfl) λf cdv hcd A outer s H E hr=>?_
 exact zal (zbn (zfd (zfx (zfe (zfo (zhm (U:="tuple") rfl z_isinstance rfl z_tuple ziq (by decide) (zad 0)))) (zgg (zgt (zd4 rfl z_len (zae (zad 0) (zaf))) (zad 1))))) (zan (zba (zge))) (zbt)) (zan (zba (zri rfl rfl z_all (zae (zfs (N':=["cell","many"]) (ixs:=[none,some 2]) rfl (zer (scO:=za2 (top bd 20)) (NO:=ydi) rfl rfl (by decide +kernel)) (ze5 (zad 0)) (λ_ _ _ _ _=>zcp 0 ydh) (λ_ _ _ _ _=>zem) (λ_ _ _ _ _=>zaw h_m_is_cell hr (by decide) rfl (zae (zad 0) (zae (zad 1) (zaf))) (zah (zah zao)))) (zaf)))))
theorem ydj:FnScope ["thing","asks","rooms"] ["thing"] (za2 (top bd 19)):=⟨rfl,rfl,rfl,by decide +kernel,rfl,by decide +kernel,by decide +kernel⟩
theorem ydk:List.Nodup (["room","asks","rooms"]:List Str):=by decide +kernel
noncomputable abbrev ydl:List Str:=["thing","asks","rooms"]
theorem h_m_is_machine (F:FJ K mg "is_machine" (top bd 19)) (z_all:mg "all" = none) (z_len:mg "len" = none) (z_isinstance:mg "isinstance" = none) (z_tuple:mg "tuple" = none) (c_MOST_ROOMS:∃t,mg "MOST_ROOMS" = some (.int 24 t)) (c_MOST_ASKS:∃t,mg "MOST_ASKS" = some (.int 4 t)) (h_m_is_room:Has P w K mg base "is_room" 3 3 zj7) (h_m_is_below:Has P w K mg base "is_below" 1 2 zf6):Has P w K mg base "is_machine" 4 1 zgy:=by
 obtain ⟨_,c_MOST_ROOMS⟩:=c_MOST_ROOMS
 obtain ⟨_,c_MOST_ASKS⟩:=c_MOST_ASKS
 have sc:=ydj
 refine zdq (k:=3) F sc rfl (bl1 λ_=>λ_ _ _ _ _ _=>rfl) λf cdv hcd A outer s H E hr=>?_
 exact zal (zbn (zfd (zfx (zfe (zfo (zhm (U:="tuple") rfl z_isinstance rfl z_tuple ziq (by decide) (zad 0)))) (zgg (zgt (zd4 rfl z_len (zae (zad 0) (zaf))) (zai))))) (zan (zba (zge))) (zbt)) (zal (zh6 (zad 0) (zjr rfl (zfz (zcp 1 sc.nd) (zfz (zcp 2 sc.nd) (zjq))))) (zal (zbn (zfd (zfx (zfe (zfo (zaw h_m_is_below hr (by decide) rfl (zae (zad 1) (zae (zb0 (zgf rfl c_MOST_ASKS) (zai)) (zaf))) (zah (zah zao))))) (zgg (zdn (zad 1) (zai))))) (zan (zba (zge))) (zbt)) (zal (zbn (zfd (zfx (zfe (zfo (zhm (U:="tuple") rfl z_isinstance rfl z_tuple ziq (by decide) (zad 2)))) (zgg (zfe (zy5 zmq zmq (zg8 λ_ _ _ _=>.bl _) (zg8 λ_ _ _ _=>.bl _) (zai) (zd4 rfl z_len (zae (zad 2) (zaf))) (zgf rfl c_MOST_ROOMS)))))) (zan (zba (zge))) (zbt)) (zan (zba (zri rfl rfl z_all (zae (zfs (N':=["room","asks","rooms"]) (ixs:=[none,some 1,some 2]) rfl (zer (scO:=za2 (top bd 19)) (NO:=ydl) rfl rfl (by decide +kernel)) (ze5 (zad 2)) (λ_ _ _ _ _=>zcp 0 ydk) (λ_ _ _ _ _=>zem) (λ_ _ _ _ _=>zaw h_m_is_room hr (by decide) rfl (zae (zad 0) (zae (zad 1) (zae (zd4 rfl z_len (zae (zad 2) (zaf))) (zaf)))) (zah (zah (zah zao))))) (zaf))))))))
theorem ztl:FnScope ["text","count","number"] ["text","count"] (za2 (top bd 24)):=⟨rfl,rfl,rfl,by decide +kernel,rfl,by decide +kernel,by decide +kernel⟩
theorem h_m_read_number (F:FJ K mg "read_number" (top bd 24)) (z_str:mg "str" = none) (z_range:mg "range" = none) (q_NoText:mg "NoText" = some (.ref (CA "NoText"))) (x_NoText:PySem.W.excIn K (CA "NoText") zea "ValueError.__new__" = true):Has P w K mg base "read_number" 1 2 zdw:=by
 have sc:=ztl
 refine zdq (k:=0) F sc rfl (bl2 λ_ _=>λ_ _ _ _ _ _=>rfl) λf cdv hcd A outer s H E hr=>?_
 exact zal (zjs PassesOwn.never rfl rfl z_range (zae (zad 1) (zaf)) (zcp 2 sc.nd) (zan (zbn (zdn (zad 0) (ziu rfl z_str (zae (zad 2) (zaf)))) (zan (zba (zad 2))) (zbt)))) (zan (zh5))
theorem hz_read_number (F:FJ K mg "read_number" (top bd 24)) (z_str:mg "str" = none) (z_range:mg "range" = none) (q_NoText:mg "NoText" = some (.ref (CA "NoText"))) (x_NoText:PySem.W.excIn K (CA "NoText") zea "ValueError.__new__" = true):zdg P w K mg base CA "read_number" 1 2 zeb:=by
 have sc:=ztl
 refine zi2 (k:=0) F sc rfl (bl2 λ_ _=>λ_ _ _ _ _ _=>rfl) λf cdv hcd A outer s H E hr=>?_
 exact zf4 (zjs PassesOwn.leaving rfl rfl z_range (zae (zad 1) (zaf)) (zcp 2 sc.nd) (zan (zbn (zdn (zad 0) (ziu rfl z_str (zae (zad 2) (zaf)))) (zan (zba (zad 2))) (zbt)))) (zes (zj2 rfl q_NoText x_NoText))
theorem ztm:FnScope ["text","count"] ["text","count"] (za2 (top bd 25)):=⟨rfl,rfl,rfl,by decide +kernel,rfl,by decide +kernel,by decide +kernel⟩
theorem h_m_read_part (F:FJ K mg "read_part" (top bd 25)) (h_m_read_number:Has P w K mg base "read_number" 1 2 zdw) (hz_read_number:zdg P w K mg base CA "read_number" 1 2 zeb):Has P w K mg base "read_part" 2 2 zeh:=by
 have sc:=ztm
 refine zdq (k:=1) F sc rfl (bl2 λ_ _=>λ_ _ _ _ _ _=>rfl) λf cdv hcd A outer s H E hr=>?_
 exact zan (zba (zy8 (zdn (zad 0) (za3)) (zd6) (zaw h_m_read_number hr (by decide) rfl (zae (zad 0) (zae (zad 1) (zaf))) (zah (zah zao)))))
theorem hz_read_part (F:FJ K mg "read_part" (top bd 25)) (h_m_read_number:Has P w K mg base "read_number" 1 2 zdw) (hz_read_number:zdg P w K mg base CA "read_number" 1 2 zeb):zdg P w K mg base CA "read_part" 2 2 zff:=by
 have sc:=ztm
 refine zi2 (k:=1) F sc rfl (bl2 λ_ _=>λ_ _ _ _ _ _=>rfl) λf cdv hcd A outer s H E hr=>?_
 exact zes (znm (ycx (zdn (zad 0) (za3)) (ybx) (zhd hz_read_number zia hr (by decide) rfl (zae (zad 0) (zae (zad 1) (zaf))) (zah (zah zao)))))
theorem ztn:FnScope ["thing"] ["thing"] (za2 (top bd 23)):=⟨rfl,rfl,rfl,by decide +kernel,rfl,by decide +kernel,by decide +kernel⟩
theorem h_m_refuse_no_text (F:FJ K mg "refuse_no_text" (top bd 23)) (z_isinstance:mg "isinstance" = none) (z_str:mg "str" = none) (q_NoText:mg "NoText" = some (.ref (CA "NoText"))) (x_NoText:PySem.W.excIn K (CA "NoText") zea "ValueError.__new__" = true):Has P w K mg base "refuse_no_text" 1 1 zee:=by
 have sc:=ztn
 refine zdq (k:=0) F sc rfl (bl1 λ_=>λ_ _ _ _ _ _=>rfl) λf cdv hcd A outer s H E hr=>?_
 exact zan (zbn (zfe (zfo (zhm (U:="str") rfl z_isinstance rfl z_str zne (by decide) (zad 0)))) (zan (zh5)) (zbt))
theorem hz_refuse_no_text (F:FJ K mg "refuse_no_text" (top bd 23)) (z_isinstance:mg "isinstance" = none) (z_str:mg "str" = none) (q_NoText:mg "NoText" = some (.ref (CA "NoText"))) (x_NoText:PySem.W.excIn K (CA "NoText") zea "ValueError.__new__" = true):zdg P w K mg base CA "refuse_no_text" 1 1 ze7:=by
 have sc:=ztn
 refine zi2 (k:=0) F sc rfl (bl1 λ_=>λ_ _ _ _ _ _=>rfl) λf cdv hcd A outer s H E hr=>?_
 exact zes (zlq (zfe (zfo (zhm (U:="str") rfl z_isinstance rfl z_str zne (by decide) (zad 0)))) (zes (zj2 rfl q_NoText x_NoText)) (zlo))
theorem zto:FnScope ["text","parts"] ["text"] (za2 (top bd 26)):=⟨rfl,rfl,rfl,by decide +kernel,rfl,by decide +kernel,by decide +kernel⟩
theorem h_m_read_cell (F:FJ K mg "read_cell" (top bd 26)) (z_len:mg "len" = none) (c_ANSWERS:∃t,mg "ANSWERS" = some (.int 8 t)) (c_MOST_ROOMS:∃t,mg "MOST_ROOMS" = some (.int 24 t)) (h_m_read_part:Has P w K mg base "read_part" 2 2 zeh) (h_m_refuse_no_text:Has P w K mg base "refuse_no_text" 1 1 zee) (hz_refuse_no_text:zdg P w K mg base CA "refuse_no_text" 1 1 ze7) (hz_read_part:zdg P w K mg base CA "read_part" 2 2 zff) (q_NoText:mg "NoText" = some (.ref (CA "NoText"))) (x_NoText:PySem.W.excIn K (CA "NoText") zea "ValueError.__new__" = true):Has P w K mg base "read_cell" 3 1 zd1:=by
 obtain ⟨_,c_ANSWERS⟩:=c_ANSWERS
 obtain ⟨_,c_MOST_ROOMS⟩:=c_MOST_ROOMS
 have sc:=zto
 refine zdq (k:=2) F sc rfl (bl1 λ_=>λ_ _ _ _ _ _=>rfl) λf cdv hcd A outer s H E hr=>?_
 exact zal (zgw (zaw h_m_refuse_no_text hr (by decide) rfl (zae (zad 0) (zaf)) (zah zao))) (zal (za4 1 sc.nd (zf5 (zad 0) (za3))) (zal (zbn (zgt (zd4 rfl z_len (zae (zad 1) (zaf))) (zai)) (zan (zh5)) (zbt)) (zan (zba (zec (zae (zaw h_m_read_part hr (by decide) rfl (zae (zcy (zad 1) (zai)) (zae (zgf rfl c_MOST_ROOMS) (zaf))) (zah (zah zao))) (zae (zaw h_m_read_part hr (by decide) rfl (zae (zcy (zad 1) (zai)) (zae (zgf rfl c_ANSWERS) (zaf))) (zah (zah zao))) (zaf))))))))
theorem hz_read_cell (F:FJ K mg "read_cell" (top bd 26)) (z_len:mg "len" = none) (c_ANSWERS:∃t,mg "ANSWERS" = some (.int 8 t)) (c_MOST_ROOMS:∃t,mg "MOST_ROOMS" = some (.int 24 t)) (h_m_read_part:Has P w K mg base "read_part" 2 2 zeh) (h_m_refuse_no_text:Has P w K mg base "refuse_no_text" 1 1 zee) (hz_refuse_no_text:zdg P w K mg base CA "refuse_no_text" 1 1 ze7) (hz_read_part:zdg P w K mg base CA "read_part" 2 2 zff) (q_NoText:mg "NoText" = some (.ref (CA "NoText"))) (x_NoText:PySem.W.excIn K (CA "NoText") zea "ValueError.__new__" = true):zdg P w K mg base CA "read_cell" 3 1 zep:=by
 obtain ⟨_,c_ANSWERS⟩:=c_ANSWERS
 obtain ⟨_,c_MOST_ROOMS⟩:=c_MOST_ROOMS
 have sc:=zto
 refine zi2 (k:=2) F sc rfl (bl1 λ_=>λ_ _ _ _ _ _=>rfl) λf cdv hcd A outer s H E hr=>?_
 exact zib (zes (znn (zhd hz_refuse_no_text zia hr (by decide) rfl (zae (zad 0) (zaf)) (zah zao)))) (zf4 (zgw (zaw h_m_refuse_no_text hr (by decide) rfl (zae (zad 0) (zaf)) (zah zao))) (zf4 (za4 1 sc.nd (zf5 (zad 0) (za3))) (zib (zes (zlq (zgt (zd4 rfl z_len (zae (zad 1) (zaf))) (zai)) (zes (zj2 rfl q_NoText x_NoText)) (zlo))) (zf4 (zbn (zgt (zd4 rfl z_len (zae (zad 1) (zaf))) (zai)) (zan (zh5)) (zbt)) (zes (znm (yb1 (yby (zlp (zhd hz_read_part zia hr (by decide) rfl (zae (zcy (zad 1) (zai)) (zae (zgf rfl c_MOST_ROOMS) (zaf))) (zah (zah zao)))) (yb0 (zaw h_m_read_part hr (by decide) rfl (zae (zcy (zad 1) (zai)) (zae (zgf rfl c_MOST_ROOMS) (zaf))) (zah (zah zao))) (zlp (zhd hz_read_part zia hr (by decide) rfl (zae (zcy (zad 1) (zai)) (zae (zgf rfl c_ANSWERS) (zaf))) (zah (zah zao)))))))))))))
theorem ztp:FnScope ["text","head","sign","rest","asks","rooms","machine"] ["text"] (za2 (top bd 27)):=⟨rfl,rfl,rfl,by decide +kernel,rfl,by decide +kernel,by decide +kernel⟩
theorem zn5:List.Nodup (["room"]:List Str):=by decide +kernel
theorem zlz:List.Nodup (["cell"]:List Str):=by decide +kernel
noncomputable abbrev zn6:List Str:=["text","head","sign","rest","asks","rooms","machine"]
theorem h_m_read_machine (F:FJ K mg "read_machine" (top bd 27)) (z_tuple:mg "tuple" = none) (c_MOST_ASKS:∃t,mg "MOST_ASKS" = some (.int 4 t)) (h_m_is_machine:Has P w K mg base "is_machine" 4 1 zgy) (h_m_read_cell:Has P w K mg base "read_cell" 3 1 zd1) (h_m_read_number:Has P w K mg base "read_number" 1 2 zdw) (h_m_refuse_no_text:Has P w K mg base "refuse_no_text" 1 1 zee) (hz_refuse_no_text:zdg P w K mg base CA "refuse_no_text" 1 1 ze7) (hz_read_number:zdg P w K mg base CA "read_number" 1 2 zeb) (hz_read_cell:zdg P w K mg base CA "read_cell" 3 1 zep) (q_NoText:mg "NoText" = some (.ref (CA "NoText"))) (x_NoText:PySem.W.excIn K (CA "NoText") zea "ValueError.__new__" = true):Has P w K mg base "read_machine" 5 1 zf7:=by
 obtain ⟨_,c_MOST_ASKS⟩:=c_MOST_ASKS
 have sc:=ztp
 refine zdq (k:=4) F sc rfl (bl1 λ_=>λ_ _ _ _ _ _=>rfl) λf cdv hcd A outer s H E hr=>?_
 exact zal (zgw (zaw h_m_refuse_no_text hr (by decide) rfl (zae (zad 0) (zaf)) (zah zao))) (zal (zh6 (zsa (zad 0) (za3)) (zjr rfl (zfz (zcp 1 sc.nd) (zfz (zcp 2 sc.nd) (zfz (zcp 3 sc.nd) (zjq)))))) (zal (za4 4 sc.nd (zaw h_m_read_number hr (by decide) rfl (zae (zad 1) (zae (zb0 (zgf rfl c_MOST_ASKS) (zai)) (zaf))) (zah (zah zao)))) (zal (zio 5 sc.nd (N':=["room"]) (ixs:=[none]) rfl (zer (scO:=za2 (top bd 27)) (NO:=zn6) rfl rfl (by decide +kernel)) (ze5 (zf5 (zad 3) (za3))) (λ_ _ _ _ _=>zcp 0 zn5) (λ_ _ _ _ _=>zem) (λ_ _ _ _ _=>zf3 rfl z_tuple (zae (zfs (N':=["cell"]) (ixs:=[none]) rfl (zjx (by decide +kernel)) (ze5 (zf5 (zad 0) (za3))) (λ_ _ _ _ _=>zcp 0 zlz) (λ_ _ _ _ _=>zem) (λ_ _ _ _ _=>zaw h_m_read_cell hr (by decide) rfl (zae (zad 0) (zaf)) (zah zao))) (zaf)))) (zal (za4 6 sc.nd (zec (zae (zad 4) (zae (zf3 rfl z_tuple (zae (zad 5) (zaf))) (zaf))))) (zal (zbn (zfe (zfo (zaw h_m_is_machine hr (by decide) rfl (zae (zad 6) (zaf)) (zah zao)))) (zan (zh5)) (zbt)) (zan (zba (zad 6))))))))
theorem hz_read_machine (F:FJ K mg "read_machine" (top bd 27)) (z_tuple:mg "tuple" = none) (c_MOST_ASKS:∃t,mg "MOST_ASKS" = some (.int 4 t)) (h_m_is_machine:Has P w K mg base "is_machine" 4 1 zgy) (h_m_read_cell:Has P w K mg base "read_cell" 3 1 zd1) (h_m_read_number:Has P w K mg base "read_number" 1 2 zdw) (h_m_refuse_no_text:Has P w K mg base "refuse_no_text" 1 1 zee) (hz_refuse_no_text:zdg P w K mg base CA "refuse_no_text" 1 1 ze7) (hz_read_number:zdg P w K mg base CA "read_number" 1 2 zeb) (hz_read_cell:zdg P w K mg base CA "read_cell" 3 1 zep) (q_NoText:mg "NoText" = some (.ref (CA "NoText"))) (x_NoText:PySem.W.excIn K (CA "NoText") zea "ValueError.__new__" = true):zdg P w K mg base CA "read_machine" 5 1 zgz:=by
 obtain ⟨_,c_MOST_ASKS⟩:=c_MOST_ASKS
 have sc:=ztp
 refine zi2 (k:=4) F sc rfl (bl1 λ_=>λ_ _ _ _ _ _=>rfl) λf cdv hcd A outer s H E hr=>?_
 exact zib (zes (znn (zhd hz_refuse_no_text zia hr (by decide) rfl (zae (zad 0) (zaf)) (zah zao)))) (zf4 (zgw (zaw h_m_refuse_no_text hr (by decide) rfl (zae (zad 0) (zaf)) (zah zao))) (zf4 (zh6 (zsa (zad 0) (za3)) (zjr rfl (zfz (zcp 1 sc.nd) (zfz (zcp 2 sc.nd) (zfz (zcp 3 sc.nd) (zjq)))))) (zib (zes (yb2 (zhd hz_read_number zia hr (by decide) rfl (zae (zad 1) (zae (zb0 (zgf rfl c_MOST_ASKS) (zai)) (zaf))) (zah (zah zao))))) (zf4 (za4 4 sc.nd (zaw h_m_read_number hr (by decide) rfl (zae (zad 1) (zae (zb0 (zgf rfl c_MOST_ASKS) (zai)) (zaf))) (zah (zah zao)))) (zib (zes (ydd 5 sc.nd (N':=["room"]) (ixs:=[none]) zse rfl (zer (scO:=za2 (top bd 27)) (NO:=zn6) rfl rfl (by decide +kernel)) (ze5 (zf5 (zad 3) (za3))) (λ_ _ _ _ _=>zcp 0 zn5) (λ_ _ _ _ _=>zem) (λ_ _ _ _ _=>zf3 rfl z_tuple (zae (zfs (N':=["cell"]) (ixs:=[none]) rfl (zjx (by decide +kernel)) (ze5 (zf5 (zad 0) (za3))) (λ_ _ _ _ _=>zcp 0 zlz) (λ_ _ _ _ _=>zem) (λ_ _ _ _ _=>zaw h_m_read_cell hr (by decide) rfl (zae (zad 0) (zaf)) (zah zao))) (zaf))) (λ_ _ _ _ _ xf=>zsi rfl z_tuple (zlp (zsh (N':=["cell"]) (ixs:=[none]) xf rfl (zjx (by decide +kernel)) (ze5 (zf5 (zad 0) (za3))) (λ_ _ _ _ _=>zcp 0 zlz) (λ_ _ _ _ _=>zem) (λ_ _ _ _ _=>zaw h_m_read_cell hr (by decide) rfl (zae (zad 0) (zaf)) (zah zao)) (λ_ _ _ _ _ xf=>zhd hz_read_cell xf.passes hr (by decide) rfl (zae (zad 0) (zaf)) (zah zao))))))) (zf4 (zio 5 sc.nd (N':=["room"]) (ixs:=[none]) rfl (zer (scO:=za2 (top bd 27)) (NO:=zn6) rfl rfl (by decide +kernel)) (ze5 (zf5 (zad 3) (za3))) (λ_ _ _ _ _=>zcp 0 zn5) (λ_ _ _ _ _=>zem) (λ_ _ _ _ _=>zf3 rfl z_tuple (zae (zfs (N':=["cell"]) (ixs:=[none]) rfl (zjx (by decide +kernel)) (ze5 (zf5 (zad 0) (za3))) (λ_ _ _ _ _=>zcp 0 zlz) (λ_ _ _ _ _=>zem) (λ_ _ _ _ _=>zaw h_m_read_cell hr (by decide) rfl (zae (zad 0) (zaf)) (zah zao))) (zaf)))) (zf4 (za4 6 sc.nd (zec (zae (zad 4) (zae (zf3 rfl z_tuple (zae (zad 5) (zaf))) (zaf))))) (zes (zlq (zfe (zfo (zaw h_m_is_machine hr (by decide) rfl (zae (zad 6) (zaf)) (zah zao)))) (zes (zj2 rfl q_NoText x_NoText)) (zlo))))))))))
theorem ztq:FnScope ["asks","text"] ["asks","text"] (za2 (top bd 28)):=⟨rfl,rfl,rfl,by decide +kernel,rfl,by decide +kernel,by decide +kernel⟩
theorem ztr:List.Nodup (["sign","asks"]:List Str):=by decide +kernel
noncomputable abbrev zts:List Str:=["asks","text"]
theorem h_m_read_row (F:FJ K mg "read_row" (top bd 28)) (z_tuple:mg "tuple" = none) (h_m_read_number:Has P w K mg base "read_number" 1 2 zdw) (h_m_refuse_no_text:Has P w K mg base "refuse_no_text" 1 1 zee) (hz_refuse_no_text:zdg P w K mg base CA "refuse_no_text" 1 1 ze7) (hz_read_number:zdg P w K mg base CA "read_number" 1 2 zeb) (q_NoText:mg "NoText" = some (.ref (CA "NoText"))) (x_NoText:PySem.W.excIn K (CA "NoText") zea "ValueError.__new__" = true):Has P w K mg base "read_row" 2 2 zf8:=by
 have sc:=ztq
 refine zdq (k:=1) F sc rfl (bl2 λ_ _=>λ_ _ _ _ _ _=>rfl) λf cdv hcd A outer s H E hr=>?_
 exact zal (zgw (zaw h_m_refuse_no_text hr (by decide) rfl (zae (zad 1) (zaf)) (zah zao))) (zal (zbn (zdn (zad 1) (za3)) (zan (zba (zec (zaf)))) (zbt)) (zal (zbn (zdn (zad 1) (za3)) (zan (zh5)) (zbt)) (zan (zba (zf3 rfl z_tuple (zae (zfs (N':=["sign","asks"]) (ixs:=[none,some 0]) rfl (zer (scO:=za2 (top bd 28)) (NO:=zts) rfl rfl (by decide +kernel)) (zj3 (zad 1)) (λ_ _ _ _ _=>zcp 0 ztr) (λ_ _ _ _ _=>zem) (λ_ _ _ _ _=>zaw h_m_read_number hr (by decide) rfl (zae (zad 0) (zae (zad 1) (zaf))) (zah (zah zao)))) (zaf)))))))
theorem hz_read_row (F:FJ K mg "read_row" (top bd 28)) (z_tuple:mg "tuple" = none) (h_m_read_number:Has P w K mg base "read_number" 1 2 zdw) (h_m_refuse_no_text:Has P w K mg base "refuse_no_text" 1 1 zee) (hz_refuse_no_text:zdg P w K mg base CA "refuse_no_text" 1 1 ze7) (hz_read_number:zdg P w K mg base CA "read_number" 1 2 zeb) (q_NoText:mg "NoText" = some (.ref (CA "NoText"))) (x_NoText:PySem.W.excIn K (CA "NoText") zea "ValueError.__new__" = true):zdg P w K mg base CA "read_row" 2 2 zg0:=by
 have sc:=ztq
 refine zi2 (k:=1) F sc rfl (bl2 λ_ _=>λ_ _ _ _ _ _=>rfl) λf cdv hcd A outer s H E hr=>?_
 exact zib (zes (znn (zhd hz_refuse_no_text zia hr (by decide) rfl (zae (zad 1) (zaf)) (zah zao)))) (zf4 (zgw (zaw h_m_refuse_no_text hr (by decide) rfl (zae (zad 1) (zaf)) (zah zao))) (zf4 (zbn (zdn (zad 1) (za3)) (zan (zba (zec (zaf)))) (zbt)) (zib (zes (zlq (zdn (zad 1) (za3)) (zes (zj2 rfl q_NoText x_NoText)) (zlo))) (zf4 (zbn (zdn (zad 1) (za3)) (zan (zh5)) (zbt)) (zes (znm (zsi rfl z_tuple (zlp (zsh (N':=["sign","asks"]) (ixs:=[none,some 0]) zse rfl (zer (scO:=za2 (top bd 28)) (NO:=zts) rfl rfl (by decide +kernel)) (zj3 (zad 1)) (λ_ _ _ _ _=>zcp 0 ztr) (λ_ _ _ _ _=>zem) (λ_ _ _ _ _=>zaw h_m_read_number hr (by decide) rfl (zae (zad 0) (zae (zad 1) (zaf))) (zah (zah zao))) (λ_ _ _ _ _ xf=>zhd hz_read_number xf.passes hr (by decide) rfl (zae (zad 0) (zae (zad 1) (zaf))) (zah (zah zao))))))))))))
theorem ydm:FnScope ["_law_way","_law_asks","_law_thing","_law_caught","_law_found","e","_law_others"] ["_law_way","_law_asks","_law_thing"] (za2 (top bd 44)):=⟨rfl,rfl,rfl,by decide +kernel,rfl,by decide +kernel,by decide +kernel⟩
theorem h_m_law_told (F:FJ K mg "_law_told" (top bd 44)) (z_isinstance:mg "isinstance" = none) (z_ValueError:mg "ValueError" = none) (z_repr:mg "repr" = none) (h_m_read_machine:Has P w K mg base "read_machine" 5 1 zf7) (h_m_read_cell:Has P w K mg base "read_cell" 3 1 zd1) (h_m_read_row:Has P w K mg base "read_row" 2 2 zf8) (hz_read_machine:zdg P w K mg base CA "read_machine" 5 1 zgz) (hz_read_cell:zdg P w K mg base CA "read_cell" 3 1 zep) (hz_read_row:zdg P w K mg base CA "read_row" 2 2 zg0) (q_NoText:mg "NoText" = some (.ref (CA "NoText"))) (q_TooMany:mg "TooMany" = some (.ref (CA "TooMany"))) (q_Unlike:mg "Unlike" = some (.ref (CA "Unlike"))) (q_Unreached:mg "Unreached" = some (.ref (CA "Unreached"))) (q_Clash:mg "Clash" = some (.ref (CA "Clash"))) (q_NoBack:mg "NoBack" = some (.ref (CA "NoBack"))) (q_NoLine:mg "NoLine" = some (.ref (CA "NoLine"))) (q_NoName:mg "NoName" = some (.ref (CA "NoName"))) (q_NoWords:mg "NoWords" = some (.ref (CA "NoWords"))) (q_NotClosed:mg "NotClosed" = some (.ref (CA "NotClosed"))) (q_NotFull:mg "NotFull" = some (.ref (CA "NotFull"))) (q_NotOpen:mg "NotOpen" = some (.ref (CA "NotOpen"))) (q_CellError:mg "CellError" = some (.ref (CA "CellError"))) (x_CellError:PySem.W.excIn K (CA "CellError") zea "ValueError.__new__" = true) (x_NoText:PySem.W.excIn K (CA "NoText") zea "ValueError.__new__" = true) (n_NoText:PySem.W.nsIn K mainGlobals "NoText" = some (some (.ref (CA "NoText")))) (s_NoText_CellError:(Value.ref (CA "NoText") :: zhe K (CA "NoText")).contains (.ref (CA "CellError"))=true) (e_NoText:ExcQ K (CA "NoText")) (i_0:PySem.W.kitOne K (.ref (CA "NoText")) (.ref (CA "NoText"))=some true) (i_1:PySem.W.kitOne K (.ref (CA "NoText")) (.type "ValueError")=some true) (i_2:PySem.W.kitAny K (.ref (CA "NoText")) [.ref (CA "TooMany"),.ref (CA "Unlike"),.ref (CA "Unreached")]=some false) (i_3:PySem.W.kitAny K (.ref (CA "NoText")) [.ref (CA "Clash"),.ref (CA "NoBack"),.ref (CA "NoLine"),.ref (CA "NoName"),.ref (CA "NoWords"),.ref (CA "NotClosed"),.ref (CA "NotFull"),.ref (CA "NotOpen")]=some false):Has P w K mg base "_law_told" 6 3 zey:=by
 have sc:=ydm
 refine zdq (k:=5) F sc rfl (bl3 λ_ _ _=>λ_ _ _ _ _ _=>rfl) λf cdv hcd A outer s H E hr=>?_
 exact zal (za4 3 sc.nd (zd6)) (zal (za4 4 sc.nd (zd6)) (zal (ycy (CA:=CA) 5 sc.nd (λ_ _ h=>h) rfl rfl rfl q_CellError x_CellError (yck ⟨n_NoText,x_NoText,s_NoText_CellError⟩) (λ_=>zan (za4 3 sc.nd (zad 5))) (λ_=>zsj (λ_ _ h=>h) (zdn (zad 0) (zai)) (znq hz_read_machine (λ_ _ h=>h) hr (by decide) (zae (zad 2) (zaf)) (zah zao)) (zsj (λ_ _ h=>h) (zdn (zad 0) (zai)) (znq hz_read_cell (λ_ _ h=>h) hr (by decide) (zae (zad 2) (zaf)) (zah zao)) (znq hz_read_row (λ_ _ h=>h) hr (by decide) (zae (zad 1) (zae (zad 2) (zaf))) (zah (zah zao))))) (zan (zbn (zdn (zad 0) (zai)) (zan (za4 4 sc.nd (zaw h_m_read_machine hr (by decide) rfl (zae (zad 2) (zaf)) (zah zao)))) (zan (zbn (zdn (zad 0) (zai)) (zan (za4 4 sc.nd (zaw h_m_read_cell hr (by decide) rfl (zae (zad 2) (zaf)) (zah zao)))) (zan (za4 4 sc.nd (zaw h_m_read_row hr (by decide) rfl (zae (zad 1) (zae (zad 2) (zaf))) (zah (zah zao)))))))))) (zal (zbn (zm8 (zad 3) (zd6)) (zan (zba (zec (zae (za3) (zae (zq5 hr rfl z_repr (zae (zad 4) (zaf))) (zaf)))))) (zbt)) (zal (za4 6 sc.nd (zr0 rfl z_isinstance (zad 3) (zgp rfl q_Clash (zgp rfl q_NoBack (zgp rfl q_NoLine (zgp rfl q_NoName (zgp rfl q_NoWords (zgp rfl q_NotClosed (zgp rfl q_NotFull (zgp rfl q_NotOpen (zrx))))))))) (by simp only [List.length_cons,List.length_nil];decide) (zls (R:=λC b=>ExcQ _ C/\PySem.W.kitAny _ (.ref C) _=some b) n_NoText ⟨e_NoText,i_3⟩))) (zal (za4 6 sc.nd (zm4 (zad 6) (zik (zr0 rfl z_isinstance (zad 3) (zgp rfl q_TooMany (zgp rfl q_Unlike (zgp rfl q_Unreached (zrx)))) (by simp only [List.length_cons,List.length_nil];decide) (zls (R:=λC b=>ExcQ _ C/\PySem.W.kitAny _ (.ref C) _=some b) n_NoText ⟨e_NoText,i_2⟩))))) (zan (zba (zec (zae (za3) (zae (zjh (yci rfl z_isinstance (zad 3) rfl q_NoText (zls (R:=λC b=>ExcQ _ C/\PySem.W.kitOne _ (.ref C) _=some b) n_NoText ⟨e_NoText,i_0⟩)) (zjh (ycj (U:="ValueError") rfl z_isinstance (zad 3) rfl z_ValueError (by decide +kernel) (zls (R:=λC b=>ExcQ _ C/\PySem.W.kitOne _ (.ref C) _=some b) n_NoText ⟨e_NoText,i_1⟩)) (zik (zqk (zad 6))))) (zaf)))))))))))
theorem ydn:FnScope ["_law_text","_law_most","_law_strange"] ["_law_text","_law_most"] (za2 (top bd 40)):=⟨rfl,rfl,rfl,by decide +kernel,rfl,by decide +kernel,by decide +kernel⟩
theorem ztt:List.Nodup (["_law_sign"]:List Str):=by decide +kernel
noncomputable abbrev ydo:List Str:=["_law_text","_law_most","_law_strange"]
theorem h_m_law_part_of (F:FJ K mg "_law_part_of" (top bd 40)) (z_int:mg "int" = none) (z_len:mg "len" = none):Has P w K mg base "_law_part_of" 1 2 zg1:=by
 have sc:=ydn
 refine zdq (k:=0) F sc rfl (bl2 λ_ _=>λ_ _ _ _ _ _=>rfl) λf cdv hcd A outer s H E hr=>?_
 exact zal (zbn (zdn (zad 0) (za3)) (zan (zba (zdm (zae (zd6) (zaf))))) (zbt)) (zal (zio 2 sc.nd (N':=["_law_sign"]) (ixs:=[none]) rfl (zer (scO:=za2 (top bd 40)) (NO:=ydo) rfl rfl (by decide +kernel)) (zj3 (zad 0)) (λ_ _ _ _ _=>zcp 0 ztt) (λ_ _ _ _ _=>zlg (zsk (zad 0) (za3))) (λ_ _ _ _ _=>zad 0)) (zal (zbn (zfd (zfx (zdn (zad 0) (za3)) (zfx (zjl (zd4 rfl z_len (zae (zad 0) (zaf))) (zai)) (zgg (znj hr (zad 2) (zdm (zaf))))))) (zan (zba (zdm (zaf)))) (zbt)) (zal (zbn (zfd (zfx (zfd (zm3 (zdn (zd4 rfl z_len (zae (zad 0) (zaf))) (zai)) (zm2 (zdn (zcy (zad 0) (zai)) (za3))))) (zgg (zjl (ziw rfl z_int (zae (zad 0) (zaf))) (zad 1))))) (zan (zba (zdm (zaf)))) (zbt)) (zan (zba (zdm (zae (ziw rfl z_int (zae (zad 0) (zaf))) (zaf))))))))
theorem ydp:FnScope ["_law_text","_law_parts","_law_told_here"] ["_law_text"] (za2 (top bd 41)):=⟨rfl,rfl,rfl,by decide +kernel,rfl,by decide +kernel,by decide +kernel⟩
theorem h_m_law_cell_of (F:FJ K mg "_law_cell_of" (top bd 41)) (z_len:mg "len" = none) (h_m_law_part_of:Has P w K mg base "_law_part_of" 1 2 zg1):Has P w K mg base "_law_cell_of" 2 1 zhh:=by
 have sc:=ydp
 refine zdq (k:=1) F sc rfl (bl1 λ_=>λ_ _ _ _ _ _=>rfl) λf cdv hcd A outer s H E hr=>?_
 exact zal (za4 1 sc.nd (zf5 (zad 0) (za3))) (zal (zbn (zgt (zd4 rfl z_len (zae (zad 1) (zaf))) (zai)) (zan (zba (zd6))) (zbt)) (zal (za4 2 sc.nd (zb0 (zaw h_m_law_part_of hr (by decide) rfl (zae (zcy (zad 1) (zai)) (zae (zai) (zaf))) (zah (zah zao))) (zaw h_m_law_part_of hr (by decide) rfl (zae (zcy (zad 1) (zai)) (zae (zai) (zaf))) (zah (zah zao))))) (zal (zbn (zgt (zd4 rfl z_len (zae (zad 2) (zaf))) (zai)) (zan (zba (zd6))) (zbt)) (zan (zba (zec (zae (zcy (zad 2) (zai)) (zae (zcy (zad 2) (zai)) (zaf)))))))))
theorem ydq:FnScope ["_law_text","_law_rooms","_law_some","_law_cells"] ["_law_text"] (za2 (top bd 42)):=⟨rfl,rfl,rfl,by decide +kernel,rfl,by decide +kernel,by decide +kernel⟩
theorem ydr:List.Nodup (["_law_word"]:List Str):=by decide +kernel
theorem ztu:List.Nodup (["_law_goes","_law_speaks","_law_rooms"]:List Str):=by decide +kernel
noncomputable abbrev ztv:List Str:=["_law_text","_law_rooms","_law_some","_law_cells"]
theorem h_m_law_machine_of (F:FJ K mg "_law_machine_of" (top bd 42)) (z_tuple:mg "tuple" = none) (z_int:mg "int" = none) (z_len:mg "len" = none) (h_m_law_cell_of:Has P w K mg base "_law_cell_of" 2 1 zhh):Has P w K mg base "_law_machine_of" 3 1 ziy:=by
 have sc:=ydq
 refine zdq (k:=2) F sc rfl (bl1 λ_=>λ_ _ _ _ _ _=>rfl) λf cdv hcd A outer s H E hr=>?_
 exact zal (zbn (zfd (zfx (ya3 (zen (zad 0) (ze3) (zd7 (zai))) (zec (zae (za3) (zae (za3) (zae (za3) (zae (za3) (zaf))))))) (zgg (zgt (zen (zad 0) (zd7 (zai)) (zd7 (zai))) (za3))))) (zan (zba (zd6))) (zbt)) (zal (za4 1 sc.nd (zdm (zaf))) (zal (znd PassesOwn.never rfl (zf5 (zen (zad 0) (zd7 (zai)) (ze3)) (za3)) (zcp 2 sc.nd) (zal (zio 3 sc.nd (N':=["_law_word"]) (ixs:=[none]) rfl (zer (scO:=za2 (top bd 42)) (NO:=ztv) rfl rfl (by decide +kernel)) (ze5 (zf5 (zad 2) (za3))) (λ_ _ _ _ _=>zcp 0 ydr) (λ_ _ _ _ _=>zem) (λ_ _ _ _ _=>zaw h_m_law_cell_of hr (by decide) rfl (zae (zad 0) (zaf)) (zah zao))) (zal (zbn (zfd (zfx (yco hr (zd6) (zad 3)) (zgg (zgt (zd4 rfl z_len (zae (zad 3) (zaf))) (ziw rfl z_int (zae (zcy (zad 0) (zai)) (zaf))))))) (zan (zba (zd6))) (zbt)) (zan (zgw (zld (zad 1) (zf3 rfl z_tuple (zae (zad 3) (zaf))))))))) (zal (znd PassesOwn.never rfl (zad 1) (zcp 3 sc.nd) (zan (zbn (znj hr (zfs (N':=["_law_goes","_law_speaks","_law_rooms"]) (ixs:=[none,none,some 1]) rfl (zer (scO:=za2 (top bd 42)) (NO:=ztv) rfl rfl (by decide +kernel)) (ze5 (zad 3)) (λ_ _ _ _ _=>zjr rfl (zfz (zcp 0 ztu) (zfz (zcp 1 ztu) (zjq)))) (λ_ _ _ _ _=>zlg (zfd (zm3 (zzd (zad 0) (zd6)) (zm2 (zqo (zad 0) (zd4 rfl z_len (zae (zad 2) (zaf)))))))) (λ_ _ _ _ _=>zad 0)) (zdm (zaf))) (zan (zba (zd6))) (zbt)))) (zan (zba (zcy (zdm (zae (zd6) (zae (zec (zae (ziw rfl z_int (zae (zcy (zad 0) (zai)) (zaf))) (zae (zf3 rfl z_tuple (zae (zad 1) (zaf))) (zaf)))) (zaf)))) (ziw rfl z_int (zae (zy9 (zd4 rfl z_len (zae (zad 1) (zaf))) (zai)) (zaf)))))))))
theorem yds:FnScope ["_law_asks","_law_text"] ["_law_asks","_law_text"] (za2 (top bd 43)):=⟨rfl,rfl,rfl,by decide +kernel,rfl,by decide +kernel,by decide +kernel⟩
theorem ydt:List.Nodup (["_law_sign","_law_asks"]:List Str):=by decide +kernel
noncomputable abbrev ztw:List Str:=["_law_asks","_law_text"]
theorem h_m_law_row_of (F:FJ K mg "_law_row_of" (top bd 43)) (z_tuple:mg "tuple" = none) (z_int:mg "int" = none):Has P w K mg base "_law_row_of" 1 2 ziz:=by
 have sc:=yds
 refine zdq (k:=0) F sc rfl (bl2 λ_ _=>λ_ _ _ _ _ _=>rfl) λf cdv hcd A outer s H E hr=>?_
 exact zal (zbn (zdn (zad 1) (za3)) (zan (zba (zec (zaf)))) (zbt)) (zal (zbn (zfd (zfx (zdn (zad 1) (za3)) (zgg (znj hr (zfs (N':=["_law_sign","_law_asks"]) (ixs:=[none,some 0]) rfl (zer (scO:=za2 (top bd 43)) (NO:=ztw) rfl rfl (by decide +kernel)) (zj3 (zad 1)) (λ_ _ _ _ _=>zcp 0 ydt) (λ_ _ _ _ _=>zlg (zsk (zad 0) (zen (za3) (ze3) (zd7 (zad 1))))) (λ_ _ _ _ _=>zad 0)) (zdm (zaf)))))) (zan (zba (zd6))) (zbt)) (zan (zba (zf3 rfl z_tuple (zae (zfs (N':=["_law_sign"]) (ixs:=[none]) rfl (zer (scO:=za2 (top bd 43)) (NO:=ztw) rfl rfl (by decide +kernel)) (zj3 (zad 1)) (λ_ _ _ _ _=>zcp 0 ztt) (λ_ _ _ _ _=>zem) (λ_ _ _ _ _=>ziw rfl z_int (zae (zad 0) (zaf)))) (zaf))))))
theorem ydu:FnScope ["_law_way","_law_asks","_law_text","_law_due"] ["_law_way","_law_asks","_law_text"] (za2 (top bd 45)):=⟨rfl,rfl,rfl,by decide +kernel,rfl,by decide +kernel,by decide +kernel⟩
theorem h_m_law_right (F:FJ K mg "_law_right" (top bd 45)) (z_repr:mg "repr" = none) (h_m_law_told:Has P w K mg base "_law_told" 6 3 zey) (h_m_law_cell_of:Has P w K mg base "_law_cell_of" 2 1 zhh) (h_m_law_machine_of:Has P w K mg base "_law_machine_of" 3 1 ziy) (h_m_law_row_of:Has P w K mg base "_law_row_of" 1 2 ziz):Has P w K mg base "_law_right" 7 3 zez:=by
 have sc:=ydu
 refine zdq (k:=6) F sc rfl (bl3 λ_ _ _=>λ_ _ _ _ _ _=>rfl) λf cdv hcd A outer s H E hr=>?_
 exact zal (za4 3 sc.nd (zaw h_m_law_row_of hr (by decide) rfl (zae (zad 1) (zae (zad 2) (zaf))) (zah (zah zao)))) (zal (zbn (zdn (zad 0) (zai)) (zan (za4 3 sc.nd (zaw h_m_law_machine_of hr (by decide) rfl (zae (zad 2) (zaf)) (zah zao)))) (zbt)) (zal (zbn (zdn (zad 0) (zai)) (zan (za4 3 sc.nd (zaw h_m_law_cell_of hr (by decide) rfl (zae (zad 2) (zaf)) (zah zao)))) (zbt)) (zal (zbn (zm8 (zad 3) (zd6)) (zan (zba (zq9 hr (zaw h_m_law_told hr (by decide) rfl (zae (zad 0) (zae (zad 1) (zae (zad 2) (zaf)))) (zah (zah (zah zao)))) (zec (zae (za3) (zae (zge) (zaf))))))) (zbt)) (zan (zba (zq9 hr (zaw h_m_law_told hr (by decide) rfl (zae (zad 0) (zae (zad 1) (zae (zad 2) (zaf)))) (zah (zah (zah zao)))) (zec (zae (za3) (zae (zq5 hr rfl z_repr (zae (zad 3) (zaf))) (zaf))))))))))
theorem ydv:FnScope ["_law_pen_here","_law_many","_law_drawn","_law_number"] ["_law_pen_here","_law_many"] (za2 (top bd 31)):=⟨rfl,rfl,rfl,by decide +kernel,rfl,by decide +kernel,by decide +kernel⟩
theorem h_m_law_draw (F:FJ K mg "_law_draw" (top bd 31)):Has P w K mg base "_law_draw" 1 2 zco:=by
 have sc:=ydv
 refine zdq (k:=0) F sc rfl (bl2 λ_ _=>λ_ _ _ _ _ _=>rfl) λf cdv hcd A outer s H E hr=>?_
 exact zal (zh6 (zb0 (zcy (zad 0) (zai)) (zai)) (znc (zad 0) (zai))) (zal (zbn (zjl (zcy (zad 0) (zai)) (zai)) (zal (za4 2 sc.nd (zgh (zcy (zad 0) (zai)) (zad 1))) (zal (zh6 (zqn (zcy (zad 0) (zai)) (zad 1)) (znc (zad 0) (zai))) (zan (zba (zad 2))))) (zbt)) (zal (za4 3 sc.nd (zgh (zjw (zb0 (zcy (zad 0) (zai)) (zai)) (zb0 (zjw (zai) (zcy (zad 0) (zai))) (zai))) (zai))) (zal (za4 3 sc.nd (zgh (zb0 (zlc (zad 3) (zai)) (zjw (zai) (zcy (zad 0) (zai)))) (zai))) (zal (za4 3 sc.nd (zgh (zlc (zad 3) (zai)) (zcy (zdm (zae (zai) (zae (zai) (zae (zai) (zaf))))) (zgh (zcy (zad 0) (zai)) (zai))))) (zan (zba (zgh (zqn (zad 3) (zai)) (zad 1))))))))
theorem ydw:FnScope ["_law_signs_here"] [] (za2 (top bd 38)):=⟨rfl,rfl,rfl,by decide +kernel,rfl,by decide +kernel,by decide +kernel⟩
theorem h_m_law_signs (F:FJ K mg "_law_signs" (top bd 38)):Has P w K mg base "_law_signs" 1 0 zif:=by
 have sc:=ydw
 refine zdq (k:=0) F sc rfl (λus hl=>match us,hl with | [],_=>λ_ _ _ _ _ _=>rfl) λf cdv hcd A outer s H E hr=>?_
 exact zal (za4 0 sc.nd (za3)) (zan (zba (zb0 (zad 0) (za3))))
theorem ydx:FnScope ["_law_pen_here","_law_text","_law_way","_law_few","_law_signs_here","_law_sign","_law_at","_law_one","_law_two","_law_end","_law_twice","_law_fewer"] ["_law_pen_here","_law_text"] (za2 (top bd 39)):=⟨rfl,rfl,rfl,by decide +kernel,rfl,by decide +kernel,by decide +kernel⟩
theorem h_m_law_bent (F:FJ K mg "_law_bent" (top bd 39)) (z_len:mg "len" = none) (h_m_law_draw:Has P w K mg base "_law_draw" 1 2 zco) (h_m_law_signs:Has P w K mg base "_law_signs" 1 0 zif):Has P w K mg base "_law_bent" 2 2 zhr:=by
 have sc:=ydx
 refine zdq (k:=1) F sc rfl (bl2 λ_ _=>λ_ _ _ _ _ _=>rfl) λf cdv hcd A outer s H E hr=>?_
 exact zal (za4 2 sc.nd (zaw h_m_law_draw hr (by decide) rfl (zae (zad 0) (zae (zai) (zaf))) (zah (zah zao)))) (zal (za4 3 sc.nd (za3)) (zal (za4 4 sc.nd (zcy (zdm (zae (zsl h_m_law_signs hr (by decide) rfl) (zae (zad 3) (zaf)))) (zaw h_m_law_draw hr (by decide) rfl (zae (zad 0) (zae (zai) (zaf))) (zah (zah zao))))) (zal (za4 5 sc.nd (zcy (zad 4) (zaw h_m_law_draw hr (by decide) rfl (zae (zad 0) (zae (zd4 rfl z_len (zae (zad 4) (zaf))) (zaf))) (zah (zah zao))))) (zal (za4 6 sc.nd (zaw h_m_law_draw hr (by decide) rfl (zae (zad 0) (zae (zb0 (zd4 rfl z_len (zae (zad 1) (zaf))) (zai)) (zaf))) (zah (zah zao)))) (zal (zbn (zdn (zad 2) (zai)) (zan (zba (zb0 (zb0 (zen (zad 1) (ze3) (zd7 (zad 6))) (zad 5)) (zen (zad 1) (zd7 (zad 6)) (ze3))))) (zbt)) (zal (zbn (zdn (zad 2) (zai)) (zan (zba (zb0 (zen (zad 1) (ze3) (zd7 (zad 6))) (zen (zad 1) (zd7 (zb0 (zad 6) (zai))) (ze3))))) (zbt)) (zal (zbn (zdn (zad 2) (zai)) (zan (zba (zb0 (zb0 (zen (zad 1) (ze3) (zd7 (zad 6))) (zad 5)) (zen (zad 1) (zd7 (zb0 (zad 6) (zai))) (ze3))))) (zbt)) (zal (zbn (zdn (zad 2) (zai)) (zal (za4 7 sc.nd (zen (zad 1) (zd7 (zad 6)) (zd7 (zb0 (zad 6) (zai))))) (zal (za4 8 sc.nd (zen (zad 1) (zd7 (zb0 (zad 6) (zai))) (zd7 (zb0 (zad 6) (zai))))) (zan (zba (zb0 (zb0 (zb0 (zen (zad 1) (ze3) (zd7 (zad 6))) (zad 8)) (zad 7)) (zen (zad 1) (zd7 (zb0 (zad 6) (zai))) (ze3))))))) (zbt)) (zal (za4 9 sc.nd (zb0 (zad 6) (zaw h_m_law_draw hr (by decide) rfl (zae (zad 0) (zae (zai) (zaf))) (zah (zah zao))))) (zal (za4 10 sc.nd (zb0 (zen (zad 1) (ze3) (zd7 (zad 9))) (zen (zad 1) (zd7 (zad 6)) (ze3)))) (zal (za4 11 sc.nd (zb0 (zen (zad 1) (ze3) (zd7 (zad 6))) (zen (zad 1) (zd7 (zad 9)) (ze3)))) (zan (zba (zcy (zdm (zae (zad 10) (zae (zad 11) (zaf)))) (zqm (zad 2) (zai))))))))))))))))
theorem ydy:FnScope ["_law_row"] ["_law_row"] (za2 (top bd 37)):=⟨rfl,rfl,rfl,by decide +kernel,rfl,by decide +kernel,by decide +kernel⟩
theorem ydz:List.Nodup (["_law_ask"]:List Str):=by decide +kernel
noncomputable abbrev yd0:List Str:=["_law_row"]
theorem h_m_law_row_text (F:FJ K mg "_law_row_text" (top bd 37)) (z_str:mg "str" = none):Has P w K mg base "_law_row_text" 1 1 zkc:=by
 have sc:=ydy
 refine zdq (k:=0) F sc rfl (bl1 λ_=>λ_ _ _ _ _ _=>rfl) λf cdv hcd A outer s H E hr=>?_
 exact zal (zbn (yay hr (zad 0) (zec (zaf))) (zan (zba (za3))) (zbt)) (zan (zba (zjz (za3) (zfs (N':=["_law_ask"]) (ixs:=[none]) rfl (zer (scO:=za2 (top bd 37)) (NO:=yd0) rfl rfl (by decide +kernel)) (ze5 (zad 0)) (λ_ _ _ _ _=>zcp 0 ydz) (λ_ _ _ _ _=>zem) (λ_ _ _ _ _=>ziu rfl z_str (zae (zad 0) (zaf)))))))
theorem yd1:FnScope ["_law_number"] ["_law_number"] (za2 (top bd 34)):=⟨rfl,rfl,rfl,by decide +kernel,rfl,by decide +kernel,by decide +kernel⟩
theorem h_m_law_part_text (F:FJ K mg "_law_part_text" (top bd 34)) (z_str:mg "str" = none):Has P w K mg base "_law_part_text" 1 1 zi0:=by
 have sc:=yd1
 refine zdq (k:=0) F sc rfl (bl1 λ_=>λ_ _ _ _ _ _=>rfl) λf cdv hcd A outer s H E hr=>?_
 exact zal (zbn (zm8 (zad 0) (zd6)) (zan (zba (za3))) (zbt)) (zan (zba (ziu rfl z_str (zae (zad 0) (zaf)))))
theorem yd2:FnScope ["_law_cell_here"] ["_law_cell_here"] (za2 (top bd 35)):=⟨rfl,rfl,rfl,by decide +kernel,rfl,by decide +kernel,by decide +kernel⟩
theorem h_m_law_cell_text (F:FJ K mg "_law_cell_text" (top bd 35)) (h_m_law_part_text:Has P w K mg base "_law_part_text" 1 1 zi0):Has P w K mg base "_law_cell_text" 2 1 zig:=by
 have sc:=yd2
 refine zdq (k:=1) F sc rfl (bl1 λ_=>λ_ _ _ _ _ _=>rfl) λf cdv hcd A outer s H E hr=>?_
 exact zan (zba (zb0 (zb0 (zaw h_m_law_part_text hr (by decide) rfl (zae (zcy (zad 0) (zai)) (zaf)) (zah zao)) (za3)) (zaw h_m_law_part_text hr (by decide) rfl (zae (zcy (zad 0) (zai)) (zaf)) (zah zao))))
theorem yd3:FnScope ["_law_machine_here","_law_rooms"] ["_law_machine_here"] (za2 (top bd 36)):=⟨rfl,rfl,rfl,by decide +kernel,rfl,by decide +kernel,by decide +kernel⟩
theorem yd4:List.Nodup (["_law_cells"]:List Str):=by decide +kernel
theorem yd5:List.Nodup (["_law_cell_here"]:List Str):=by decide +kernel
noncomputable abbrev yd6:List Str:=["_law_machine_here","_law_rooms"]
theorem h_m_law_machine_text (F:FJ K mg "_law_machine_text" (top bd 36)) (z_str:mg "str" = none) (h_m_law_cell_text:Has P w K mg base "_law_cell_text" 2 1 zig):Has P w K mg base "_law_machine_text" 3 1 zkd:=by
 have sc:=yd3
 refine zdq (k:=2) F sc rfl (bl1 λ_=>λ_ _ _ _ _ _=>rfl) λf cdv hcd A outer s H E hr=>?_
 exact zal (zio 1 sc.nd (N':=["_law_cells"]) (ixs:=[none]) rfl (zer (scO:=za2 (top bd 36)) (NO:=yd6) rfl rfl (by decide +kernel)) (ze5 (zcy (zad 0) (zai))) (λ_ _ _ _ _=>zcp 0 yd4) (λ_ _ _ _ _=>zem) (λ_ _ _ _ _=>zjz (za3) (zfs (N':=["_law_cell_here"]) (ixs:=[none]) rfl (zjx (by decide +kernel)) (ze5 (zad 0)) (λ_ _ _ _ _=>zcp 0 yd5) (λ_ _ _ _ _=>zem) (λ_ _ _ _ _=>zaw h_m_law_cell_text hr (by decide) rfl (zae (zad 0) (zaf)) (zah zao))))) (zan (zba (zb0 (zb0 (ziu rfl z_str (zae (zcy (zad 0) (zai)) (zaf))) (za3)) (zjz (za3) (zad 1)))))
theorem yd7:FnScope ["_law_pen_here","_law_many","_law_share","_law_pool","_law_goes","_law_speaks"] ["_law_pen_here","_law_many","_law_share","_law_pool"] (za2 (top bd 32)):=⟨rfl,rfl,rfl,by decide +kernel,rfl,by decide +kernel,by decide +kernel⟩
theorem h_m_law_cell (F:FJ K mg "_law_cell" (top bd 32)) (h_m_law_draw:Has P w K mg base "_law_draw" 1 2 zco):Has P w K mg base "_law_cell" 2 4 zi1:=by
 have sc:=yd7
 refine zdq (k:=1) F sc rfl (bl4 λ_ _ _ _=>λ_ _ _ _ _ _=>rfl) λf cdv hcd A outer s H E hr=>?_
 exact zal (za4 4 sc.nd (zaw h_m_law_draw hr (by decide) rfl (zae (zad 0) (zae (zad 1) (zaf))) (zah (zah zao)))) (zal (za4 5 sc.nd (zaw h_m_law_draw hr (by decide) rfl (zae (zad 0) (zae (zad 3) (zaf))) (zah (zah zao)))) (zal (zbn (zm7 (zaw h_m_law_draw hr (by decide) rfl (zae (zad 0) (zae (zai) (zaf))) (zah (zah zao))) (zad 2)) (zan (za4 4 sc.nd (zd6))) (zbt)) (zal (zbn (zm7 (zaw h_m_law_draw hr (by decide) rfl (zae (zad 0) (zae (zai) (zaf))) (zah (zah zao))) (zad 2)) (zan (za4 5 sc.nd (zd6))) (zbt)) (zan (zba (zec (zae (zad 4) (zae (zad 5) (zaf)))))))))
theorem yd8:FnScope ["_law_pen_here","_law_most","_law_asks","_law_many","_law_share","_law_pool","_law_rooms","_law_k","_law_cells"] ["_law_pen_here","_law_most","_law_asks"] (za2 (top bd 33)):=⟨rfl,rfl,rfl,by decide +kernel,rfl,by decide +kernel,by decide +kernel⟩
theorem yd9:List.Nodup (["_law_ask","_law_pen_here","_law_many","_law_share","_law_pool"]:List Str):=by decide +kernel
noncomputable abbrev yea:List Str:=["_law_pen_here","_law_most","_law_asks","_law_many","_law_share","_law_pool","_law_rooms","_law_k","_law_cells"]
theorem h_m_law_machine (F:FJ K mg "_law_machine" (top bd 33)) (z_tuple:mg "tuple" = none) (z_list:mg "list" = none) (z_range:mg "range" = none) (h_m_law_draw:Has P w K mg base "_law_draw" 1 2 zco) (h_m_law_cell:Has P w K mg base "_law_cell" 2 4 zi1):Has P w K mg base "_law_machine" 3 3 zke:=by
 have sc:=yd8
 refine zdq (k:=2) F sc rfl (bl3 λ_ _ _=>λ_ _ _ _ _ _=>rfl) λf cdv hcd A outer s H E hr=>?_
 exact zal (za4 3 sc.nd (zb0 (zai) (zaw h_m_law_draw hr (by decide) rfl (zae (zad 0) (zae (zad 1) (zaf))) (zah (zah zao))))) (zal (za4 4 sc.nd (zcy (zdm (zae (zai) (zae (zai) (zae (zai) (zae (zai) (zaf)))))) (zaw h_m_law_draw hr (by decide) rfl (zae (zad 0) (zae (zai) (zaf))) (zah (zah zao))))) (zal (za4 5 sc.nd (zcy (zdm (zae (zai) (zae (zai) (zae (zai) (zaf))))) (zaw h_m_law_draw hr (by decide) rfl (zae (zad 0) (zae (zai) (zaf))) (zah (zah zao))))) (zal (za4 6 sc.nd (zdm (zaf))) (zal (zjs PassesOwn.never rfl rfl z_range (zae (zad 3) (zaf)) (zcp 7 sc.nd) (zal (zio 8 sc.nd (N':=["_law_ask","_law_pen_here","_law_many","_law_share","_law_pool"]) (ixs:=[none,some 0,some 3,some 4,some 5]) rfl (zer (scO:=za2 (top bd 33)) (NO:=yea) rfl rfl (by decide +kernel)) (zqz rfl z_range (zae (zad 2) (zaf))) (λ_ _ _ _ _=>zcp 0 yd9) (λ_ _ _ _ _=>zem) (λ_ _ _ _ _=>zaw h_m_law_cell hr (by decide) rfl (zae (zad 1) (zae (zad 2) (zae (zad 3) (zae (zad 4) (zaf))))) (zah (zah (zah (zah zao)))))) (zal (zbn (zfd (zm3 (zjl (zad 7) (zai)) (zm2 (zdn (zaw h_m_law_draw hr (by decide) rfl (zae (zad 0) (zae (zai) (zaf))) (zah (zah zao))) (zai))))) (zal (za4 8 sc.nd (yad rfl z_list (zae (zcy (zad 6) (zaw h_m_law_draw hr (by decide) rfl (zae (zad 0) (zae (zad 7) (zaf))) (zah (zah zao)))) (zaf)))) (zan (zh6 (zaw h_m_law_cell hr (by decide) rfl (zae (zad 0) (zae (zad 3) (zae (zad 4) (zae (zad 5) (zaf))))) (zah (zah (zah (zah zao))))) (znc (zad 8) (zaw h_m_law_draw hr (by decide) rfl (zae (zad 0) (zae (zad 2) (zaf))) (zah (zah zao))))))) (zbt)) (zan (zgw (zld (zad 6) (zf3 rfl z_tuple (zae (zad 8) (zaf))))))))) (zan (zba (zec (zae (zad 2) (zae (zf3 rfl z_tuple (zae (zad 6) (zaf))) (zaf))))))))))
theorem yeb:FnScope ["_law_script","_law_k","_law_cell_here"] ["_law_script","_law_k"] (za2 (top bd 30)):=⟨rfl,rfl,rfl,by decide +kernel,rfl,by decide +kernel,by decide +kernel⟩
theorem h_m_law_pen (F:FJ K mg "_law_pen" (top bd 30)) (z_len:mg "len" = none):Has P w K mg base "_law_pen" 1 2 zkf:=by
 have sc:=yeb
 refine zdq (k:=0) F sc rfl (bl2 λ_ _=>λ_ _ _ _ _ _=>rfl) λf cdv hcd A outer s H E hr=>?_
 exact zal (za4 2 sc.nd (zb0 (zjw (zai) (zad 1)) (zai))) (zal (zbn (zm7 (zad 1) (zd4 rfl z_len (zae (zad 0) (zaf)))) (zan (za4 2 sc.nd (zcy (zad 0) (zad 1)))) (zan (zbn (zjl (zd4 rfl z_len (zae (zad 0) (zaf))) (zai)) (zan (za4 2 sc.nd (zb0 (zgh (zcy (zad 0) (zgh (zad 1) (zd4 rfl z_len (zae (zad 0) (zaf))))) (zai)) (zjw (zai) (zad 1))))) (zbt)))) (zal (zbn (zqo (zad 2) (zlc (zai) (zai))) (zan (zba (zdm (zae (zqm (zad 2) (zlc (zai) (zai))) (zae (zgh (zad 2) (zai)) (zae (zai) (zaf))))))) (zbt)) (zan (zba (zdm (zae (zai) (zae (zgh (zad 2) (zai)) (zae (zai) (zaf)))))))))
theorem yec:FnScope ["_law_some","_law_rooms","_law_asks"] [] (za2 (top bd 46)):=⟨rfl,rfl,rfl,by decide +kernel,rfl,by decide +kernel,by decide +kernel⟩
theorem h_m_law_edges (F:FJ K mg "_law_edges" (top bd 46)) (z_str:mg "str" = none) (z_range:mg "range" = none):Has P w K mg base "_law_edges" 1 0 zkg:=by
 have sc:=yec
 refine zdq (k:=0) F sc rfl (λus hl=>match us,hl with | [],_=>λ_ _ _ _ _ _=>rfl) λf cdv hcd A outer s H E hr=>?_
 refine zal (za4 0 sc.nd (zdm (zaf))) ?_
 refine zal (znd PassesOwn.never rfl (zec (zae (zai) (zae (zai) (zaf)))) (zcp 1 sc.nd) ?_) ?_
 ·exact zan (zgw (zld (zad 0) (zb0 (za3) (zjz (za3) (zrf (zdm (zae (za3) (zaf))) (zad 1))))))
 refine zal (zjs PassesOwn.never rfl rfl z_range (zae (zai) (zaf)) (zcp 2 sc.nd) ?_) ?_
 ·exact zan (zgw (zld (zad 0) (zb0 (zb0 (ziu rfl z_str (zae (zad 2) (zaf))) (za3)) (zjz (za3) (zrf (zdm (zae (za3) (zaf))) (zad 2))))))
 refine zal (za4 0 sc.nd (zb0 (zad 0) (znz (by rfl)))) ?_
 refine zal (za4 0 sc.nd (zb0 (zad 0) (zdm (zae (za3) (zaf))))) ?_
 refine zal (za4 0 sc.nd (zb0 (zad 0) (znz (by rfl)))) ?_
 exact zan (zba (zb0 (zad 0) (zdm (zae (za3) (zae (za3) (zae (za3) (zaf)))))))
theorem yed:FnScope ["_law_script","_law_edges_here","_law_k","_law_pen_here","_law_way","_law_asks","_law_machine_here","_law_good","_law_text","_law_thing","_law_cells"] ["_law_script"] (za2 (top bd 47)):=⟨rfl,rfl,rfl,by decide +kernel,rfl,by decide +kernel,by decide +kernel⟩
theorem yee:List.Nodup (["_law_at","_law_pen_here","_law_asks"]:List Str):=by decide +kernel
theorem yef:List.Nodup (["_law_text"]:List Str):=by decide +kernel
noncomputable abbrev ztx:List Str:=["_law_script","_law_edges_here","_law_k","_law_pen_here","_law_way","_law_asks","_law_machine_here","_law_good","_law_text","_law_thing","_law_cells"]
theorem yeg {f:Addr}{fd:FuncData}(F:Fun K "law" "law" (top bd 47) f fd) (z_len:mg "len" = none) (z_tuple:mg "tuple" = none) (z_range:mg "range" = none) (z_max:mg "max" = none) (z_min:mg "min" = none) (h_m_law_right:Has P w K mg base "_law_right" 7 3 zez) (h_m_law_told:Has P w K mg base "_law_told" 6 3 zey) (h_m_law_draw:Has P w K mg base "_law_draw" 1 2 zco) (h_m_law_bent:Has P w K mg base "_law_bent" 2 2 zhr) (h_m_law_row_text:Has P w K mg base "_law_row_text" 1 1 zkc) (h_m_law_cell_text:Has P w K mg base "_law_cell_text" 2 1 zig) (h_m_law_machine_text:Has P w K mg base "_law_machine_text" 3 1 zkd) (h_m_law_machine:Has P w K mg base "_law_machine" 3 3 zke) (h_m_law_pen:Has P w K mg base "_law_pen" 1 2 zkf) (h_m_law_edges:Has P w K mg base "_law_edges" 1 0 zkg):FnOk P w K mg base CX0 8 f fd ["_law_script"] (sp3 K 1 zhs):=by
 have sc:=yed
 refine zqw (k:=7) F sc rfl λcdv hcd A outer s H E hr=>?_
 refine zal (za4 1 sc.nd (zsl h_m_law_edges hr (by decide) rfl)) ?_
 refine zal (zjs PassesOwn.never rfl rfl z_range (zae (yaf rfl rfl z_max (zae (zai) (zae (yae rfl rfl z_min (zae (zd4 rfl z_len (zae (zad 0) (zaf))) (zae (zai) (zaf)))) (zaf)))) (zaf)) (zcp 2 sc.nd) ?_) ?_
 ·refine zal (za4 3 sc.nd (zaw h_m_law_pen hr (by decide) rfl (zae (zad 0) (zae (zad 2) (zaf))) (zah (zah zao)))) ?_
  refine zal (za4 4 sc.nd (zaw h_m_law_draw hr (by decide) rfl (zae (zad 3) (zae (zai) (zaf))) (zah (zah zao)))) ?_
  refine zal (za4 5 sc.nd (zb0 (zai) (zaw h_m_law_draw hr (by decide) rfl (zae (zad 3) (zae (zai) (zaf))) (zah (zah zao))))) ?_
  refine zal (za4 6 sc.nd (zaw h_m_law_machine hr (by decide) rfl (zae (zad 3) (zae (zcy (zdm (zae (zai) (zae (zai) (zae (zai) (zae (zai) (zaf)))))) (zaw h_m_law_draw hr (by decide) rfl (zae (zad 3) (zae (zai) (zaf))) (zah (zah zao)))) (zae (zad 5) (zaf)))) (zah (zah (zah zao))))) ?_
  refine zal (za4 7 sc.nd (zcy (zdm (zae (zaw h_m_law_machine_text hr (by decide) rfl (zae (zad 6) (zaf)) (zah zao)) (zae (zaw h_m_law_cell_text hr (by decide) rfl (zae (zcy (zcy (zcy (zad 6) (zai)) (zai)) (zai)) (zaf)) (zah zao)) (zaf)))) (zgh (zad 4) (zai)))) ?_
  refine zal (zbn (zdn (zad 4) (zai)) (zan (za4 7 sc.nd (zaw h_m_law_row_text hr (by decide) rfl (zae (zf3 rfl z_tuple (zae (zfs (N':=["_law_at","_law_pen_here","_law_asks"]) (ixs:=[none,some 3,some 5]) rfl (zer (scO:=za2 (top bd 47)) (NO:=ztx) rfl rfl (by decide +kernel)) (zqz rfl z_range (zae (zaw h_m_law_draw hr (by decide) rfl (zae (zad 3) (zae (zai) (zaf))) (zah (zah zao))) (zaf))) (λ_ _ _ _ _=>zcp 0 yee) (λ_ _ _ _ _=>zem) (λ_ _ _ _ _=>zaw h_m_law_draw hr (by decide) rfl (zae (zad 1) (zae (zad 2) (zaf))) (zah (zah zao)))) (zaf))) (zaf)) (zah zao)))) (zbt)) ?_
  refine zal (za4 8 sc.nd (zaw h_m_law_bent hr (by decide) rfl (zae (zad 3) (zae (zad 7) (zaf))) (zah (zah zao)))) ?_
  refine zal (zbn (zdn (zaw h_m_law_draw hr (by decide) rfl (zae (zad 3) (zae (zai) (zaf))) (zah (zah zao))) (zai)) (zan (za4 8 sc.nd (zaw h_m_law_bent hr (by decide) rfl (zae (zad 3) (zae (zad 8) (zaf))) (zah (zah zao))))) (zbt)) ?_
  refine zal (zbn (zfd (zfx (zfe (zfo (zaw h_m_law_right hr (by decide) rfl (zae (zad 4) (zae (zad 5) (zae (zad 8) (zaf)))) (zah (zah (zah zao)))))) (zgg (zfe (zfo (zaw h_m_law_right hr (by decide) rfl (zae (zad 4) (zae (zad 5) (zae (zad 7) (zaf)))) (zah (zah (zah zao))))))))) (zan (zba (zge))) (zbt)) ?_
  refine zal (zbn (zfe (zfo (zaw h_m_law_right hr (by decide) rfl (zae (zai) (zae (zad 5) (zae (zcy (zad 1) (zaw h_m_law_draw hr (by decide) rfl (zae (zad 3) (zae (zd4 rfl z_len (zae (zad 1) (zaf))) (zaf))) (zah (zah zao)))) (zaf)))) (zah (zah (zah zao)))))) (zan (zba (zge))) (zbt)) ?_
  refine zal (za4 9 sc.nd (zcy (zdm (zae (zd6) (zae (zge) (zae (zai) (zae (zec (zaf)) (zae (zdm (zae (zad 7) (zaf))) (zae (zec (zae (zad 7) (zaf))) (zae (ybd) (zae (zad 6) (zaf)))))))))) (zaw h_m_law_draw hr (by decide) rfl (zae (zad 3) (zae (zai) (zaf))) (zah (zah zao))))) ?_
  exact zan (zbn (yaz hr (zaw h_m_law_told hr (by decide) rfl (zae (zad 4) (zae (zad 5) (zae (zad 9) (zaf)))) (zah (zah (zah zao)))) (zec (zae (za3) (zae (zge) (zaf))))) (zan (zba (zge))) (zbt))
 refine zal ?_ ?_
 ·with_reducible exact za4 10 (by with_unfolding_all exact sc.nd) (znz (by with_unfolding_all rfl)) (by with_unfolding_all rfl) (by with_unfolding_all first|exact Or.inl rfl|exact Or.inr rfl) (by with_unfolding_all rfl) (by with_unfolding_all first|exact .inl rfl|exact .inr rfl)
 refine zal (za4 10 sc.nd (zb0 (zad 10) (zdm (zae (za3) (zae (za3) (zae (za3) (zae (za3) (zaf)))))))) ?_
 exact zan (zba (ybp hr (zfs (N':=["_law_text"]) (ixs:=[none]) rfl (zer (scO:=za2 (top bd 47)) (NO:=ztx) rfl rfl (by decide +kernel)) (ze5 (zad 10)) (λ_ _ _ _ _=>zcp 0 yef) (λ_ _ _ _ _=>zlg (zfe (zfo (zaw h_m_law_right hr (by decide) rfl (zae (zai) (zae (zai) (zae (zad 0) (zaf)))) (zah (zah (zah zao))))))) (λ_ _ _ _ _=>zad 0)) (zdm (zaf))))
end
theorem all_mk {l:PySem.W.OpenLaw}{w:World}{K:QFg}{h:Heap}{mg:Str->Option Value}{fa:Addr}(X:K.In h) (G:h.Ns mainGlobals mg) (hfa:mg "law" = some (.ref fa)) {g_NoText g_TooMany g_Unlike g_Unreached g_Clash g_NoBack g_NoLine g_NoName g_NoWords g_NotClosed g_NotFull g_NotOpen g_CellError:Addr}
  (a0:FI K "is_below" (top bd 18))
  (a1:FI K "is_cell" (top bd 21))
  (a2:FI K "is_room" (top bd 20))
  (a3:FI K "is_machine" (top bd 19))
  (a4:FI K "read_number" (top bd 24))
  (a5:FI K "read_part" (top bd 25))
  (a6:FI K "refuse_no_text" (top bd 23))
  (a7:FI K "read_cell" (top bd 26))
  (a8:FI K "read_machine" (top bd 27))
  (a9:FI K "read_row" (top bd 28))
  (a10:FI K "_law_told" (top bd 44))
  (a11:FI K "_law_part_of" (top bd 40))
  (a12:FI K "_law_cell_of" (top bd 41))
  (a13:FI K "_law_machine_of" (top bd 42))
  (a14:FI K "_law_row_of" (top bd 43))
  (a15:FI K "_law_right" (top bd 45))
  (a16:FI K "_law_draw" (top bd 31))
  (a17:FI K "_law_signs" (top bd 38))
  (a18:FI K "_law_bent" (top bd 39))
  (a19:FI K "_law_row_text" (top bd 37))
  (a20:FI K "_law_part_text" (top bd 34))
  (a21:FI K "_law_cell_text" (top bd 35))
  (a22:FI K "_law_machine_text" (top bd 36))
  (a23:FI K "_law_cell" (top bd 32))
  (a24:FI K "_law_machine" (top bd 33))
  (a25:FI K "_law_pen" (top bd 30))
  (a26:FI K "_law_edges" (top bd 46))
  (a27:FI K "law" (top bd 47))
  (z_isinstance:PySem.W.nsIn K mainGlobals "isinstance" = some none)
  (z_int:PySem.W.nsIn K mainGlobals "int" = some none)
  (z_bool:PySem.W.nsIn K mainGlobals "bool" = some none)
  (z_tuple:PySem.W.nsIn K mainGlobals "tuple" = some none)
  (z_len:PySem.W.nsIn K mainGlobals "len" = some none)
  (z_all:PySem.W.nsIn K mainGlobals "all" = some none)
  (z_str:PySem.W.nsIn K mainGlobals "str" = some none)
  (z_range:PySem.W.nsIn K mainGlobals "range" = some none)
  (z_ValueError:PySem.W.nsIn K mainGlobals "ValueError" = some none)
  (z_repr:PySem.W.nsIn K mainGlobals "repr" = some none)
  (z_list:PySem.W.nsIn K mainGlobals "list" = some none)
  (z_max:PySem.W.nsIn K mainGlobals "max" = some none)
  (z_min:PySem.W.nsIn K mainGlobals "min" = some none)
  {t_ANSWERS:Tok} (c_ANSWERS:PySem.W.nsIn K mainGlobals "ANSWERS" = some (some (.int 8 t_ANSWERS)))
  {t_MOST_ROOMS:Tok} (c_MOST_ROOMS:PySem.W.nsIn K mainGlobals "MOST_ROOMS" = some (some (.int 24 t_MOST_ROOMS)))
  {t_MOST_ASKS:Tok} (c_MOST_ASKS:PySem.W.nsIn K mainGlobals "MOST_ASKS" = some (some (.int 4 t_MOST_ASKS)))
  (a_NoText:PySem.W.nsIn K mainGlobals "NoText" = some (some (.ref g_NoText)))
  (a_TooMany:PySem.W.nsIn K mainGlobals "TooMany" = some (some (.ref g_TooMany)))
  (a_Unlike:PySem.W.nsIn K mainGlobals "Unlike" = some (some (.ref g_Unlike)))
  (a_Unreached:PySem.W.nsIn K mainGlobals "Unreached" = some (some (.ref g_Unreached)))
  (a_Clash:PySem.W.nsIn K mainGlobals "Clash" = some (some (.ref g_Clash)))
  (a_NoBack:PySem.W.nsIn K mainGlobals "NoBack" = some (some (.ref g_NoBack)))
  (a_NoLine:PySem.W.nsIn K mainGlobals "NoLine" = some (some (.ref g_NoLine)))
  (a_NoName:PySem.W.nsIn K mainGlobals "NoName" = some (some (.ref g_NoName)))
  (a_NoWords:PySem.W.nsIn K mainGlobals "NoWords" = some (some (.ref g_NoWords)))
  (a_NotClosed:PySem.W.nsIn K mainGlobals "NotClosed" = some (some (.ref g_NotClosed)))
  (a_NotFull:PySem.W.nsIn K mainGlobals "NotFull" = some (some (.ref g_NotFull)))
  (a_NotOpen:PySem.W.nsIn K mainGlobals "NotOpen" = some (some (.ref g_NotOpen)))
  (a_CellError:PySem.W.nsIn K mainGlobals "CellError" = some (some (.ref g_CellError)))
  (x_NoText:PySem.W.excIn K g_NoText zea "ValueError.__new__" = true)
  (x_CellError:PySem.W.excIn K g_CellError zea "ValueError.__new__" = true)
  (s_NoText_CellError:(Value.ref g_NoText :: zhe K g_NoText).contains (.ref g_CellError)=true)
  (o_NoText:PySem.W.mroIn K g_NoText (.type "object")=some true) (d_NoText:PySem.W.findIn K (.ref g_NoText) "__class__" = some (some (.builtin "object.__class__"))) (ga_NoText:PySem.W.findIn K (.ref g_NoText) "__getattribute__" = some (some (.builtin "BaseException.__getattribute__"))) (gr_NoText:PySem.W.findIn K (.ref g_NoText) "__getattr__" = some none) (is_NoText:(PySem.W.clsIn K g_NoText).isSome=true)
  (i_0:PySem.W.kitOne K (.ref g_NoText) (.ref g_NoText)=some true)
  (i_1:PySem.W.kitOne K (.ref g_NoText) (.type "ValueError")=some true)
  (i_2:PySem.W.kitAny K (.ref g_NoText) [.ref g_TooMany,.ref g_Unlike,.ref g_Unreached]=some false)
  (i_3:PySem.W.kitAny K (.ref g_NoText) [.ref g_Clash,.ref g_NoBack,.ref g_NoLine,.ref g_NoName,.ref g_NoWords,.ref g_NotClosed,.ref g_NotFull,.ref g_NotOpen]=some false) :
  ∃fd:FuncData,(∀(s:Shared) (v:Value),BindsTo s fd ⟨[v],[]⟩ [("_law_script",v)])/\∀base:Heap,K.In base->base.Ns mainGlobals mg->FnOk l.prog w K mg base CX0 8 fa fd ["_law_script"] (sp3 K 1 zhs):=by
 have y_isinstance:=PySem.W.mg_none_of X G z_isinstance
 have y_int:=PySem.W.mg_none_of X G z_int
 have y_bool:=PySem.W.mg_none_of X G z_bool
 have y_tuple:=PySem.W.mg_none_of X G z_tuple
 have y_len:=PySem.W.mg_none_of X G z_len
 have y_all:=PySem.W.mg_none_of X G z_all
 have y_str:=PySem.W.mg_none_of X G z_str
 have y_range:=PySem.W.mg_none_of X G z_range
 have y_ValueError:=PySem.W.mg_none_of X G z_ValueError
 have y_repr:=PySem.W.mg_none_of X G z_repr
 have y_list:=PySem.W.mg_none_of X G z_list
 have y_max:=PySem.W.mg_none_of X G z_max
 have y_min:=PySem.W.mg_none_of X G z_min
 have y_ANSWERS:∃t,mg "ANSWERS" = some (.int 8 t):=⟨_,PySem.W.mg_of X G c_ANSWERS⟩
 have y_MOST_ROOMS:∃t,mg "MOST_ROOMS" = some (.int 24 t):=⟨_,PySem.W.mg_of X G c_MOST_ROOMS⟩
 have y_MOST_ASKS:∃t,mg "MOST_ASKS" = some (.int 4 t):=⟨_,PySem.W.mg_of X G c_MOST_ASKS⟩
 obtain ⟨CA,ca_NoText,ca_TooMany,ca_Unlike,ca_Unreached,ca_Clash,ca_NoBack,ca_NoLine,ca_NoName,ca_NoWords,ca_NotClosed,ca_NotFull,ca_NotOpen,ca_CellError⟩:∃CA:Str->Addr,CA "NoText" = g_NoText/\CA "TooMany" = g_TooMany/\CA "Unlike" = g_Unlike/\CA "Unreached" = g_Unreached/\CA "Clash" = g_Clash/\CA "NoBack" = g_NoBack/\CA "NoLine" = g_NoLine/\CA "NoName" = g_NoName/\CA "NoWords" = g_NoWords/\CA "NotClosed" = g_NotClosed/\CA "NotFull" = g_NotFull/\CA "NotOpen" = g_NotOpen/\CA "CellError" = g_CellError:=⟨λy=>if y = "NoText" then g_NoText else if y = "TooMany" then g_TooMany else if y = "Unlike" then g_Unlike else if y = "Unreached" then g_Unreached else if y = "Clash" then g_Clash else if y = "NoBack" then g_NoBack else if y = "NoLine" then g_NoLine else if y = "NoName" then g_NoName else if y = "NoWords" then g_NoWords else if y = "NotClosed" then g_NotClosed else if y = "NotFull" then g_NotFull else if y = "NotOpen" then g_NotOpen else if y = "CellError" then g_CellError else 0,by dsimp only;rw [if_pos rfl],by dsimp only;rw [if_neg (by decide +kernel),if_pos rfl],by dsimp only;rw [if_neg (by decide +kernel),if_neg (by decide +kernel),if_pos rfl],by dsimp only;(repeat rw [if_neg (by decide +kernel)]);rw [if_pos rfl],by dsimp only;(repeat rw [if_neg (by decide +kernel)]);rw [if_pos rfl],by dsimp only;(repeat rw [if_neg (by decide +kernel)]);rw [if_pos rfl],by dsimp only;(repeat rw [if_neg (by decide +kernel)]);rw [if_pos rfl],by dsimp only;(repeat rw [if_neg (by decide +kernel)]);rw [if_pos rfl],by dsimp only;(repeat rw [if_neg (by decide +kernel)]);rw [if_pos rfl],by dsimp only;(repeat rw [if_neg (by decide +kernel)]);rw [if_pos rfl],by dsimp only;(repeat rw [if_neg (by decide +kernel)]);rw [if_pos rfl],by dsimp only;(repeat rw [if_neg (by decide +kernel)]);rw [if_pos rfl],by dsimp only;(repeat rw [if_neg (by decide +kernel)]);rw [if_pos rfl]⟩
 subst ca_NoText
 subst ca_TooMany
 subst ca_Unlike
 subst ca_Unreached
 subst ca_Clash
 subst ca_NoBack
 subst ca_NoLine
 subst ca_NoName
 subst ca_NoWords
 subst ca_NotClosed
 subst ca_NotFull
 subst ca_NotOpen
 subst ca_CellError
 have q_NoText:=PySem.W.mg_of X G a_NoText
 have q_TooMany:=PySem.W.mg_of X G a_TooMany
 have q_Unlike:=PySem.W.mg_of X G a_Unlike
 have q_Unreached:=PySem.W.mg_of X G a_Unreached
 have q_Clash:=PySem.W.mg_of X G a_Clash
 have q_NoBack:=PySem.W.mg_of X G a_NoBack
 have q_NoLine:=PySem.W.mg_of X G a_NoLine
 have q_NoName:=PySem.W.mg_of X G a_NoName
 have q_NoWords:=PySem.W.mg_of X G a_NoWords
 have q_NotClosed:=PySem.W.mg_of X G a_NotClosed
 have q_NotFull:=PySem.W.mg_of X G a_NotFull
 have q_NotOpen:=PySem.W.mg_of X G a_NotOpen
 have q_CellError:=PySem.W.mg_of X G a_CellError
 have n_NoText:=a_NoText
 have n_TooMany:=a_TooMany
 have n_Unlike:=a_Unlike
 have n_Unreached:=a_Unreached
 have n_Clash:=a_Clash
 have n_NoBack:=a_NoBack
 have n_NoLine:=a_NoLine
 have n_NoName:=a_NoName
 have n_NoWords:=a_NoWords
 have n_NotClosed:=a_NotClosed
 have n_NotFull:=a_NotFull
 have n_NotOpen:=a_NotOpen
 have n_CellError:=a_CellError
 have e_NoText:ExcQ K (CA "NoText"):=⟨x_NoText,o_NoText,d_NoText,ga_NoText,gr_NoText,is_NoText⟩
 have F0:=a0.ok X G
 have F1:=a1.ok X G
 have F2:=a2.ok X G
 have F3:=a3.ok X G
 have F4:=a4.ok X G
 have F5:=a5.ok X G
 have F6:=a6.ok X G
 have F7:=a7.ok X G
 have F8:=a8.ok X G
 have F9:=a9.ok X G
 have F10:=a10.ok X G
 have F11:=a11.ok X G
 have F12:=a12.ok X G
 have F13:=a13.ok X G
 have F14:=a14.ok X G
 have F15:=a15.ok X G
 have F16:=a16.ok X G
 have F17:=a17.ok X G
 have F18:=a18.ok X G
 have F19:=a19.ok X G
 have F20:=a20.ok X G
 have F21:=a21.ok X G
 have F22:=a22.ok X G
 have F23:=a23.ok X G
 have F24:=a24.ok X G
 have F25:=a25.ok X G
 have F26:=a26.ok X G
 have F27:=a27.ok X G
 obtain @⟨fL,fdL,FL,mL,_⟩:=F27
 have e:=hfa.symm.trans mL
 cases e
 refine ⟨fdL,λs v=>by obtain ⟨_,_,_,_,_,_,_,_,_,rfl,_⟩:=FL.ex;exact .of_eq rfl,λbase _ _=>?_⟩
 have t:∀{x k n m},Has l.prog w K mg base x k n m->Has l.prog w K mg base x k n m:=id
 have tz:∀{x k n m},zdg l.prog w K mg base CA x k n m->zdg l.prog w K mg base CA x k n m:=id
 have g0:=t (h_m_is_below F0 y_isinstance y_int y_bool)
 have g1:=t (h_m_is_cell F1 y_isinstance y_tuple y_len y_ANSWERS g0)
 have g2:=t (h_m_is_room F2 y_all y_isinstance y_tuple y_len g1)
 have g3:=t (h_m_is_machine F3 y_all y_len y_isinstance y_tuple y_MOST_ROOMS y_MOST_ASKS g2 g0)
 have g4:=t (h_m_read_number F4 y_str y_range q_NoText x_NoText)
 have gz4:=tz (hz_read_number F4 y_str y_range q_NoText x_NoText)
 have g5:=t (h_m_read_part F5 g4 gz4)
 have gz5:=tz (hz_read_part F5 g4 gz4)
 have g6:=t (h_m_refuse_no_text F6 y_isinstance y_str q_NoText x_NoText)
 have gz6:=tz (hz_refuse_no_text F6 y_isinstance y_str q_NoText x_NoText)
 have g7:=t (h_m_read_cell F7 y_len y_ANSWERS y_MOST_ROOMS g5 g6 gz6 gz5 q_NoText x_NoText)
 have gz7:=tz (hz_read_cell F7 y_len y_ANSWERS y_MOST_ROOMS g5 g6 gz6 gz5 q_NoText x_NoText)
 have g8:=t (h_m_read_machine F8 y_tuple y_MOST_ASKS g3 g7 g4 g6 gz6 gz4 gz7 q_NoText x_NoText)
 have gz8:=tz (hz_read_machine F8 y_tuple y_MOST_ASKS g3 g7 g4 g6 gz6 gz4 gz7 q_NoText x_NoText)
 have g9:=t (h_m_read_row F9 y_tuple g4 g6 gz6 gz4 q_NoText x_NoText)
 have gz9:=tz (hz_read_row F9 y_tuple g4 g6 gz6 gz4 q_NoText x_NoText)
 have g10:=t (h_m_law_told F10 y_isinstance y_ValueError y_repr g8 g7 g9 gz8 gz7 gz9 q_NoText q_TooMany q_Unlike q_Unreached q_Clash q_NoBack q_NoLine q_NoName q_NoWords q_NotClosed q_NotFull q_NotOpen q_CellError x_CellError x_NoText n_NoText s_NoText_CellError e_NoText i_0 i_1 i_2 i_3)
 have g11:=t (h_m_law_part_of F11 y_int y_len)
 have g12:=t (h_m_law_cell_of F12 y_len g11)
 have g13:=t (h_m_law_machine_of F13 y_tuple y_int y_len g12)
 have g14:=t (h_m_law_row_of F14 y_tuple y_int)
 have g15:=t (h_m_law_right F15 y_repr g10 g12 g13 g14)
 have g16:=t (h_m_law_draw F16 )
 have g17:=t (h_m_law_signs F17 )
 have g18:=t (h_m_law_bent F18 y_len g16 g17)
 have g19:=t (h_m_law_row_text F19 y_str)
 have g20:=t (h_m_law_part_text F20 y_str)
 have g21:=t (h_m_law_cell_text F21 g20)
 have g22:=t (h_m_law_machine_text F22 y_str g21)
 have g23:=t (h_m_law_cell F23 g16)
 have g24:=t (h_m_law_machine F24 y_tuple y_list y_range g16 g23)
 have g25:=t (h_m_law_pen F25 y_len)
 have g26:=t (h_m_law_edges F26 y_str y_range)
 exact yeg FL y_len y_tuple y_range y_max y_min g15 g10 g16 g18 g19 g21 g22 g24 g25 g26
theorem walk {l:PySem.W.OpenLaw}{q:Program}{loose:List Str}{XP:(Str->Option Value)->Heap->Prop}{YP:World->Heap->Prop}{d:DefRec}{K:Params->QFg}(hn:l.most=some 63) (hdf:d.params.defaults=[])
  (hY:∀(w:World) (h:Heap),YP w h->(K w.params).In h)
  (F:∀(w:World) (mg:Str->Option Value) (fa:Addr) (h:Heap),(K w.params).In h->h.Ns mainGlobals mg->mg d.name=some (.ref fa) ->
   ∃fd:FuncData,(∀(s:Shared) (u:Value),BindsTo s fd ⟨[u],[]⟩ [("_law_script",u)])/\∀base:Heap,(K w.params).In base->base.Ns mainGlobals mg->FnOk l.prog w (K w.params) mg base CX0 8 fa fd ["_law_script"] (sp3 (K w.params) 1 zhs))
  (hlaw:∀ns:List Int,ns.length<=63->∃S',zhs [.ref 0] [.flst (ns.map D.int)]=some (.bl true,S')) :
  PySem.W.WalkO q loose XP YP l.row.toRowW d [] (λf vs=>PySem.call f vs) :=
 L2.walk_of (n:=63) (k:=8) (x:="_law_script") (CX:=λ_=>CX0) (sp:=λw=>sp3 (K w.params) 1 zhs) hn (by decide) hdf ⟨rfl,by decide,by decide,rfl⟩ hY F (λ_ _ a ns hl hO hS=>yah hO hS (hlaw ns hl)) λ_ _ _ _ _ z=>z
end G
end
theorem qg0 {α:Type}{a:α}{l:List α}:(a :: l)[0]? = some a:=rfl
theorem qg1 {α:Type}{a:α}{i:Nat}{l:List α}:(a :: l)[i+1]? = l[i]?:=rfl
theorem qs0 {α:Type}{a b:α}{l:List α}:(a :: l).set 0 b=b :: l:=rfl
theorem qs1 {α:Type}{a b:α}{n:Nat}{l:List α}:(a :: l).set (n+1) b=a :: l.set n b:=rfl
theorem qlt {α:Type}{l:List α}{i:Nat}{a:α}(h:l[i]? = some a):i<l.length:=(List.getElem?_eq_some_iff.mp h).1
namespace M
open PySem L3 G
local macro_rules
 | `(term| nofun)=>`(by first|rfl|trivial)
local macro_rules
 | `(term| ‹$x›)=>`(some (.int ($x : Int)))
local macro_rules
 | `(term| ~~~$x)=>`(some (.ref $x))
local macro_rules
 | `(tactic| dsimp! only [$xs,*])=>`(tactic| simp only [$xs,*,List.map_cons,List.map_nil,List.length_cons,List.length_nil,Nat.reduceAdd,Nat.reduceSub,List.replicate,List.cons_append,List.nil_append])
theorem as1 {e:EM}{l:Lo}{S S1:Sto}{x:D}(h:e l S=some (x,S1)):zaa e zab l S=some ([x],S1):=by
 unfold zaa;rw [h];rfl
theorem zei {S:Sto}{n:Nat}{xs:List D}(h:S[n]? = some (.lst xs)):lstOf S n=some xs:=by unfold lstOf;rw [h]
theorem zi3 {S:Sto}{n:Nat}{o o':Ob}(h:S[n]? = some o'):(S.set n o)[n]? = some o:=List.getElem?_set_self (qme h).1
def PQ (n:Nat) (S:Sto):Prop:=∃x y z:Int,S[n]? = some (.lst [.int x,.int y,.int z])/\0<=x/\0<=y/\y<2147483587/\0<=z
def Fn (n:Nat) (S S':Sto):Prop:=∀(j:Nat) (o:Ob),j≠n->S[j]? = some o->S'[j]? = some o
theorem Fn.refl (n:Nat) (S:Sto):Fn n S S:=λ_ _ _ h=>h
theorem Fn.trans {n:Nat}{A B C:Sto}(h:Fn n A B) (g:Fn n B C):Fn n A C:=λj o hj e=>g j o hj (h j o hj e)
theorem Fn.gr {n:Nat}{A B:Sto}(h:Gr A B):Fn n A B:=λ_ _ _ e=>h.get e
theorem Fn.set {n:Nat}{A:Sto}{o:Ob}:Fn n A (A.set n o):=λj o' hj e=>by rw [List.getElem?_set_ne (Ne.symm hj)];exact e
theorem Fn.lst {n m:Nat}{A B:Sto}{xs:List D}(h:Fn n A B) (hm:m≠n) (e:lstOf A m=some xs):lstOf B m=some xs:=by
 unfold lstOf at e ⊢
 cases q:A[m]? with
 | none=>rw [q] at e;cases e
 | some o=>rw [h m o hm q];rw [q] at e;exact e
theorem PQ.gr {n:Nat}{A B:Sto}(h:PQ n A) (g:Gr A B):PQ n B:=let ⟨x,y,z,e,r⟩:=h;⟨x,y,z,g.get e,r⟩
theorem PQ.lt {n:Nat}{A:Sto}(h:PQ n A):n<A.length:=let ⟨x,y,z,e,r⟩:=h;(qme e).1
theorem yeh {S:Sto}{n:Nat}{a b c v:D}(h:S[n]? = some (.lst [a,b,c])):zgi (.ref n) (.int 0) v S=some (S.set n (.lst [v,b,c])):=by
 unfold zgi;simp only [h];rfl
theorem yei {S:Sto}{n:Nat}{a b c v:D}(h:S[n]? = some (.lst [a,b,c])):zgi (.ref n) (.int 2) v S=some (S.set n (.lst [a,b,v])):=by
 unfold zgi;simp only [h];rfl
theorem yej (i:Int) (h0:0<=i) (h1:i<3):∃p,L2.atI [D.int 2147483647,.int 2147483563,.int 2147483549] i=some (.int p)/\0<p/\p<2147483648:=by
 have:i=0\/i=1\/i=2:=by omega
 rcases this with rfl|rfl|rfl <;> exact ⟨_,rfl,by decide,by decide⟩
theorem zej (n:Nat) (m:Int) (S:Sto) (h:PQ n S) (h1:0<m) (h2:m<1073741824):Wo (zco [.ref n,.int m] S) λv S'=>(∃d:Nat,v=.int d/\(d:Int)<m)/\PQ n S'/\Fn n S S':=by
 obtain ⟨x,y,z,hS,x0,y0,y1,z0⟩:=h
 have sz3:3<=sizeLine:=by decide
 unfold zco zs9
 dsimp! only [zbe]
 refine zc8 (λl S'=>S' = S.set n (.lst [.int x,.int y,.int (z+1)])/\l=[~~~n,some (.int m),none,none]) ?_ ?_
 ·simp only [zbe,zbm,zbd,zbj,za0,zcq,zaq,zay,za7,zbs,zb4,zbk,zav,zch,zce,zcf,zcg,zau,zb3,zbx,zar,zap,zcd,zcr,zcs,zct,zcu,zcv,zbq,zb5,zcc,zc1,zci,zcj,zbw,zbh,zb9,zck,zcl,zcn,zb1,zc2,zby,zbr,zb6,zbz,zc3,zc4,zcw,zcx,zb2,zca,zc5,zcb,List.map_cons,List.map_nil,List.length_cons,List.length_nil,Nat.reduceAdd,Nat.reduceSub,List.replicate,List.cons_append,List.nil_append,qg0,qg1,qs0,qs1,zas,za5,zbg,zcm,zcz,zc0,zb7,zb8,za1,decide_eq_true_eq,zei hS,yei hS,and_self]
 rintro l S1 ⟨rfl,rfl⟩
 have hS1:(S.set n (.lst [.int x,.int y,.int (z+1)]))[n]? = some (.lst [.int x,.int y,.int (z+1)]):=zi3 hS
 have f1:Fn n S (S.set n (.lst [.int x,.int y,.int (z+1)])):=Fn.set
 generalize S.set n (.lst [.int x,.int y,.int (z+1)])=S1 at hS1 f1
 rw [zbm]
 by_cases hx:0<x
 ·simp only [zbe,zbm,zbd,zbj,za0,zcq,zaq,zay,za7,zbs,zb4,zbk,zav,zch,zce,zcf,zcg,zau,zb3,zbx,zar,zap,zcd,zcr,zcs,zct,zcu,zcv,zbq,zb5,zcc,zc1,zci,zcj,zbw,zbh,zb9,zck,zcl,zcn,zb1,zc2,zby,zbr,zb6,zbz,zc3,zc4,zcw,zcx,zb2,zca,zc5,zcb,List.map_cons,List.map_nil,List.length_cons,List.length_nil,Nat.reduceAdd,Nat.reduceSub,List.replicate,List.cons_append,List.nil_append,qg0,qg1,qs0,qs1,zas,za5,zbg,zcm,zcz,zc0,zb7,zb8,za1,decide_eq_true_eq,zei hS1,hx,decide_true,if_true,h1,h2,true_and,and_self,yeh hS1]
  have d0:=Int.emod_nonneg x (show m≠0 by omega)
  have d1:=Int.emod_lt_of_pos x h1
  refine ⟨⟨(x % m).toNat,by rw [Int.toNat_of_nonneg d0],by rw [Int.toNat_of_nonneg d0];exact d1⟩,⟨x / m,y,z+1,zi3 hS1,Int.ediv_nonneg x0 (by omega),y0,y1,by omega⟩,f1.trans Fn.set⟩
 ·simp only [zbd,zbj,za0,zaq,zay,qg0,zas,zbh,zei hS1,za5,zcm,zbq,zbg,hx,decide_false,qbf,if_false,zbk]
  refine zc8 (λl S'=>S' = S1/\∃a:Int,0<=a/\a<2147483629/\l=[~~~n,some (.int m),none,some (.int a)]) ?_ ?_
  ·have f0:(0:Int)<2147483629:=by decide
   have c1:(-(2 ^ 64)<(40503:Int)/\(40503:Int)<2 ^ 64):=by decide
   have c2:(-(2 ^ 64)<y+29/\y+29<2 ^ 64):=by omega
   simp only [zbe,zbm,zbd,zbj,za0,zcq,zaq,zay,za7,zbs,zb4,zbk,zav,zch,zce,zcf,zcg,zau,zb3,zbx,zar,zap,zcd,zcr,zcs,zct,zcu,zcv,zbq,zb5,zcc,zc1,zci,zcj,zbw,zbh,zb9,zck,zcl,zcn,zb1,zc2,zby,zbr,zb6,zbz,zc3,zc4,zcw,zcx,zb2,zca,zc5,zcb,List.map_cons,List.map_nil,List.length_cons,List.length_nil,Nat.reduceAdd,Nat.reduceSub,List.replicate,List.cons_append,List.nil_append,qg0,qg1,qs0,qs1,zas,za5,zbg,zcm,zcz,zc0,zb7,zb8,za1,decide_eq_true_eq,zei hS1,f0,c1,c2,true_or,true_and,and_self]
   first|exact ⟨nofun,nofun,_,Int.emod_nonneg _ (by decide),Int.emod_lt_of_pos _ (by decide),rfl⟩|exact ⟨_,Int.emod_nonneg _ (by decide),Int.emod_lt_of_pos _ (by decide),rfl⟩
  rintro l S2 ⟨rfl,a,a0,a1,rfl⟩
  refine zc8 (λl S'=>S' = S2/\∃a:Int,0<=a/\a<2147483587/\l=[~~~n,some (.int m),none,some (.int a)]) ?_ ?_
  ·have f0:(0:Int)<2147483587:=by decide
   have c1:(-(2 ^ 64)<(69621:Int)/\(69621:Int)<2 ^ 64):=by decide
   have c2:(0:Int)<=3/\(3:Int)<=1000000/\a.natAbs<2 ^ 64:=⟨by decide,by decide,by omega⟩
   simp only [zbe,zbm,zbd,zbj,za0,zcq,zaq,zay,za7,zbs,zb4,zbk,zav,zch,zce,zcf,zcg,zau,zb3,zbx,zar,zap,zcd,zcr,zcs,zct,zcu,zcv,zbq,zb5,zcc,zc1,zci,zcj,zbw,zbh,zb9,zck,zcl,zcn,zb1,zc2,zby,zbr,zb6,zbz,zc3,zc4,zcw,zcx,zb2,zca,zc5,zcb,List.map_cons,List.map_nil,List.length_cons,List.length_nil,Nat.reduceAdd,Nat.reduceSub,List.replicate,List.cons_append,List.nil_append,qg0,qg1,qs0,qs1,zas,za5,zbg,zcm,zcz,zc0,zb7,zb8,za1,decide_eq_true_eq,zei hS1,f0,c1,c2,true_or,true_and,and_self]
   first|exact ⟨nofun,nofun,_,Int.emod_nonneg _ (by decide),Int.emod_lt_of_pos _ (by decide),rfl⟩|exact ⟨_,Int.emod_nonneg _ (by decide),Int.emod_lt_of_pos _ (by decide),rfl⟩
  rintro l S3 ⟨rfl,b,b0,b1,rfl⟩
  refine zc8 (λl S'=>Gr S3 S'/\∃a:Int,0<=a/\l=[~~~n,some (.int m),none,some (.int a)]) ?_ ?_
  ·obtain ⟨p,hp,p0,p1⟩:=yej ((z+1) % 3) (by omega) (by omega)
   have f3:(0:Int)<3:=by decide
   have c2:(0:Int)<=5/\(5:Int)<=1000000/\b.natAbs<2 ^ 64:=⟨by decide,by decide,by omega⟩
   have e1:lstOf (S3++[.lst [.int 2147483647,.int 2147483563,.int 2147483549]]) n=some [.int x,.int y,.int (z+1)]:=Gr.lst ⟨_,rfl⟩ (zei hS1)
   simp only [zbe,zbm,zbd,zbj,za0,zcq,zaq,zay,za7,zbs,zb4,zbk,zav,zch,zce,zcf,zcg,zau,zb3,zbx,zar,zap,zcd,zcr,zcs,zct,zcu,zcv,zbq,zb5,zcc,zc1,zci,zcj,zbw,zbh,zb9,zck,zcl,zcn,zb1,zc2,zby,zbr,zb6,zbz,zc3,zc4,zcw,zcx,zb2,zca,zc5,zcb,List.map_cons,List.map_nil,List.length_cons,List.length_nil,Nat.reduceAdd,Nat.reduceSub,List.replicate,List.cons_append,List.nil_append,qg0,qg1,qs0,qs1,zas,za5,zbg,zcm,zcz,zc0,zb7,zb8,za1,decide_eq_true_eq,f3,c2,sz3,e1,hp,p0,true_and,and_self]
   exact ⟨⟨_,rfl⟩,_,Int.emod_nonneg _ (by omega),rfl⟩
  rintro l S4 ⟨g4,c,c0,rfl⟩
  have f6:(0:Int)<64/\(64:Int)<1073741824:=by decide
  simp only [zbe,zbm,zbd,zbj,za0,zcq,zaq,zay,za7,zbs,zb4,zbk,zav,zch,zce,zcf,zcg,zau,zb3,zbx,zar,zap,zcd,zcr,zcs,zct,zcu,zcv,zbq,zb5,zcc,zc1,zci,zcj,zbw,zbh,zb9,zck,zcl,zcn,zb1,zc2,zby,zbr,zb6,zbz,zc3,zc4,zcw,zcx,zb2,zca,zc5,zcb,List.map_cons,List.map_nil,List.length_cons,List.length_nil,Nat.reduceAdd,Nat.reduceSub,List.replicate,List.cons_append,List.nil_append,qg0,qg1,qs0,qs1,zas,za5,zbg,zcm,zcz,zc0,zb7,zb8,za1,decide_eq_true_eq,f6,h1,true_and,and_self]
  have d0:=Int.emod_nonneg (c / 64) (show m≠0 by omega)
  have d1:=Int.emod_lt_of_pos (c / 64) h1
  exact ⟨⟨(c / 64 % m).toNat,by rw [Int.toNat_of_nonneg d0],by rw [Int.toNat_of_nonneg d0];exact d1⟩,⟨x,y,z+1,g4.get hS1,x0,y0,y1,by omega⟩,f1.trans (Fn.gr g4)⟩
theorem yek (ns:List Int) (k:Nat) (S:Sto) (h:lstOf S 0=some (ns.map D.int)) (hk:k<1000000):Wo (zkf [.ref 0,.int k] S) λv S'=>v=.ref S.length/\PQ S.length S'/\Gr S S':=by
 have sz3:3<=sizeLine:=by decide
 have c1:(-(2 ^ 64)<(104729:Int)/\(104729:Int)<2 ^ 64):=by decide
 have c2:(-(2 ^ 64)<(69621:Int)/\(69621:Int)<2 ^ 64):=by decide
 have f0:(0:Int)<2147483629:=by decide
 have f1:(0:Int)<2147483587:=by decide
 unfold zkf zti
 dsimp! only [zbe]
 refine zc8 (λl S'=>S' = S/\∃c:Int,l=[~~~0,some (.int k),some (.int c)]) ?_ ?_
 ·simp only [zbe,zbm,zbd,zbj,za0,zcq,zaq,zay,za7,zbs,zb4,zbk,zav,zch,zce,zcf,zcg,zau,zb3,zbx,zar,zap,zcd,zcr,zcs,zct,zcu,zcv,zbq,zb5,zcc,zc1,zci,zcj,zbw,zbh,zb9,zck,zcl,zcn,zb1,zc2,zby,zbr,zb6,zbz,zc3,zc4,zcw,zcx,zb2,zca,zc5,zcb,List.map_cons,List.map_nil,List.length_cons,List.length_nil,Nat.reduceAdd,Nat.reduceSub,List.replicate,List.cons_append,List.nil_append,qg0,qg1,qs0,qs1,zas,za5,zbg,zcm,zcz,zc0,zb7,zb8,za1,decide_eq_true_eq,c1,true_or,true_and,and_self]
  first|exact ⟨nofun,nofun,_,rfl⟩|exact ⟨_,rfl⟩
 rintro l S1 ⟨rfl,c,rfl⟩
 refine zc8 (λl S'=>S' = S1/\∃c:Int,l=[~~~0,some (.int k),some (.int c)]) ?_ ?_
 ·rw [zbd]
  simp only [zbj,za0,zau,zar,zap,zaq,qg0,qg1,zas,zb1,h,za5,qlm,zbq,zbg]
  by_cases h1:(k:Int)<(ns.length:Int)
  ·obtain ⟨v,hv1,hv2⟩:=zlt (ns.map D.int) (k:Int) (by omega) (by rw [qlm];exact h1)
   obtain ⟨i,_,rfl⟩:=List.mem_map.mp hv2
   simp only [h1,decide_true,if_true,zbe,zbm,zbd,zbj,za0,zcq,zaq,zay,za7,zbs,zb4,zbk,zav,zch,zce,zcf,zcg,zau,zb3,zbx,zar,zap,zcd,zcr,zcs,zct,zcu,zcv,zbq,zb5,zcc,zc1,zci,zcj,zbw,zbh,zb9,zck,zcl,zcn,zb1,zc2,zby,zbr,zb6,zbz,zc3,zc4,zcw,zcx,zb2,zca,zc5,zcb,List.map_cons,List.map_nil,List.length_cons,List.length_nil,Nat.reduceAdd,Nat.reduceSub,List.replicate,List.cons_append,List.nil_append,qg0,qg1,qs0,qs1,zas,za5,zbg,zcm,zcz,zc0,zb7,zb8,za1,decide_eq_true_eq,h,hv1]
   first|exact ⟨nofun,nofun,_,rfl⟩|exact ⟨_,rfl⟩
  ·simp only [h1,decide_false,qbf,if_false]
   rw [zbd]
   simp only [zbj,za0,zau,zar,zap,zaq,zay,qg0,qg1,zas,zb1,h,za5,qlm,zbq,zbg]
   by_cases h2:(0:Int)<(ns.length:Int)
   ·obtain ⟨v,hv1,hv2⟩:=zlt (ns.map D.int) ((k:Int) % (ns.length:Int)) (Int.emod_nonneg _ (by omega)) (by rw [qlm];exact Int.emod_lt_of_pos _ h2)
    obtain ⟨i,_,rfl⟩:=List.mem_map.mp hv2
    simp only [h2,decide_true,if_true,zbe,zbm,zbd,zbj,za0,zcq,zaq,zay,za7,zbs,zb4,zbk,zav,zch,zce,zcf,zcg,zau,zb3,zbx,zar,zap,zcd,zcr,zcs,zct,zcu,zcv,zbq,zb5,zcc,zc1,zci,zcj,zbw,zbh,zb9,zck,zcl,zcn,zb1,zc2,zby,zbr,zb6,zbz,zc3,zc4,zcw,zcx,zb2,zca,zc5,zcb,List.map_cons,List.map_nil,List.length_cons,List.length_nil,Nat.reduceAdd,Nat.reduceSub,List.replicate,List.cons_append,List.nil_append,qg0,qg1,qs0,qs1,zas,za5,zbg,zcm,zcz,zc0,zb7,zb8,za1,decide_eq_true_eq,qlm,h,hv1,f0,c2,true_or,true_and]
    first|exact ⟨nofun,nofun,_,rfl⟩|exact ⟨_,rfl⟩
   ·simp only [h2,decide_false,qbf,if_false,zbk]
    exact ⟨nofun,nofun,_,rfl⟩
 rintro l S2 ⟨rfl,c,rfl⟩
 have c3:(0:Int)<=18/\(18:Int)<=1000000/\(10:Int).natAbs<2 ^ 64:=by decide
 have m0:=Int.emod_nonneg c (show (2147483587:Int)≠0 by decide)
 have m1:=Int.emod_lt_of_pos c f1
 have e18:((10:Int) ^ (18:Int).toNat)=1000000000000000000:=by decide
 rw [zbm,zbd]
 simp only [zbj,za0,zaq,zay,qg0,qg1,zas,zb5,decide_eq_true_eq,c3,true_and,zbq,zbg,e18]
 by_cases hc:c ≥ 1000000000000000000
 ·simp only [hc,decide_true,if_true,zbe,zbm,zbd,zbj,za0,zcq,zaq,zay,za7,zbs,zb4,zbk,zav,zch,zce,zcf,zcg,zau,zb3,zbx,zar,zap,zcd,zcr,zcs,zct,zcu,zcv,zbq,zb5,zcc,zc1,zci,zcj,zbw,zbh,zb9,zck,zcl,zcn,zb1,zc2,zby,zbr,zb6,zbz,zc3,zc4,zcw,zcx,zb2,zca,zc5,zcb,List.map_cons,List.map_nil,List.length_cons,List.length_nil,Nat.reduceAdd,Nat.reduceSub,List.replicate,List.cons_append,List.nil_append,qg0,qg1,qs0,qs1,zas,za5,zbg,zcm,zcz,zc0,zb7,zb8,za1,decide_eq_true_eq,c3,true_and,f1,sz3,e18,and_self]
  exact ⟨⟨_,_,_,zdh _ _,by omega,m0,m1,by decide⟩,⟨_,rfl⟩⟩
 ·simp only [hc,decide_false,qbf,if_false,zbk,zbe,zbm,zbd,zbj,za0,zcq,zaq,zay,za7,zbs,zb4,zbk,zav,zch,zce,zcf,zcg,zau,zb3,zbx,zar,zap,zcd,zcr,zcs,zct,zcu,zcv,zbq,zb5,zcc,zc1,zci,zcj,zbw,zbh,zb9,zck,zcl,zcn,zb1,zc2,zby,zbr,zb6,zbz,zc3,zc4,zcw,zcx,zb2,zca,zc5,zcb,List.map_cons,List.map_nil,List.length_cons,List.length_nil,Nat.reduceAdd,Nat.reduceSub,List.replicate,List.cons_append,List.nil_append,qg0,qg1,qs0,qs1,zas,za5,zbg,zcm,zcz,zc0,zb7,zb8,za1,decide_eq_true_eq,f1,sz3,true_and,and_self]
  exact ⟨⟨_,_,_,zdh _ _,by decide,m0,m1,by decide⟩,⟨_,rfl⟩⟩
abbrev Cl:=Option Nat × Option Nat
noncomputable def oD:Option Nat->D
 | none=>.non
 | some k=>.int (k:Int)
noncomputable def cD (c:Cl):D:=.tup [oD c.1,oD c.2]
def OkC (m:Nat) (c:Cl):Prop:=(∀k,c.1=some k->k<m)/\∀k,c.2=some k->k<8
noncomputable def rD (cs:List Cl):D:=.tup (cs.map cD)
theorem zty (n:Nat) (many share pool:Nat) (S:Sto) (h:PQ n S) (h1:1<=many) (h2:many<=100) (h3:1<=pool) (h4:pool<=8):Wo (zi1 [.ref n,.int many,.int share,.int pool] S) λv S'=>(∃c,v=cD c/\OkC many c)/\PQ n S'/\Fn n S S':=by
 have sz2:2<=sizeLine:=by decide
 unfold zi1 ztg
 dsimp! only [zbe]
 refine zc8 (λl S'=>PQ n S'/\Fn n S S'/\∃d:Nat,d<many/\l=[~~~n,some (.int many),some (.int share),some (.int pool),some (.int d),none]) ?_ ?_
 ·simp only [za7,zau,zar,zap,zaq,qg0,qg1,zas]
  refine (zej n many S h (by omega) (by omega)).mono ?_
  rintro x S1 ⟨⟨d,rfl,hd⟩,p,f⟩
  simp only [zav,qs0,qs1]
  exact ⟨nofun,p,f,d,by omega,rfl⟩
 rintro l S1 ⟨p1,f1,d1,hd1,rfl⟩
 refine zc8 (λl S'=>PQ n S'/\Fn n S S'/\∃d:Nat,d<8/\l=[~~~n,some (.int many),some (.int share),some (.int pool),some (.int d1),some (.int d)]) ?_ ?_
 ·simp only [za7,zau,zar,zap,zaq,qg0,qg1,zas]
  refine (zej n pool S1 p1 (by omega) (by omega)).mono ?_
  rintro x S2 ⟨⟨d,rfl,hd⟩,p,f⟩
  simp only [zav,qs0,qs1]
  exact ⟨nofun,p,f1.trans f,d,by omega,rfl⟩
 rintro l S2 ⟨p2,f2,d2,hd2,rfl⟩
 refine zc8 (λl S'=>PQ n S'/\Fn n S S'/\∃g:Option Nat,(∀k,g=some k->k<many)/\l=[~~~n,some (.int many),some (.int share),some (.int pool),some (oD g),some (.int d2)]) ?_ ?_
 ·simp only [zbd,zbj,za0,zau,zar,zap,zaq,zay,qg0,qg1,zas]
  refine (zej n 8 S2 p2 (by decide) (by decide)).mono ?_
  rintro x S3 ⟨⟨d,rfl,hd⟩,p,f⟩
  simp only [zbq,zbg]
  by_cases hc:(d:Int)<(share:Int)
  ·simp only [hc,decide_true,if_true,za7,zay,zav,qs0,qs1]
   exact ⟨nofun,p,f2.trans f,none,(λk z=>by cases z),rfl⟩
  ·simp only [hc,decide_false,qbf,if_false,zbk]
   exact ⟨nofun,p,f2.trans f,some d1,(λk z=>by cases z;exact hd1),rfl⟩
 rintro l S3 ⟨p3,f3,g,hg,rfl⟩
 refine zc8 (λl S'=>PQ n S'/\Fn n S S'/\∃s:Option Nat,(∀k,s=some k->k<8)/\l=[~~~n,some (.int many),some (.int share),some (.int pool),some (oD g),some (oD s)]) ?_ ?_
 ·simp only [zbd,zbj,za0,zau,zar,zap,zaq,zay,qg0,qg1,zas]
  refine (zej n 8 S3 p3 (by decide) (by decide)).mono ?_
  rintro x S4 ⟨⟨d,rfl,hd⟩,p,f⟩
  simp only [zbq,zbg]
  by_cases hc:(d:Int)<(share:Int)
  ·simp only [hc,decide_true,if_true,za7,zay,zav,qs0,qs1]
   exact ⟨nofun,p,f3.trans f,none,(λk z=>by cases z),rfl⟩
  ·simp only [hc,decide_false,qbf,if_false,zbk]
   exact ⟨nofun,p,f3.trans f,some d2,(λk z=>by cases z;exact hd2),rfl⟩
 rintro l S4 ⟨p4,f4,s,hs,rfl⟩
 simp only [zbe,zbm,zbd,zbj,za0,zcq,zaq,zay,za7,zbs,zb4,zbk,zav,zch,zce,zcf,zcg,zau,zb3,zbx,zar,zap,zcd,zcr,zcs,zct,zcu,zcv,zbq,zb5,zcc,zc1,zci,zcj,zbw,zbh,zb9,zck,zcl,zcn,zb1,zc2,zby,zbr,zb6,zbz,zc3,zc4,zcw,zcx,zb2,zca,zc5,zcb,List.map_cons,List.map_nil,List.length_cons,List.length_nil,Nat.reduceAdd,Nat.reduceSub,List.replicate,List.cons_append,List.nil_append,qg0,qg1,qs0,qs1,zas,za5,zbg,zcm,zcz,zc0,zb7,zb8,za1,decide_eq_true_eq,sz2,true_and]
 exact ⟨⟨(g,s),rfl,hg,hs⟩,p4,f4⟩
theorem Fn.set' {n r:Nat}{A B:Sto}{o:Ob}(h:Fn n A B) (hr:A.length<=r):Fn n A (B.set r o):=λj o' hj e=>by
 have:=(qme e).1
 rw [List.getElem?_set_ne (by omega)];exact h j o' hj e
theorem PQ.set {n r:Nat}{S:Sto}{o:Ob}(h:PQ n S) (hr:r≠n):PQ n (S.set r o):=let ⟨x,y,z,e,q⟩:=h;⟨x,y,z,by rw [List.getElem?_set_ne hr];exact e,q⟩
theorem Fn.len {n:Nat}{A B:Sto}(h:Fn n A B) (p:PQ n B):A.length<=B.length:=by
 by_cases hA:A.length=0
 ·omega
 ·by_cases hn:A.length-1=n
  ·have:=p.lt;omega
  ·have h1:A[A.length-1]? = some A[A.length-1]:=qge (by omega)
   have:=(qme (h _ _ hn h1)).1
   omega
def OkR (m asks:Nat) (cs:List Cl):Prop:=cs.length=asks/\∀c∈cs,OkC m c
noncomputable def mD (asks:Nat) (rs:List (List Cl)):D:=.tup [.int (asks:Int),.tup (rs.map rD)]
structure OkM (asks:Nat) (rs:List (List Cl)):Prop where
 a1:1<=asks
 a4:asks<=4
 r1:1<=rs.length
 r24:rs.length<=24
 ok:∀cs∈rs,OkR rs.length asks cs
theorem yel (i:Nat) (hi:(i:Int)<4):∃m:Nat,L2.atI [D.int 0,.int 1,.int 3,.int 6] (i:Int)=some (.int m):=by
 have:i=0\/i=1\/i=2\/i=3:=by omega
 rcases this with rfl|rfl|rfl|rfl
 ·exact ⟨0,rfl⟩
 ·exact ⟨1,rfl⟩
 ·exact ⟨3,rfl⟩
 ·exact ⟨6,rfl⟩
theorem yem (i:Nat) (hi:(i:Int)<3):∃m:Nat,L2.atI [D.int 2,.int 3,.int 8] (i:Int)=some (.int m)/\1<=m/\m<=8:=by
 have:i=0\/i=1\/i=2:=by omega
 rcases this with rfl|rfl|rfl
 ·exact ⟨2,rfl,by decide,by decide⟩
 ·exact ⟨3,rfl,by decide,by decide⟩
 ·exact ⟨8,rfl,by decide,by decide⟩
theorem ztz {m:Nat}:∀(vs:List D),(∀v∈vs,∃c,v=cD c/\OkC m c)->∃cs:List Cl,vs=cs.map cD/\∀c∈cs,OkC m c
 | [],_=>⟨[],rfl,λt h=>by cases h⟩
 | v :: vs,h=>by
  obtain ⟨c,rfl,hc⟩:=h v List.mem_cons_self
  obtain ⟨cs,h1,h2⟩:=ztz vs λu hu=>h u (List.mem_cons_of_mem _ hu)
  refine ⟨c :: cs,by rw [h1];rfl,λt ht=>?_⟩
  rcases List.mem_cons.mp ht with rfl|ht
  ·exact hc
  ·exact h2 t ht
theorem yen {S:Sto}{q d:Nat}{xs:List D}{v:D}(h:S[q]? = some (.lst xs)) (hd:d<xs.length):zgi (.ref q) (.int (d:Int)) v S=some (S.set q (.lst (xs.set d v))):=by
 unfold zgi
 simp only [h]
 have:L2.ixN xs.length (d:Int)=some d:=by unfold L2.ixN;simp;omega
 rw [this];rfl
theorem yeo {S:Sto}{xs:List D}{Q:D->Sto->Prop}:Wo (zjn [.tup xs] S) Q=Q (.ref S.length) (S++[.lst xs]):=zc6
theorem yep (n asks most:Nat) (S:Sto) (h:PQ n S) (ha1:1<=asks) (ha4:asks<=4) (hm1:1<=most) (hm24:most<=24):Wo (zke [.ref n,.int (most:Int),.int asks] S) λv S'=>(∃rs,v=mD asks rs/\OkM asks rs)/\PQ n S'/\Fn n S S':=by
 have sz0:0<=sizeLine:=by decide
 have sz2:2<=sizeLine:=by decide
 have sz3:3<=sizeLine:=by decide
 have sz4:4<=sizeLine:=by decide
 have big:1000<=sizeLine:=by decide
 unfold zke zth
 dsimp! only [zbe]
 refine zc8 (λl S'=>PQ n S'/\Fn n S S'/\∃many:Nat,1<=many/\many<=24/\l=[~~~n,‹most›,some (.int asks),some (.int many),none,none,none,none,none]) ?_ ?_
 ·simp only [za7,za0,zau,zar,zap,zaq,zay,qg0,qg1,zas]
  refine (zej n (most:Int) S h (by omega) (by omega)).mono ?_
  rintro x S1 ⟨⟨d,rfl,hd⟩,p,f⟩
  have e:(1:Int)+(d:Int)=((1+d:Nat):Int):=by push_cast;rfl
  simp only [zcc,e,zav,qs0,qs1]
  exact ⟨nofun,p,f,1+d,by omega,by omega,rfl⟩
 rintro l S1 ⟨p1,f1,many,m1,m24,rfl⟩
 refine zc8 (λl S'=>PQ n S'/\Fn n S S'/\∃share:Nat,l=[~~~n,‹most›,some (.int asks),some (.int many),some (.int share),none,none,none,none]) ?_ ?_
 ·simp only [za7,za0,zau,zar,zap,zaq,zay,qg0,qg1,zas,zbr,List.length_cons,List.length_nil,Nat.reduceAdd,sz4,true_and]
  refine (zej n 4 _ (p1.gr ⟨_,rfl⟩) (by decide) (by decide)).mono ?_
  rintro x S2 ⟨⟨d,rfl,hd⟩,p,f⟩
  obtain ⟨m,hm⟩:=yel d hd
  have hl:=f.lst (Ne.symm (Nat.ne_of_lt p1.lt)) za1
  simp only [zbh,hl,za5,hm,zav,qs0,qs1]
  exact ⟨p,f1.trans ((Fn.gr ⟨_,rfl⟩).trans f),m,rfl⟩
 rintro l S2 ⟨p2,f2,share,rfl⟩
 refine zc8 (λl S'=>PQ n S'/\Fn n S S'/\∃pool:Nat,1<=pool/\pool<=8/\l=[~~~n,‹most›,some (.int asks),some (.int many),some (.int share),some (.int pool),none,none,none]) ?_ ?_
 ·simp only [za7,za0,zau,zar,zap,zaq,zay,qg0,qg1,zas,zbr,List.length_cons,List.length_nil,Nat.reduceAdd,sz3,true_and]
  refine (zej n 3 _ (p2.gr ⟨_,rfl⟩) (by decide) (by decide)).mono ?_
  rintro x S3 ⟨⟨d,rfl,hd⟩,p,f⟩
  obtain ⟨m,hm,hm1,hm2⟩:=yem d hd
  have hl:=f.lst (Ne.symm (Nat.ne_of_lt p2.lt)) za1
  simp only [zbh,hl,za5,hm,zav,qs0,qs1]
  exact ⟨p,f2.trans ((Fn.gr ⟨_,rfl⟩).trans f),m,hm1,hm2,rfl⟩
 rintro l S3 ⟨p3,f3,pool,po1,po2,rfl⟩
 refine zc8 (λl S'=>PQ n S'/\Fn n S S'/\∃r,S.length<=r/\r≠n/\S'[r]? = some (.lst [])/\l=[~~~n,‹most›,some (.int asks),some (.int many),some (.int share),some (.int pool),~~~r,none,none]) ?_ ?_
 ·simp only [zbe,zbm,zbd,zbj,za0,zcq,zaq,zay,za7,zbs,zb4,zbk,zav,zch,zce,zcf,zcg,zau,zb3,zbx,zar,zap,zcd,zcr,zcs,zct,zcu,zcv,zbq,zb5,zcc,zc1,zci,zcj,zbw,zbh,zb9,zck,zcl,zcn,zb1,zc2,zby,zbr,zb6,zbz,zc3,zc4,zcw,zcx,zb2,zca,zc5,zcb,List.map_cons,List.map_nil,List.length_cons,List.length_nil,Nat.reduceAdd,Nat.reduceSub,List.replicate,List.cons_append,List.nil_append,qg0,qg1,qs0,qs1,zas,za5,zbg,zcm,zcz,zc0,zb7,zb8,za1,decide_eq_true_eq,sz0,true_and]
  have:=f3.len p3
  exact ⟨p3.gr ⟨_,rfl⟩,f3.trans (Fn.gr ⟨_,rfl⟩),_,this,Ne.symm (Nat.ne_of_lt p3.lt),zdh _ _,rfl⟩
 rintro l S4 ⟨p4,f4,r,hr,hrn,h4,rfl⟩
 rw [zbm]
 refine zlw (n:=many) (λi l S'=>PQ n S'/\Fn n S S'/\∃rs:List (List Cl),rs.length=i/\(∀cs∈rs,OkR many asks cs)/\S'[r]? = some (.lst (rs.map rD))/\∃y7 y8,l=[~~~n,‹most›,some (.int asks),some (.int many),some (.int share),some (.int pool),~~~r,y7,y8]) (λ_ _=>False) (as1 rfl) (by omega) ⟨p4,f4,[],rfl,(λcs z=>by cases z),h4,_,_,rfl⟩ ?_ ?_ (λd l S h=>h.elim)
 ·rintro i l S5 hi ⟨p5,f5,rs,hl5,ok5,h5,y7,y8,rfl⟩
  simp only [zav,qs0,qs1]
  have hrl:=(qme h5).1
  refine zc8 (λl S'=>PQ n S'/\Fn n S5 S'/\∃q cs,S5.length<=q/\OkR many asks cs/\S'[q]? = some (.lst (cs.map cD))/\l=[~~~n,‹most›,some (.int asks),some (.int many),some (.int share),some (.int pool),~~~r,some (.int i),~~~q]) ?_ ?_
  ·rw [za7]
   refine zso (zd8 0 asks) (λv=>∃c,v=cD c/\OkC many c) (λ_ S'=>PQ n S'/\Fn n S5 S') (λl=>∃y0,l=[y0,~~~n,some (.int many),some (.int share),some (.int pool)]) (zsp (as1 rfl) (by omega)) ⟨p5,Fn.refl n S5⟩ ⟨_,rfl⟩ (λi S _=>rfl) (by rw [zir];omega) ?_ ?_
   ·rintro j x l S6 hx ⟨y0,rfl⟩ ⟨p6,f6⟩
    simp only [zav,qs0]
    refine ⟨⟨_,rfl⟩,?_⟩
    simp only [zau,zar,zap,zaq,qg0,qg1,zas]
    refine (zty n many share pool S6 p6 m1 (by omega) po1 po2).mono ?_
    rintro v S7 ⟨hc,p7,f7⟩
    exact ⟨hc,p7,f6.trans f7⟩
   ·rintro vs S6 hl hv ⟨p6,f6⟩
    obtain ⟨cs,rfl,hcs⟩:=ztz vs hv
    rw [zir,qlm] at hl
    simp only [zav,qs0,qs1]
    exact ⟨nofun,p6.gr ⟨_,rfl⟩,f6.trans (Fn.gr ⟨_,rfl⟩),_,cs,f6.len p6,⟨hl,hcs⟩,zdh _ _,rfl⟩
  rintro l S6 ⟨p6,f6,q,cs,hq,okc,h6,rfl⟩
  have h6r:=f6 r _ hrn h5
  have fin:∀{S9:Sto} {q9:Nat} {cs9:List Cl},PQ n S9->Fn n S5 S9->S9[q9]? = some (.lst (cs9.map cD))->OkR many asks cs9 ->
    Ws (zdz (zfr zfq (eVar 6) (zaa (zac zdb (zaa (eVar 8) (zab))) zab))) [~~~n,‹most›,some (.int asks),some (.int many),some (.int share),some (.int pool),~~~r,some (.int i),~~~q9] S9 λf l2 S2 =>
     ((f=.nx\/f=.ct)/\PQ n S2/\Fn n S S2/\∃rs:List (List Cl),rs.length=i+1/\(∀cs∈rs,OkR many asks cs)/\S2[r]? = some (.lst (rs.map rD))/\∃y7 y8,l2=[~~~n,‹most›,some (.int asks),some (.int many),some (.int share),some (.int pool),~~~r,y7,y8])\/∃d,f=.rt d/\False:=λ{S9 q9 cs9} p9 f9 h9 ok9=>by
   have h9r:=f9 r _ hrn h5
   simp only [zb4,zb3,zau,zaq,zar,zap,qg0,qg1,zas,za5,zb6,zei h9,znf]
   refine ⟨⟨_,show zhl (.ref r) S9=some _ from zei h9r⟩,_,h9r,by rw [qlm];omega,.inl ⟨(by first|exact .inl rfl|exact .inl trivial|trivial),p9.set hrn,(f5.trans f9).set' hr,rs++[cs9],by simp [hl5],λc hc=>?_,?_,_,_,rfl⟩⟩
   ·rcases List.mem_append.mp hc with z|z
    ·exact ok5 c z
    ·rw [List.mem_singleton.mp z];exact ok9
   ·rw [zi3 h9r,List.map_append];rfl
  rw [zbm,zbd]
  simp only [zcd,zbj,za0,zau,zar,zap,zaq,zay,qg0,qg1,zas,zbq,zbg]
  by_cases hi0:(0:Int)<(i:Int)
  ·simp only [hi0,decide_true,if_true]
   refine (zej n 3 S6 p6 (by decide) (by decide)).mono ?_
   rintro x S7 ⟨⟨d,rfl,hd⟩,p7,f7⟩
   simp only [zbz,zbg]
   by_cases hd0:(d:Int)=0
   ·simp only [hd0,decide_true,if_true]
    have f57:=f6.trans f7
    refine zc8 (λl S'=>PQ n S'/\Fn n S5 S'/\∃q cs,q≠n/\S5.length<=q/\OkR many asks cs/\S'[q]? = some (.lst (cs.map cD))/\l=[~~~n,‹most›,some (.int asks),some (.int many),some (.int share),some (.int pool),~~~r,some (.int i),~~~q]) ?_ ?_
    ·simp only [za7,za0,zau,zar,zap,zaq,qg0,qg1,zas]
     refine (zej n (i:Int) S7 p7 hi0 (by omega)).mono ?_
     rintro x S8 ⟨⟨t,rfl,ht⟩,p8,f8⟩
     have f58:=f57.trans f8
     obtain ⟨u,hu1,hu2⟩:=zlt (rs.map rD) (t:Int) (by omega) (by rw [qlm];omega)
     obtain ⟨cs',hcs',rfl⟩:=List.mem_map.mp hu2
     simp only [zbh,zei (f58 r _ hrn h5),za5,hu1,rD,yeo,zav,qs0,qs1]
     exact ⟨nofun,p8.gr ⟨_,rfl⟩,f58.trans (Fn.gr ⟨_,rfl⟩),_,cs',Ne.symm (Nat.ne_of_lt p8.lt),f58.len p8,ok5 _ hcs',zdh _ _,rfl⟩
    rintro l S8 ⟨p8,f8,q8,cs8,hq8,hql,ok8,h8,rfl⟩
    rw [za7]
    simp only [zau,zar,zap,zaq,qg0,qg1,zas]
    refine (zty n many share pool S8 p8 m1 (by omega) po1 po2).mono ?_
    rintro v S9 ⟨⟨c,rfl,hc⟩,p9,f9⟩
    rw [zch]
    simp only [zau,zar,zap,zaq,qg0,qg1,zas]
    refine (zej n (asks:Int) S9 p9 (by omega) (by omega)).mono ?_
    rintro x S10 ⟨⟨t,rfl,ht⟩,p10,f10⟩
    have h10:=f10 q8 _ hq8 (f9 q8 _ hq8 h8)
    have hlt:t<(cs8.map cD).length:=by rw [qlm,ok8.1];omega
    refine ⟨_,yen h10 hlt,?_⟩
    refine fin (cs9:=cs8.set t c) (p10.set hq8) (((f8.trans f9).trans f10).set' hql) ?_ ⟨by rw [List.length_set];exact ok8.1,λc' hc'=>?_⟩
    ·rw [zi3 h10,List.map_set]
    ·rcases List.mem_or_eq_of_mem_set hc' with z|z
     ·exact ok8.2 c' z
     ·rw [z];exact hc
   ·simp only [hd0,decide_false,qbf,if_false,zbk]
    exact fin p7 (f6.trans f7) (f7 q _ (by have:=p5.lt;omega) h6) okc
  ·simp only [hi0,decide_false,qbf,if_false,zbk]
   exact fin p6 f6 h6 okc
 ·rintro l S5 ⟨p5,f5,rs,hl5,ok5,h5,y7,y8,rfl⟩
  simp only [zbe,zbm,zbd,zbj,za0,zcq,zaq,zay,za7,zbs,zb4,zbk,zav,zch,zce,zcf,zcg,zau,zb3,zbx,zar,zap,zcd,zcr,zcs,zct,zcu,zcv,zbq,zb5,zcc,zc1,zci,zcj,zbw,zbh,zb9,zck,zcl,zcn,zb1,zc2,zby,zbr,zb6,zbz,zc3,zc4,zcw,zcx,zb2,zca,zc5,zcb,List.map_cons,List.map_nil,List.length_cons,List.length_nil,Nat.reduceAdd,Nat.reduceSub,List.replicate,List.cons_append,List.nil_append,qg0,qg1,qs0,qs1,zas,za5,zbg,zcm,zcz,zc0,zb7,zb8,za1,decide_eq_true_eq,zei h5,sz2,true_and]
  exact ⟨⟨rs,rfl,ha1,ha4,by omega,by omega,by rw [hl5];exact ok5⟩,p5,f5⟩
noncomputable def nt (k:Nat):Str:=toString (k:Int)
noncomputable def pt:Option Nat->Str
 | none=>"-"
 | some k=>nt k
noncomputable def gd (c:Nat):Bool:=c == 45 || (48<=c && c<=57)
theorem yeq:∀k:Fin 24,((nt k.val).cps.toList.all gd && decide ((nt k.val).length<=2) && decide (nt k.val≠"-"))=true:=by decide +kernel
theorem yer:∀(k:Fin 24) (j:Fin 24),nt k.val=nt j.val->k=j:=by decide +kernel
theorem zn7 {k:Nat}(h:k<24):(∀c∈(nt k).cps.toList,gd c=true)/\(nt k).length<=2/\nt k≠"-":=by
 have:=yeq ⟨k,h⟩
 simp only [Bool.and_eq_true,decide_eq_true_eq,List.all_eq_true] at this
 exact ⟨this.1.1,this.1.2,this.2⟩
theorem yes {k j:Nat}(h:k<24) (h2:j<24) (e:nt k=nt j):k=j:=congrArg Fin.val (yer ⟨k,h⟩ ⟨j,h2⟩ e)
theorem zl0 {g:Option Nat}(h:∀k,g=some k->k<24):(∀c∈(pt g).cps.toList,gd c=true)/\(pt g).length<=2:=by
 cases g with
 | none=>exact ⟨by decide +kernel,by decide +kernel⟩
 | some k=>exact ⟨(zn7 (h k rfl)).1,(zn7 (h k rfl)).2.1⟩
noncomputable def ct (c:Cl):Str:=pt c.1++"/"++pt c.2
noncomputable def rt (cs:List Cl):Str:=Str.join " " (cs.map ct)
noncomputable def mt (asks:Nat) (rs:List (List Cl)):Str:=nt asks++": "++Str.join " | " (rs.map rt)
theorem yet:TX.Mk ": " 58 0:=⟨by decide +kernel,λi h=>by omega,by decide +kernel⟩
theorem OkC.p1 {m:Nat}{c:Cl}(h:OkC m c) (hm:m<=24):∀k,c.1=some k->k<24:=λk e=>Nat.lt_of_lt_of_le (h.1 k e) hm
theorem OkC.p2 {m:Nat}{c:Cl}(h:OkC m c):∀k,c.2=some k->k<24:=λk e=>Nat.lt_of_lt_of_le (h.2 k e) (by decide)
theorem zt0 {m:Nat}{c:Cl}(h:OkC m c) (hm:m<=24):(ct c).length<=5:=by
 have h1:=(zl0 (h.p1 hm)).2
 have h2:=(zl0 h.p2).2
 have e:("/":Str).length=1:=by decide +kernel
 unfold ct
 rw [Str.length_append,Str.length_append];omega
theorem zkh {B:Nat}:∀(ts:List Str),(∀t∈ts,t.length<=B)->(ts.map (·.length)).sum<=B*ts.length
 | [],_=>by simp
 | t :: ts,h=>by
  have h1:=h t List.mem_cons_self
  have h2:=zkh ts λu hu=>h u (List.mem_cons_of_mem _ hu)
  simp only [List.map_cons,List.sum_cons,List.length_cons,Nat.mul_add,Nat.mul_one];omega
theorem zt1 {m asks:Nat}{cs:List Cl}(h:OkR m asks cs) (hm:m<=24) (ha:asks<=4):((cs.map ct).map (·.length)).sum+(cs.map ct).length*(" ":Str).length<=24:=by
 have h1:=zkh (B:=5) (cs.map ct) λt ht=>by
  obtain ⟨c,hc,rfl⟩:=List.mem_map.mp ht
  exact zt0 (h.2 c hc) hm
 have e:(" ":Str).length=1:=by decide +kernel
 rw [qlm,h.1] at h1
 rw [e,qlm,h.1];omega
theorem yeu {m asks:Nat}{cs:List Cl}(h:OkR m asks cs) (hm:m<=24) (ha:asks<=4):(rt cs).length<=24:=Nat.le_trans (StrLaws.join_length_le _ _) (zt1 h hm ha)
theorem zt2 {asks:Nat}{rs:List (List Cl)}(h:OkM asks rs):((rs.map rt).map (·.length)).sum+(rs.map rt).length*(" | ":Str).length<=700:=by
 have h1:=zkh (B:=24) (rs.map rt) λt ht=>by
  obtain ⟨cs,hc,rfl⟩:=List.mem_map.mp ht
  exact yeu (h.ok cs hc) h.r24 h.a4
 have e:(" | ":Str).length=3:=by decide +kernel
 have:=h.r24
 rw [qlm] at h1
 rw [e,qlm];omega
theorem zt3 {asks:Nat}{rs:List (List Cl)}(h:OkM asks rs):(Str.join " | " (rs.map rt)).length<=700:=Nat.le_trans (StrLaws.join_length_le _ _) (zt2 h)
theorem zl1 {k:Nat}(h:k<24):(nt k).length<=2:=(zn7 h).2.1
theorem zi4:(": ":Str).length=2:=by decide +kernel
theorem yev {asks:Nat}{rs:List (List Cl)}(h:OkM asks rs):(mt asks rs).length<=704:=by
 have h1:=zt3 h
 have h2:=zl1 (k:=asks) (by have:=h.a4;omega)
 unfold mt
 rw [Str.length_append,Str.length_append,zi4];omega
theorem zl2 {o:Option (D × Sto)}{x:D}{S:Sto}(h:Wo o λv S'=>v=x/\S' = S):o=some (x,S):=by
 obtain ⟨v,S',e,rfl,rfl⟩:=h;exact e
theorem zt4 {g:Option Nat}{S:Sto}(h:∀k,g=some k->k<24):zi0 [oD g] S=some (.str (pt g),S):=by
 apply zl2
 unfold zi0 ztd
 dsimp! only [zbe]
 cases g with
 | none=>simp only [zbe,zbm,zbd,zbj,za0,zcq,zaq,zay,za7,zbs,zb4,zbk,zav,zch,zce,zcf,zcg,zau,zb3,zbx,zar,zap,zcd,zcr,zcs,zct,zcu,zcv,zbq,zb5,zcc,zc1,zci,zcj,zbw,zbh,zb9,zck,zcl,zcn,zb1,zc2,zby,zbr,zb6,zbz,zc3,zc4,zcw,zcx,zb2,zca,zc5,zcb,List.map_cons,List.map_nil,List.length_cons,List.length_nil,Nat.reduceAdd,Nat.reduceSub,List.replicate,List.cons_append,List.nil_append,qg0,qg1,qs0,qs1,zas,za5,zbg,zcm,zcz,zc0,zb7,zb8,za1,decide_eq_true_eq,oD,zel,if_true,pt,and_self]
 | some k=>simp only [zbe,zbm,zbd,zbj,za0,zcq,zaq,zay,za7,zbs,zb4,zbk,zav,zch,zce,zcf,zcg,zau,zb3,zbx,zar,zap,zcd,zcr,zcs,zct,zcu,zcv,zbq,zb5,zcc,zc1,zci,zcj,zbw,zbh,zb9,zck,zcl,zcn,zb1,zc2,zby,zbr,zb6,zbz,zc3,zc4,zcw,zcx,zb2,zca,zc5,zcb,List.map_cons,List.map_nil,List.length_cons,List.length_nil,Nat.reduceAdd,Nat.reduceSub,List.replicate,List.cons_append,List.nil_append,qg0,qg1,qs0,qs1,zas,za5,zbg,zcm,zcz,zc0,zb7,zb8,za1,decide_eq_true_eq,oD,zel,qbf,if_false,pt,nt,and_self,zgx (Nat.lt_of_lt_of_le (h k rfl) (by decide))]
theorem ze8 {n:Nat}(h:n<=10000):n<=sizeLine:=Nat.le_trans h (by decide)
theorem zt5 {m:Nat}{c:Cl}{S:Sto}(h:OkC m c) (hm:m<=24):zig [cD c] S=some (.str (ct c),S):=by
 have l1:=(zl0 (h.p1 hm)).2
 have l2:=(zl0 h.p2).2
 have e:("/":Str).length=1:=by decide +kernel
 have z3:(pt c.1).length+("/":Str).length<=sizeLine:=ze8 (by omega)
 have z4:(pt c.1++"/").length+(pt c.2).length<=sizeLine:=ze8 (by rw [Str.length_append];omega)
 apply zl2
 unfold zig zte cD
 dsimp! only [zbe]
 simp only [zbs,zau,zar,zap,za0,zaq,zay,qg0,zas,zbw,zb7,zb8,za5,zt4 (h.p1 hm),zt4 h.p2,zc6,zj4,z3,z4,true_and]
 exact ⟨nofun,nofun⟩
theorem zn8 {α:Type}(f:α->Str) (xs:List α):xs.map (λx=>D.str (f x))=(xs.map f).map D.str:=by rw [List.map_map];rfl
noncomputable abbrev zt6 (f:FM):EM:=zc7 zgm (eC (.str " ")) (zaa (zbv (zdj (eVar 0)) [none] (gName3 0) (zbc) (zac f (zaa (eVar 0) (zab)))) zab)
theorem yew {m asks:Nat}{cs:List Cl}{f:FM}{S:Sto}(h:OkR m asks cs) (hm:m<=24) (ha:asks<=4) (hf:∀c∈cs,∀S,f [cD c] S=some (.str (ct c),S)) :
  We (zt6 f) [some (rD cs)] S λv S'=>v=.str (rt cs)/\Gr S S':=by
 rw [zbx,zay]
 refine ⟨rfl,?_⟩
 rw [zar]
 refine zie cs cD (λc=>.str (ct c)) (λS'=>S' = S) (λl=>∃y,l=[y]) (zix rfl) rfl ⟨_,rfl⟩ (λi S _=>rfl) (ze8 (by rw [h.1];omega)) ?_ ?_
 ·rintro c l S' hc ⟨y,rfl⟩ rfl
  simp only [zav,qs0]
  refine ⟨⟨_,rfl⟩,?_⟩
  simp only [zau,zar,zap,zaq,qg0,zas,hf c hc,zc6,and_self]
 ·rintro S' rfl
  rw [zn8]
  simp only [zap,zlu,za1,za5,zlx]
  exact ⟨Nat.le_trans (zt1 h hm ha) (by decide),rfl,_,rfl⟩
theorem yex {asks:Nat}{rs:List (List Cl)}{f:FM}{e:EM}{l:Lo}{S:Sto}{Q:D->Sto->Prop}(h:OkM asks rs) (he:e l S=some (.tup (rs.map rD),S)) (hf:∀c,OkC rs.length c->∀S,f [cD c] S=some (.str (ct c),S))
  (fin:∀S',Gr S S'->Q (.ref S'.length) (S'++[.lst ((rs.map rt).map D.str)])):We (zbv (zdj e) [none] (gName3 0) (zbc) (zt6 f)) l S Q:=by
 refine zie rs rD (λcs=>.str (rt cs)) (λS'=>Gr S S') (λl=>∃y,l=[y]) (zix he) (Gr.refl S) ⟨_,rfl⟩ (λi S _=>rfl) (ze8 (by have:=h.r24;omega)) ?_ ?_
 ·rintro cs l S' hc ⟨y,rfl⟩ g
  simp only [zav,qs0]
  refine ⟨⟨_,rfl⟩,?_⟩
  refine Wo.mono (yew (h.ok cs hc) h.r24 h.a4 λc hcc S=>hf c ((h.ok cs hc).2 c hcc) S) ?_
  rintro v S2 ⟨rfl,g2⟩
  exact ⟨rfl,g.trans g2⟩
 ·intro S' g
  rw [zn8]
  exact fin S' g
theorem yey {asks:Nat}{rs:List (List Cl)}{S:Sto}(h:OkM asks rs):Wo (zkd [mD asks rs] S) λv S'=>v=.str (mt asks rs)/\Gr S S':=by
 have a4:=h.a4
 have l1:=zl1 (k:=asks) (by omega)
 have l2:=zt3 h
 have lg:((asks:Nat):Int).natAbs.log2<1920:=zgx (by omega)
 have s2:(nt asks).length+(": ":Str).length<=sizeLine:=ze8 (by rw [zi4];omega)
 have s3:(nt asks++": ").length+(Str.join " | " (rs.map rt)).length<=sizeLine:=ze8 (by rw [Str.length_append,zi4];omega)
 unfold zkd ztf
 dsimp! only [zbe]
 refine zc8 (λl S'=>Gr S S'/\∃n,lstOf S' n=some ((rs.map rt).map D.str)/\l=[some (mD asks rs),~~~n]) ?_ ?_
 ·rw [za7]
  refine yex h rfl (λc hc S=>zt5 hc h.r24) ?_
  intro S' g
  simp only [zav,qs0,qs1]
  exact ⟨nofun,g.push _,_,za1,rfl⟩
 rintro l S2 ⟨g,n,hn,rfl⟩
 have e:(toString ((asks:Nat):Int):Str)=nt asks:=rfl
 simp only [zbs,za0,zau,zbx,zar,zap,zaq,zay,qg0,qg1,zas,za5,mD,zbw,zb7,zb2,lg,e,zj4,s2,zlu,hn,zlx,zjy,true_and,Nat.le_trans (zt2 h) (show 700<=16777216 by decide),s3]
 exact ⟨rfl,g⟩
theorem yez {S:Sto}{x y:D}{p q:PyData}{Q:D->Sto->Prop}(h1:zax S 60 x=some p) (h2:zax S 60 y=some q) (c1:p.canLay0=true) (c2:q.canLay0=true):Wo (zft x y S) Q=Q (.bl (p.eqv q)) S:=by
 have:zft x y S=some (.bl (p.eqv q),S):=by unfold zft;rw [h1];show (zax S 60 y).bind _=_;rw [h2];show (if _ then _ else _)=_;rw [if_pos ⟨c1,c2⟩]
 rw [this];exact zc6
noncomputable def wD (as:List Nat):D:=.tup (as.map λa=>.int ((a:Nat):Int))
structure OkW (asks:Nat) (as:List Nat):Prop where
 len:as.length<=300
 ok:∀a∈as,a<asks
 a4:asks<=4
noncomputable def wt (as:List Nat):Str:=Str.join "" (as.map nt)
noncomputable def wtx (as:List Nat):Str:=if as=[] then "-" else wt as
theorem zt7 {S:Sto}{k:Nat}:∀(as:List Nat),(∀a∈as,a<1000)->pyAll S (k+1) (as.map λa=>.int ((a:Nat):Int))=some (as.map λa=>.int ((a:Nat):Int))
 | [],_=>by simp [pyAll]
 | a :: as,h=>by
  have h1:=zgx (n:=a) (Nat.lt_trans (h a List.mem_cons_self) (by decide))
  rw [List.map_cons,List.map_cons]
  unfold pyAll
  have e:zax S (k+1) (.int ((a:Nat):Int))=some (.int ((a:Nat):Int)):=by unfold zax;rw [if_pos h1]
  rw [e,zt7 as λb hb=>h b (List.mem_cons_of_mem _ hb)];rfl
theorem zt8:∀(as:List Nat),PyData.canLayAll0 (as.map λa=>.int ((a:Nat):Int))=true
 | []=>by simp [PyData.canLayAll0]
 | a :: as=>by
  rw [List.map_cons]
  simp only [PyData.canLayAll0,PyData.canLay0,zt8 as,Bool.and_self]
theorem zt9 {S:Sto}{as:List Nat}(h:∀a∈as,a<1000):zax S 60 (wD as)=some (.tuple (as.map λa=>.int ((a:Nat):Int))):=by
 unfold wD zax
 rw [zt7 as h];rfl
theorem zua (as:List Nat):(PyData.tuple (as.map λa=>.int ((a:Nat):Int))).canLay0=true:=by
 unfold PyData.canLay0;exact zt8 as
theorem zub {asks:Nat}{as:List Nat}(h:OkW asks as):((as.map nt).map (·.length)).sum+(as.map nt).length*("":Str).length<=700:=by
 have h1:=zkh (B:=2) (as.map nt) λt ht=>by
  obtain ⟨a,ha,rfl⟩:=List.mem_map.mp ht
  exact zl1 (by have:=h.ok a ha;have:=h.a4;omega)
 have e:("":Str).length=0:=by decide +kernel
 have:=h.len
 rw [qlm] at h1
 rw [e];omega
theorem ye0 {asks:Nat}{as:List Nat}(h:OkW asks as):(wt as).length<=700:=Nat.le_trans (StrLaws.join_length_le _ _) (zub h)
theorem ye1 {asks:Nat}{as:List Nat}{S:Sto}(h:OkW asks as):Wo (zkc [wD as] S) λv S'=>v=.str (wtx as)/\Gr S S':=by
 have a4:=h.a4
 have hl:=h.len
 have sz0:0<=sizeLine:=by decide
 have hs:∀a∈as,a<1000:=λa ha=>by have:=h.ok a ha;omega
 unfold zkc ztc
 dsimp! only [zbe]
 rw [zbm,zbd]
 have e0:(D.tup []:D)=wD []:=rfl
 simp only [zbj,za0,zau,zap,zaq,qg0,zas,zby,List.length_nil,sz0,true_and,e0]
 rw [yez (zt9 hs) (zt9 (as:=[]) (λa ha=>by cases ha)) (zua as) (zua [])]
 simp only [zbg]
 by_cases hn:as=[]
 ·subst hn
  have:PyData.eqv (.tuple (([]:List Nat).map λa=>.int ((a:Nat):Int))) (.tuple (([]:List Nat).map λa=>.int ((a:Nat):Int)))=true:=by simp [PyData.eqv,PyData.eqvAll]
  rw [this,if_pos rfl]
  simp only [zbs,zay]
  exact ⟨rfl,Gr.refl S⟩
 ·obtain ⟨a,r,rfl⟩:=List.exists_cons_of_ne_nil hn
  have:PyData.eqv (.tuple ((a :: r).map λa=>.int ((a:Nat):Int))) (.tuple (([]:List Nat).map λa=>.int ((a:Nat):Int)))=false:=by simp [PyData.eqv,PyData.eqvAll]
  rw [this,if_neg (by decide)]
  simp only [zbk]
  rw [zbs,zbx,zay]
  refine ⟨rfl,?_⟩
  rw [zar]
  refine zie (a :: r) (λa=>.int ((a:Nat):Int)) (λa=>.str (nt a)) (λS'=>S' = S) (λl=>∃y,l=[y]) (zix rfl) rfl ⟨_,rfl⟩ (λi S _=>rfl) (ze8 (by omega)) ?_ ?_
  ·rintro c l S' hc ⟨y,rfl⟩ rfl
   simp only [zav,qs0]
   refine ⟨⟨_,rfl⟩,?_⟩
   simp only [zau,zar,zap,zaq,qg0,zas,zb2,zgx (Nat.lt_trans (hs c hc) (show 1000<1000000 by decide)),true_and]
   first|exact ⟨rfl,rfl⟩|exact ⟨nofun,nofun⟩
  ·rintro S' rfl
   rw [zn8]
   simp only [zap,zlu,za1,za5,zlx]
   exact ⟨Nat.le_trans (zub h) (by decide),by unfold wtx;rw [if_neg hn];rfl,_,rfl⟩
noncomputable def zaz {α β:Type}(F:α->Option β):List α->Option (List β)
 | []=>some []
 | x :: xs=>(F x).bind λv=>(zaz F xs).bind λvs=>some (v :: vs)
def Rs (m:Sto->Option (D × Sto)) (r:Sto->Option (Str × Sto)) (S:Sto):Option D->Prop
 | some v=>∃S',m S=some (v,S')/\Gr S S'/\r S=none
 | none=>m S=none/\∃S',r S=some (("NoText":Str),S')/\Gr S S'
theorem ye2 {it:ItM}{e:EM}{r:ZM}{l0:Lo}{S1:Sto}{xs:List D}{F:D->Option D}(hit:∀i S,Gr S1 S->it i S=some xs[i]?)
  (step:∀x∈xs,∀S,Gr S1 S->Rs (e (l0.set 0 (some x))) (r (l0.set 0 (some x))) S (F x)):∀(ys pre:List D) (l:Lo) (S:Sto),xs=pre++ys->(∀x,l.set 0 (some x)=l0.set 0 (some x))->Gr S1 S ->
   (∀vs,zaz F ys=some vs->∃S',zd9 it (gName3 0) zbc e (ys.length+1) pre.length l S=some (vs,S')/\Gr S S'/\zex it (gName3 0) zbc e r (ys.length+1) pre.length l S=none) /\
   (zaz F ys=none->zd9 it (gName3 0) zbc e (ys.length+1) pre.length l S=none/\∃S',zex it (gName3 0) zbc e r (ys.length+1) pre.length l S=some (("NoText":Str),S')/\Gr S S'):=by
 intro ys
 induction ys with
 | nil =>
  intro pre l S hx hl g
  have h0:it pre.length S=some none:=by
   rw [hit _ S g,hx];simp
  refine ⟨λvs h=>?_,λh=>by cases h⟩
  cases h
  refine ⟨S,?_,Gr.refl _,?_⟩
  ·unfold zd9;rw [h0];rfl
  ·unfold zex;rw [h0];rfl
 | cons x ys ih =>
  intro pre l S hx hl g
  have h0:it pre.length S=some (some x):=by
   rw [hit _ S g,hx];simp
  have hc:∀m,zd9 it (gName3 0) zbc e (m+1) pre.length l S=(e (l0.set 0 (some x)) S).bind λr=>(zd9 it (gName3 0) zbc e m (pre.length+1) (l0.set 0 (some x)) r.2).bind λz=>some (r.1 :: z.1,z.2):=λm=>by
   rw [zd9,h0,<-hl x];rfl
  have hz:∀m,zex it (gName3 0) zbc e r (m+1) pre.length l S=(r (l0.set 0 (some x)) S).or ((e (l0.set 0 (some x)) S).bind λv=>zex it (gName3 0) zbc e r m (pre.length+1) (l0.set 0 (some x)) v.2):=λm=>by
   rw [zex];dsimp only;rw [h0,<-hl x];rfl
  have st:=step x (by rw [hx];simp) S g
  rw [List.length_cons,hc,hz]
  show (∀vs,(F x).bind (λv=>(zaz F ys).bind λvs=>some (v :: vs))=some vs->_)/\((F x).bind (λv=>(zaz F ys).bind λvs=>some (v :: vs))=none->_)
  cases hF:F x with
  | none =>
   rw [hF] at st
   obtain ⟨h1,S',h2,g2⟩:=st
   refine ⟨λvs h=>(by cases h),λ_=>⟨?_,S',?_,g2⟩⟩
   ·rw [h1];rfl
   ·rw [h2];rfl
  | some v =>
   rw [hF] at st
   obtain ⟨S2,h1,g2,h2⟩:=st
   have ih:=ih (pre++[x]) (l0.set 0 (some x)) S2 (by rw [hx];simp) (λy=>List.set_set ..) (g.trans g2)
   rw [qla,List.length_singleton] at ih
   rw [h1,h2]
   show (∀vs,(zaz F ys).bind (λvs=>some (v :: vs))=some vs->∃S',(zd9 it (gName3 0) zbc e (ys.length+1) (pre.length+1) (l0.set 0 (some x)) S2).bind (λz=>some (v :: z.1,z.2))=some (vs,S')/\Gr S S'/\zex it (gName3 0) zbc e r (ys.length+1) (pre.length+1) (l0.set 0 (some x)) S2=none) /\
    ((zaz F ys).bind (λvs=>some (v :: vs))=none->(zd9 it (gName3 0) zbc e (ys.length+1) (pre.length+1) (l0.set 0 (some x)) S2).bind (λz=>some (v :: z.1,z.2))=none/\∃S',zex it (gName3 0) zbc e r (ys.length+1) (pre.length+1) (l0.set 0 (some x)) S2=some (("NoText":Str),S')/\Gr S S')
   cases hM:zaz F ys with
   | none =>
    obtain ⟨h3,S',h4,g4⟩:=ih.2 hM
    exact ⟨λvs h=>(by cases h),λ_=>⟨by rw [h3];rfl,S',h4,g2.trans g4⟩⟩
   | some vs =>
    obtain ⟨S',h3,g4,h4⟩:=ih.1 vs hM
    exact ⟨λws h=>(by cases h;exact ⟨S',by rw [h3];rfl,g2.trans g4,h4⟩),λh=>(by cases h)⟩
theorem zn9 {im:IM}{it:ItM}{ixs:List (Option Nat)}{e:EM}{r:ZM}{l:Lo}{S S1:Sto}{xs:List D}{F:D->Option D}(him:im l S=some (it,xs.length+1,S1)) (g1:Gr S S1) (hit:∀i S,Gr S1 S->it i S=some xs[i]?) (hz:xs.length+1<=sizeLine)
  (step:∀x∈xs,∀S,Gr S1 S->Rs (e ((zbp ixs l).set 0 (some x))) (r ((zbp ixs l).set 0 (some x))) S (F x)) :
  (∀vs,zaz F xs=some vs->∃S',zbv im ixs (gName3 0) zbc e l S=some (.ref S'.length,S'++[.lst vs])/\Gr S S'/\ze6 im ixs (gName3 0) zbc e r l S=none) /\
  (zaz F xs=none->zbv im ixs (gName3 0) zbc e l S=none/\∃S',ze6 im ixs (gName3 0) zbc e r l S=some (("NoText":Str),S')/\Gr S S'):=by
 have a:=ye2 hit step xs [] (zbp ixs l) S1 rfl (λ_=>rfl) (Gr.refl _)
 rw [List.length_nil] at a
 have len:∀(ys:List D) vs,zaz F ys=some vs->vs.length=ys.length:=by
  intro ys
  induction ys with
  | nil=>intro vs h;cases h;rfl
  | cons y ys ih =>
   intro vs h
   obtain ⟨v,h1,h⟩:=bnd h
   obtain ⟨ws,h2,h⟩:=bnd h
   cases h
   rw [List.length_cons,List.length_cons,ih ws h2]
 have e1:zbv im ixs (gName3 0) zbc e l S=(zd9 it (gName3 0) zbc e (xs.length+1) 0 (zbp ixs l) S1).bind λz=>if z.1.length<=sizeLine then some (.ref z.2.length,z.2++[.lst z.1]) else none:=by
  unfold zbv;rw [him];rfl
 have e2:ze6 im ixs (gName3 0) zbc e r l S=zex it (gName3 0) zbc e r (xs.length+1) 0 (zbp ixs l) S1:=by
  unfold ze6;rw [him];show (if xs.length+1<=sizeLine then _ else _)=_;rw [if_pos hz]
 rw [e1,e2]
 refine ⟨λvs h=>?_,λh=>?_⟩
 ·obtain ⟨S',h1,g2,h2⟩:=a.1 vs h
  refine ⟨S',?_,g1.trans g2,h2⟩
  rw [h1]
  show (if vs.length<=sizeLine then _ else _)=_
  rw [if_pos (by rw [len xs vs h];omega)]
 ·obtain ⟨h1,S',h2,g2⟩:=a.2 h
  exact ⟨by rw [h1];rfl,S',h2,g1.trans g2⟩
noncomputable def nD (k:Nat):D:=.int (k:Int)
noncomputable def zdr (n:Nat) (z:Str):Option Nat:=(List.range n).find? λk=>decide (z=nt k)
theorem zuc {n k:Nat}{z:Str}(h:k<n) (e:z=nt k) (ne:∀j,j<k->z≠nt j):zdr n z=some k:=by
 unfold zdr
 rw [List.find?_range_eq_some]
 exact ⟨by simpa using e,List.mem_range.mpr h,λj hj=>by simpa using ne j hj⟩
theorem ye3 {n:Nat}{z:Str}(ne:∀j,j<n->z≠nt j):zdr n z=none:=by
 unfold zdr
 rw [List.find?_eq_none]
 intro x hx
 simpa using ne x (List.mem_range.mp hx)
theorem zi5 {n k:Nat}{z:Str}(h:zdr n z=some k):k<n/\z=nt k:=by
 unfold zdr at h
 have h1:=List.mem_of_find?_eq_some h
 have h2:=List.find?_some h
 exact ⟨List.mem_range.mp h1,by simpa using h2⟩
theorem ye4 (n:Nat) (z:Str) (S:Sto) (hn:n<=24):Ws (zgj (zeg (zaa (eVar 1) (zab))) (gName3 2) (sIf (tE (eOp dEq (eVar 0) (zac zgl (zaa (eVar 2) (zab))))) (sRet (eVar 2)) (zat))) [some (.str z),‹n›,none] S λf l S'=>S' = S/\match zdr n z with|some k=>f=.rt (nD k)|none=>f=.nx:=by
 refine zlw (n:=n) (λi l S'=>S' = S/\(∀j,j<i->z≠nt j)/\∃y,l=[some (.str z),‹n›,y]) (λd S'=>S' = S/\∃k,zdr n z=some k/\d=nD k) rfl (by omega) ⟨rfl,(λj hj=>by omega),_,rfl⟩ ?_ ?_ ?_
 ·rintro i l S' hi ⟨rfl,hik,y,rfl⟩
  have e1:toString (i:Int)=nt i:=rfl
  simp only [zbe,zbm,zbd,zbj,za0,zcq,zaq,zay,za7,zbs,zb4,zbk,zav,zch,zce,zcf,zcg,zau,zb3,zbx,zar,zap,zcd,zcr,zcs,zct,zcu,zcv,zbq,zb5,zcc,zc1,zci,zcj,zbw,zbh,zb9,zck,zcl,zcn,zb1,zc2,zby,zbr,zb6,zbz,zc3,zc4,zcw,zcx,zb2,zca,zc5,zcb,List.map_cons,List.map_nil,List.length_cons,List.length_nil,Nat.reduceAdd,Nat.reduceSub,List.replicate,List.cons_append,List.nil_append,qg0,qg1,qs0,qs1,zas,za5,zbg,zcm,zcz,zc0,zb7,zb8,za1,decide_eq_true_eq,zgx (show i<1000000 by omega),true_and]
  rw [e1]
  by_cases e:z=nt i
  ·simp only [e,decide_true,if_true]
   exact .inr ⟨_,rfl,i,by rw [<-e];exact zuc hi e hik,rfl⟩
  ·simp only [e,decide_false,qbf,if_false]
   refine .inl ⟨.inl trivial,λj hj=>?_,_,rfl⟩
   by_cases ji:j=i
   ·rw [ji];exact e
   ·exact hik j (by omega)
 ·rintro l S' ⟨rfl,hk,_⟩
  refine ⟨rfl,?_⟩
  rw [ye3 hk]
 ·rintro d l S' ⟨rfl,k,hk,rfl⟩
  exact ⟨rfl,by rw [hk]⟩
noncomputable def ye5 (S:Sto):Fl->Option (D × Sto)
 | .rt d=>some (d,S)
 | _=>none
noncomputable def ye6 (S:Sto):Fl->Option (Str × Sto)
 | .nx=>some (("NoText":Str),S)
 | _=>none
theorem zoa {n:Nat}{z:Str}{S:Sto}(hn:n<=24):zdw [.str z,.int (n:Int)] S=(zdr n z).map (λk=>(nD k,S))/\zeb [.str z,.int (n:Int)] S=if zdr n z=none then some (("NoText":Str),S) else none:=by
 obtain ⟨f,l,S',e,rfl,h⟩:=ye4 n z S hn
 have e1:zdw [.str z,.int (n:Int)] S' = ye5 S' f:=by
  unfold zdw zc9 zs0 zag
  simp only [List.map_cons,List.map_nil,List.length_cons,List.length_nil,Nat.reduceAdd,Nat.reduceSub,List.replicate,List.cons_append,List.nil_append,e,Option.bind_some]
  cases f <;> rfl
 have e2:zeb [.str z,.int (n:Int)] S' = ye6 S' f:=by
  unfold zeb zhf zs1 zd0
  simp only [List.map_cons,List.map_nil,List.length_cons,List.length_nil,Nat.reduceAdd,Nat.reduceSub,List.replicate,List.cons_append,List.nil_append,e,Option.bind_some]
  cases f <;> rfl
 rw [e1,e2]
 cases hc:zdr n z with
 | none=>rw [hc] at h;cases h;exact ⟨rfl,rfl⟩
 | some k=>rw [hc] at h;cases h;exact ⟨rfl,rfl⟩
theorem ye7 {n:Nat}{z:Str}{S:Sto}(hn:n<=24):Rs (zdw [.str z,.int (n:Int)]) (zeb [.str z,.int (n:Int)]) S ((zdr n z).map nD):=by
 obtain ⟨e1,e2⟩:=zoa (z:=z) (S:=S) hn
 cases hc:zdr n z with
 | none=>rw [hc] at e1 e2;exact ⟨e1,S,e2,Gr.refl _⟩
 | some k=>rw [hc] at e1 e2;exact ⟨S,e1,Gr.refl _,e2⟩
theorem zak {i:Nat}{l:Lo}{S:Sto}{d:D}(h:l[i]? = some (some d)):eVar i l S=some (d,S):=by unfold eVar;rw [h]
theorem zdf {e:EM}{l:Lo}{S S1:Sto}{x:D}(h:e l S=some (x,S1)):zaa e zab l S=some ([x],S1):=by unfold zaa;rw [h];rfl
theorem zds {e f:EM}{l:Lo}{S S1 S2:Sto}{x y:D}(h:e l S=some (x,S1)) (h2:f l S1=some (y,S2)):zaa e (zaa f zab) l S=some ([x,y],S2):=by unfold zaa;rw [h];show Option.bind (Option.bind (f l S1) _) _=_;rw [h2];rfl
theorem zbl {f:FM}{as:AM}{l:Lo}{S S1:Sto}{xs:List D}(h:as l S=some (xs,S1)):zac f as l S=f xs S1:=by unfold zac;rw [h];rfl
theorem ze0 {f:ZF}{as:AM}{l:Lo}{S S1:Sto}{xs:List D}(h:as l S=some (xs,S1)):zdc f as l S=f xs S1:=by unfold zdc;rw [h];rfl
theorem zhi {e:EM}{l:Lo}{S S1:Sto}{x y:Str}(h:e l S=some (.str x,S1)):tE (eOp dEq e (eC (.str y))) l S=some (decide (x=y),S1):=by
 unfold tE eOp;rw [h];rfl
noncomputable def zet (p:Fl × Lo × Sto):Option (D × Sto):=match p.1 with
 | .rt d=>some (d,p.2.2)
 | .nx=>some (.non,p.2.2)
 | _=>none
theorem zeu {n:Nat}{b:SM}{ds:List D}{S:Sto}{l:Lo}(h:ds.map some++List.replicate (n-ds.length) none=l):zc9 n b ds S=(b l S).bind zet:=by
 unfold zc9;rw [h]
 rfl
theorem zf9 {e:EM}{l:Lo}{S:Sto}:(sRet e l S).bind zet=e l S:=by
 unfold sRet
 cases e l S with
 | none=>rfl
 | some p=>rfl
noncomputable def zbi (n:Nat) (z:Str):Option (Option Nat):=if z = "-" then some none else (zdr n z).map some
theorem ye8 {z:Str}{n:Int}{S:Sto}:zeh [.str z,.int n] S=if z = "-" then some (.non,S) else zdw [.str z,.int n] S:=by
 unfold zeh zs2
 rw [zeu (l:=[some (.str z),some (.int n)]) rfl,zf9]
 unfold zm0
 rw [zhi (zak rfl)]
 by_cases h:z = "-"
 ·rw [if_pos h];show (if decide (z = "-")=true then _ else _)=_;rw [if_pos (by simpa using h)];rfl
 ·rw [if_neg h];show (if decide (z = "-")=true then _ else _)=_;rw [if_neg (by simpa using h),zbl (zds (zak rfl) (zak rfl))]
theorem ye9 {z:Str}{n:Int}{S:Sto}:zff [.str z,.int n] S=if z = "-" then none else zeb [.str z,.int n] S:=by
 show zn0 [some (.str z),some (.int n)] S=_
 unfold zn0 zIf
 rw [zhi (zak rfl)]
 by_cases h:z = "-"
 ·rw [if_pos h];show (if decide (z = "-")=true then _ else _)=_;rw [if_pos (by simpa using h)];rfl
 ·rw [if_neg h];show (if decide (z = "-")=true then _ else _)=_;rw [if_neg (by simpa using h),ze0 (zds (zak rfl) (zak rfl))]
theorem zud {n:Nat}{z:Str}{S:Sto}(hn:n<=24):zeh [.str z,.int (n:Int)] S=(zbi n z).map (λg=>(oD g,S))/\zff [.str z,.int (n:Int)] S=if zbi n z=none then some (("NoText":Str),S) else none:=by
 have h1:=ye8 (z:=z) (n:=(n:Int)) (S:=S)
 have h2:=ye9 (z:=z) (n:=(n:Int)) (S:=S)
 unfold zbi
 by_cases h:z = "-"
 ·rw [if_pos h] at h1 h2
  rw [if_pos h,h1,h2]
  exact ⟨rfl,rfl⟩
 ·rw [if_neg h] at h1 h2
  rw [if_neg h]
  obtain ⟨e1,e2⟩:=zoa (n:=n) (z:=z) (S:=S) hn
  rw [h1,h2,e1,e2]
  cases zdr n z with
  | none=>exact ⟨rfl,rfl⟩
  | some k=>exact ⟨rfl,rfl⟩
section
variable {a b:SM}{t:TM}{r q:ZM}{e:EM}{l l':Lo}{S S':Sto}{d:D}{i:Nat}
theorem zbf (h:a l S=some (.nx,l',S')):zag a b l S=b l' S':=by unfold zag;rw [h];rfl
theorem zef (h:a l S=some (.rt d,l',S')):zag a b l S=some (.rt d,l',S'):=by unfold zag;rw [h];rfl
theorem zht (h:a l S=none):zag a b l S=none:=by unfold zag;rw [h];rfl
theorem zdt (h:t l S=some (true,S')):sIf t a b l S=a l S':=by unfold sIf;rw [h];rfl
theorem zdy (h:t l S=some (false,S')):sIf t a b l S=b l S':=by unfold sIf;rw [h];rfl
theorem zgq (h:a l S=some (.nx,l',S')):zd0 a r l S=r l' S':=by unfold zd0;rw [h];rfl
theorem yfa (h:a l S=some (.rt d,l',S')):zd0 a r l S=none:=by unfold zd0;rw [h];rfl
theorem zhu (h:r l S=none):zOr r q l S=q l S:=by unfold zOr;rw [h]
theorem zhv {c:Str × Sto}(h:r l S=some c):zOr r q l S=some c:=by unfold zOr;rw [h]
theorem zi6 (h:t l S=some (true,S')):zIf t r q l S=r l S':=by unfold zIf;rw [h];rfl
theorem zi7 (h:t l S=some (false,S')):zIf t r q l S=q l S':=by unfold zIf;rw [h];rfl
theorem zl3 (h:e l S=some (d,S')):zdz e l S=some (.nx,l,S'):=by unfold zdz;rw [h];rfl
theorem zdk (h:e l S=some (d,S')):zaj e (gName3 i) l S=some (.nx,l.set i (some d),S'):=by unfold zaj;rw [h];rfl
theorem zue (h:e l S=none):zaj e (gName3 i) l S=none:=by unfold zaj;rw [h];rfl
theorem zek (h:e l S=some (d,S')):sRet e l S=some (.rt d,l,S'):=by unfold sRet;rw [h];rfl
theorem zob {vs:List D}(h:e l S=some (.ref S'.length,S'++[.lst vs])):zac zdb (zaa e zab) l S=some (.tup vs,S'++[.lst vs]):=by
 rw [zbl (zdf h)]
 show (lstOf (S'++[.lst vs]) S'.length).bind _=_
 rw [za1];rfl
theorem zuf (h:e l S=none):zac zdb (zaa e zab) l S=none:=by unfold zac zaa;rw [h];rfl
end
theorem zoc {z:Str}{S:Sto}:zee [.str z] S=some (.non,S):=by
 unfold zee zn1
 rw [zeu (l:=[some (.str z)]) rfl,zdy (S':=S) (by unfold zdi tE eUn;rw [zak rfl];rfl)]
 rfl
theorem zod {z:Str}{S:Sto}:ze7 [.str z] S=none:=by
 show zj8 [some (.str z)] S=_
 unfold zj8
 rw [zi7 (S':=S) (by unfold zdi tE eUn;rw [zak rfl];rfl)]
 rfl
theorem zoe {x:D}{S:Sto}{T:String}(h:tyD S x=some T) (hT:isI T "str" = false):zee [x] S=none/\ze7 [x] S=some (("NoText":Str),S):=by
 have e:zdi (tE (eUn (zfp "str") (eVar 0))) [some x] S=some (true,S):=by
  unfold zdi tE eUn zfp;rw [zak rfl]
  show Option.bind (Option.bind (Option.bind (tyD S x) _) _) _=_
  rw [h]
  show Option.bind (some (isI T "str",S)) _=_
  rw [hT];rfl
 constructor
 ·unfold zee zn1
  rw [zeu (l:=[some x]) rfl,zdt e];rfl
 ·show zj8 [some x] S=_
  unfold zj8
  rw [zi6 e]
noncomputable def zga (n c:Nat):Option Nat:=zdr n ⟨#[c]⟩
noncomputable def ze1 (a:Nat) (z:Str):Option (List Nat):=if z = "-" then some [] else if z = "" then none else zaz (zga a) z.cps.toList
theorem zki {α β γ δ:Type}{F:γ->Option δ}{f:α->Option β}{g:α->γ}{h:β->δ}(e:∀x,F (g x)=(f x).map h):∀xs:List α,zaz F (xs.map g)=(zaz f xs).map (List.map h)
 | []=>rfl
 | x :: xs=>by
  have ih:=zki e xs
  rw [List.map_cons]
  show (F (g x)).bind (λv=>(zaz F (xs.map g)).bind λvs=>some (v :: vs))=Option.map (List.map h) ((f x).bind λv=>(zaz f xs).bind λvs=>some (v :: vs))
  rw [e x,ih]
  cases f x with
  | none=>rfl
  | some v=>cases zaz f xs <;> rfl
noncomputable def zl4 (f:Nat->Option D):D->Option D
 | .str z=>match z.cps.toList with
  | [c]=>f c
  | _=>none
 | _=>none
theorem yfb {e0 e:EM}{r:ZM}{ixs:List (Option Nat)}{l:Lo}{S S1:Sto}{z:Str}{f:Nat->Option D}(he:e0 l S=some (.str z,S1)) (g1:Gr S S1) (hz:z.length+2<=sizeLine)
  (step:∀c∈z.cps.toList,∀S,Gr S1 S->Rs (e ((zbp ixs l).set 0 (some (.str ⟨#[c]⟩)))) (r ((zbp ixs l).set 0 (some (.str ⟨#[c]⟩)))) S (f c)) :
  (∀vs,zaz f z.cps.toList=some vs->∃S',zbv (zeo e0) ixs (gName3 0) zbc e l S=some (.ref S'.length,S'++[.lst vs])/\Gr S S'/\ze6 (zeo e0) ixs (gName3 0) zbc e r l S=none) /\
  (zaz f z.cps.toList=none->zbv (zeo e0) ixs (gName3 0) zbc e l S=none/\∃S',ze6 (zeo e0) ixs (gName3 0) zbc e r l S=some (("NoText":Str),S')/\Gr S S'):=by
 have hm:zaz (zl4 f) (sgn z)=zaz f z.cps.toList:=by
  unfold sgn
  rw [zki (F:=zl4 f) (f:=f) (g:=λc=>D.str ⟨#[c]⟩) (h:=id) (λx=>by cases h:f x <;> simp [zl4,h])]
  cases zaz f z.cps.toList <;> simp
 have hl:(sgn z).length+1<=sizeLine:=by rw [zj0];have:z.cps.size=z.length:=rfl;omega
 have:=zn9 (F:=zl4 f) (e:=e) (r:=r) (ixs:=ixs) (zny he) g1 (λi S _=>rfl) hl (λx hx S g=>by
  unfold sgn at hx
  obtain ⟨c,hc,rfl⟩:=List.mem_map.mp hx
  exact step c hc S g)
 rw [hm] at this
 exact this
theorem yfc {a:Nat}{z:Str}{S:Sto}(ha:a<=24) (hz:z.length+2<=sizeLine):Rs (zf8 [.int (a:Int),.str z]) (zg0 [.int (a:Int),.str z]) S ((ze1 a z).map wD):=by
 have hr:zdz (zac zee (zaa (eVar 1) (zab))) [‹a›,some (.str z)] S=some (.nx,[‹a›,some (.str z)],S):=zl3 (by rw [zbl (zdf (zak rfl))];exact zoc)
 have hrz:zdc ze7 (zaa (eVar 1) (zab)) [‹a›,some (.str z)] S=none:=by rw [ze0 (zdf (zak rfl))];exact zod
 have t1:tE (eOp dEq (eVar 1) (eC (.str "-"))) [‹a›,some (.str z)] S=some (decide (z = "-"),S):=zhi (zak rfl)
 have t2:tE (eOp dEq (eVar 1) (eC (.str ""))) [‹a›,some (.str z)] S=some (decide (z = ""),S):=zhi (zak rfl)
 have key:=yfb (e:=zac zdw (zaa (eVar 0) (zaa (eVar 1) (zab)))) (r:=zdc zeb (zaa (eVar 0) (zaa (eVar 1) (zab)))) (ixs:=[none,some 0]) (l:=[‹a›,some (.str z)]) (S:=S) (S1:=S) (z:=z) (e0:=eVar 1) (f:=λc=>(zga a c).map nD) (zak rfl) (Gr.refl _) hz (λc _ S' g=>by
  have:=ye7 (n:=a) (z:=⟨#[c]⟩) (S:=S') ha
  have e1:zac zdw (zaa (eVar 0) (zaa (eVar 1) (zab))) ((zbp [none,some 0] [‹a›,some (.str z)]).set 0 (some (.str ⟨#[c]⟩)))=zdw [.str ⟨#[c]⟩,.int (a:Int)]:=by
   funext S;exact zbl (zds (zak rfl) (zak rfl))
  have e2:zdc zeb (zaa (eVar 0) (zaa (eVar 1) (zab))) ((zbp [none,some 0] [‹a›,some (.str z)]).set 0 (some (.str ⟨#[c]⟩)))=zeb [.str ⟨#[c]⟩,.int (a:Int)]:=by
   funext S;exact ze0 (zds (zak rfl) (zak rfl))
  rw [e1,e2];exact this)
 have hmm:zaz (λc=>(zga a c).map nD) z.cps.toList=(zaz (zga a) z.cps.toList).map (List.map nD):=by
  have:=zki (F:=λc=>(zga a c).map nD) (f:=zga a) (g:=id) (h:=nD) (λ_=>rfl) z.cps.toList
  rw [List.map_id] at this
  exact this
 rw [hmm] at key
 have sz0:0<=sizeLine:=Nat.zero_le _
 have hm:zf8 [.int (a:Int),.str z] S=((zag (sIf (tE (eOp dEq (eVar 1) (eC (.str "-")))) (sRet (zac zbo (zab))) (zat)) (zag (sIf (tE (eOp dEq (eVar 1) (eC (.str "")))) (ze4) (zat)) (sRet (zac zdb (zaa (zbv (zeo (eVar 1)) [none,some 0] (gName3 0) (zbc) (zac zdw (zaa (eVar 0) (zaa (eVar 1) (zab))))) (zab)))))) [‹a›,some (.str z)] S).bind zet:=by
  unfold zf8 zn4
  rw [zeu (l:=[‹a›,some (.str z)]) rfl,zbf hr]
 have hq:zg0 [.int (a:Int),.str z] S=(zd0 (sIf (tE (eOp dEq (eVar 1) (eC (.str "-")))) (sRet (zac zbo (zab))) (zat)) (zOr (zIf (tE (eOp dEq (eVar 1) (eC (.str "")))) (λ_ S=>some ("NoText",S)) (zgo)) (zd0 (sIf (tE (eOp dEq (eVar 1) (eC (.str "")))) (ze4) (zat)) (ze6 (zeo (eVar 1)) [none,some 0] (gName3 0) (zbc) (zac zdw (zaa (eVar 0) (zaa (eVar 1) (zab)))) (zdc zeb (zaa (eVar 0) (zaa (eVar 1) (zab)))))))) [‹a›,some (.str z)] S:=by
  show zkb [‹a›,some (.str z)] S=_
  unfold zkb
  rw [zhu hrz,zgq hr]
 unfold ze1
 by_cases h1:z = "-"
 ·rw [if_pos h1]
  rw [decide_eq_true h1] at t1
  have hs:sIf (tE (eOp dEq (eVar 1) (eC (.str "-")))) (sRet (zac zbo (zab))) (zat) [‹a›,some (.str z)] S=some (.rt (.tup []),[‹a›,some (.str z)],S):=by
   rw [zdt t1];exact zek (by show (if 0<=sizeLine then some (D.tup [],S) else none)=_;rw [if_pos sz0])
  rw [zef hs] at hm
  rw [yfa hs] at hq
  exact ⟨S,hm,Gr.refl _,hq⟩
 ·rw [if_neg h1]
  rw [decide_eq_false h1] at t1
  have hs:sIf (tE (eOp dEq (eVar 1) (eC (.str "-")))) (sRet (zac zbo (zab))) (zat) [‹a›,some (.str z)] S=some (.nx,[‹a›,some (.str z)],S):=by rw [zdy t1];rfl
  rw [zbf hs] at hm
  rw [zgq hs] at hq
  by_cases h2:z = ""
  ·rw [if_pos h2]
   rw [decide_eq_true h2] at t2
   rw [zht (by rw [zdt t2];rfl)] at hm
   rw [zhv (c:=("NoText",S)) (by rw [zi6 t2])] at hq
   exact ⟨hm,S,hq,Gr.refl _⟩
  ·rw [if_neg h2]
   rw [decide_eq_false h2] at t2
   have hs:sIf (tE (eOp dEq (eVar 1) (eC (.str "")))) (ze4) (zat) [‹a›,some (.str z)] S=some (.nx,[‹a›,some (.str z)],S):=by rw [zdy t2];rfl
   rw [zbf hs,zf9] at hm
   rw [zhu (by rw [zi7 t2];rfl),zgq hs] at hq
   cases hc:zaz (zga a) z.cps.toList with
   | none =>
    rw [hc] at key
    obtain ⟨k1,S',k2,g⟩:=key.2 rfl
    exact ⟨by rw [hm];exact zuf k1,S',by rw [hq];exact k2,g⟩
   | some as =>
    rw [hc] at key
    obtain ⟨S',k1,g,k2⟩:=key.1 _ rfl
    exact ⟨_,by rw [hm];exact zob k1,g.push _,by rw [hq];exact k2⟩
theorem zhw {x y w:Str}(h:w∈Txt.split x y):w.length<=x.length:=by
 unfold Txt.split at h
 split at h
 ·simp at h;subst h;exact qlr _
 ·split at h
  ·simp at h;subst h;exact qlr _
  ·unfold Builtin.Str.partsBetween at h
   obtain ⟨⟨i,j⟩,_,rfl⟩:=List.mem_map.mp h
   show (Builtin.Str.strSub x i j).cps.size<=x.cps.size
   unfold Builtin.Str.strSub
   simp
   omega
theorem zl5 {e:EM}{l:Lo}{S S1:Sto}{x y:Str}(he:e l S=some (.str x,S1)) (hy:y.length≠0) (hx:x.length+2<=sizeLine):zc7 zdx e (zaa (eC (.str y)) zab) l S=some (.ref S1.length,S1++[.lst ((Txt.split x y).map D.str)]):=by
 unfold zc7
 rw [he]
 show (if y.length≠0/\x.length+2<=sizeLine then _ else _)=_
 rw [if_pos ⟨hy,hx⟩]
theorem zi8 {e:EM}{l:Lo}{S S1:Sto}{n:Nat}{xs:List D}(he:e l S=some (.ref n,S1)) (h:lstOf S1 n=some xs):zac za8 (zaa e zab) l S=some (.int (xs.length:Int),S1):=by
 rw [zbl (zdf he)]
 obtain ⟨v,S',e1,rfl,rfl⟩:Wo (za8 [.ref n] S1) λv S'=>v=.int (xs.length:Int)/\S' = S1:=by simp only [zbe,zbm,zbd,zbj,za0,zcq,zaq,zay,za7,zbs,zb4,zbk,zav,zch,zce,zcf,zcg,zau,zb3,zbx,zar,zap,zcd,zcr,zcs,zct,zcu,zcv,zbq,zb5,zcc,zc1,zci,zcj,zbw,zbh,zb9,zck,zcl,zcn,zb1,zc2,zby,zbr,zb6,zbz,zc3,zc4,zcw,zcx,zb2,zca,zc5,zcb,List.map_cons,List.map_nil,List.length_cons,List.length_nil,Nat.reduceAdd,Nat.reduceSub,List.replicate,List.cons_append,List.nil_append,qg0,qg1,qs0,qs1,zas,za5,zbg,zcm,zcz,zc0,zb7,zb8,za1,decide_eq_true_eq,h,and_self]
 exact e1
theorem ne_int {e f:EM}{l:Lo}{S S1 S2:Sto}{i j:Int}(he:e l S=some (.int i,S1)) (hf:f l S1=some (.int j,S2)):tE (eOp dNe e f) l S=some (!decide (i=j),S2):=by
 unfold tE eOp;rw [he];show Option.bind (Option.bind (f l S1) _) _=_;rw [hf];rfl
theorem gt_int {e f:EM}{l:Lo}{S S1 S2:Sto}{i j:Int}(he:e l S=some (.int i,S1)) (hf:f l S1=some (.int j,S2)):tE (eOp dGt e f) l S=some (decide (j<i),S2):=by
 unfold tE eOp;rw [he];show Option.bind (Option.bind (f l S1) _) _=_;rw [hf];rfl
theorem zi9 {l:Lo}{S:Sto}{i n j:Nat}{xs:List D}{x:D}(hl:l[i]? = some (some (.ref n))) (h:lstOf S n=some xs) (hx:xs[j]? = some x):eOp zam (eVar i) (eC (.int (j:Int))) l S=some (x,S):=by
 have:Wo (eOp zam (eVar i) (eC (.int (j:Int))) l S) λv S'=>v=x/\S' = S:=by
  show We _ _ _ _
  simp only [za0,zaq,hl,zas,zay,zbh,h,za5,atI_get hx,and_self]
 obtain ⟨v,S',e1,rfl,rfl⟩:=this
 exact e1
theorem zkj {e f g:EM}{l:Lo}{S S1 S2 S3:Sto}{x y w:D}(h:e l S=some (x,S1)) (h2:f l S1=some (y,S2)) (h3:g l S2=some (w,S3)):zaa e (zaa f (zaa g zab)) l S=some ([x,y,w],S3):=by
 unfold zaa;rw [h];show Option.bind (Option.bind (f l S1) _) _=_;rw [h2];show Option.bind (Option.bind (Option.bind (g l S2) _) _) _=_;rw [h3];rfl
theorem len_str {e:EM}{l:Lo}{S S1:Sto}{z:Str}(he:e l S=some (.str z,S1)) (hz:z.length<=sizeLine):zac za8 (zaa e zab) l S=some (.int (z.length:Int),S1):=by
 rw [zbl (zdf he)]
 obtain ⟨v,S',e1,rfl,rfl⟩:Wo (za8 [.str z] S1) λv S'=>v=.int (z.length:Int)/\S' = S1:=by simp only [zbe,zbm,zbd,zbj,za0,zcq,zaq,zay,za7,zbs,zb4,zbk,zav,zch,zce,zcf,zcg,zau,zb3,zbx,zar,zap,zcd,zcr,zcs,zct,zcu,zcv,zbq,zb5,zcc,zc1,zci,zcj,zbw,zbh,zb9,zck,zcl,zcn,zb1,zc2,zby,zbr,zb6,zbz,zc3,zc4,zcw,zcx,zb2,zca,zc5,zcb,List.map_cons,List.map_nil,List.length_cons,List.length_nil,Nat.reduceAdd,Nat.reduceSub,List.replicate,List.cons_append,List.nil_append,qg0,qg1,qs0,qs1,zas,za5,zbg,zcm,zcz,zc0,zb7,zb8,za1,decide_eq_true_eq,hz,and_self,true_and]
 exact e1
theorem zkk (x y:Str):(Txt.split x y).length<=x.length+2:=by
 unfold Txt.split
 split
 ·simp
 ·split
  ·simp
  ·have h1:=StrLaws.occ_length_le x y 0 x.length (x.length+1)
   rw [length_partsBetween]
   omega
noncomputable def zdd (z:Str):Option Cl:=match Txt.split z "/" with
 | [x,y]=>(zbi 24 x).bind λg=>(zbi 8 y).bind λs=>some (g,s)
 | _=>none
noncomputable def zn {α:Type}(o:Option α) (S:Sto):Option (Str × Sto):=match o with
 | none=>some (("NoText":Str),S)
 | some _=>none
theorem zug (f:FM) (a b:EM) (l:Lo) (S:Sto):zac f (zaa a (zaa b zab)) l S=(a l S).bind λp=>((b l p.2).bind λq=>some ([q.1],q.2)).bind λq=>f (p.1 :: q.1) q.2:=by
 unfold zac zaa zab;cases a l S with
 | none=>rfl
 | some p=>dsimp only [Option.bind_some];cases b l p.2 <;> rfl
theorem zuh:("/":Str).length≠0:=by decide +kernel
noncomputable def ze9 (z:Str) (n:Nat):Lo:=[some (.str z),~~~n]
noncomputable def zui:SM:=zag (sIf (tE (eOp dNe (zac za8 (zaa (eVar 1) (zab))) (eC (.int 2)))) (ze4) (zat)) (sRet (zac zbo (zaa (zac zeh (zaa (eOp zam (eVar 1) (eC (.int 0))) (zaa (eC (.int 24)) (zab)))) (zaa (zac zeh (zaa (eOp zam (eVar 1) (eC (.int 1))) (zaa (eC (.int 8)) (zab)))) (zab)))))
noncomputable def zl6:ZM:=zOr (zIf (tE (eOp dNe (zac za8 (zaa (eVar 1) (zab))) (eC (.int 2)))) (λ_ S=>some ("NoText",S)) (zgo)) (zd0 (sIf (tE (eOp dNe (zac za8 (zaa (eVar 1) (zab))) (eC (.int 2)))) (ze4) (zat)) (zOr (zdc zff (zaa (eOp zam (eVar 1) (eC (.int 0))) (zaa (eC (.int 24)) (zab)))) (zj1 (zac zeh (zaa (eOp zam (eVar 1) (eC (.int 0))) (zaa (eC (.int 24)) (zab)))) (zdc zff (zaa (eOp zam (eVar 1) (eC (.int 1))) (zaa (eC (.int 8)) (zab)))))))
theorem yfd {z:Str}{S:Sto}(hz:z.length+2<=sizeLine):zd1 [.str z] S=(zui (ze9 z S.length) (S++[.lst ((Txt.split z "/").map D.str)])).bind zet/\zep [.str z] S=zl6 (ze9 z S.length) (S++[.lst ((Txt.split z "/").map D.str)]):=by
 have hr:zdz (zac zee (zaa (eVar 0) (zab))) [some (.str z),none] S=some (.nx,[some (.str z),none],S):=zl3 (by rw [zbl (zdf (zak rfl))];exact zoc)
 have hrz:zdc ze7 (zaa (eVar 0) (zab)) [some (.str z),none] S=none:=by rw [ze0 (zdf (zak rfl))];exact zod
 have hs:zaj (zc7 zdx (eVar 0) (zaa (eC (.str "/")) zab)) (gName3 1) [some (.str z),none] S=some (.nx,ze9 z S.length,S++[.lst ((Txt.split z "/").map D.str)]):=zdk (zl5 (zak rfl) zuh hz)
 constructor
 ·unfold zd1 zn2
  rw [zeu (l:=[some (.str z),none]) rfl,zbf hr,zbf hs];rfl
 ·show zj9 [some (.str z),none] S=_
  unfold zj9
  rw [zhu hrz,zgq hr,zgq hs];rfl
theorem yfe {z:Str}{S:Sto}(hz:z.length+2<=sizeLine):zd1 [.str z] S=(zdd z).map (λc=>(cD c,S++[.lst ((Txt.split z "/").map D.str)]))/\zep [.str z] S=zn (zdd z) (S++[.lst ((Txt.split z "/").map D.str)]):=by
 obtain ⟨e1,e2⟩:=yfd (z:=z) (S:=S) hz
 rw [e1,e2]
 have hl:lstOf (S++[.lst ((Txt.split z "/").map D.str)]) S.length=some ((Txt.split z "/").map D.str):=za1
 generalize S++[Ob.lst ((Txt.split z "/").map D.str)]=S1 at hl
 have t:tE (eOp dNe (zac za8 (zaa (eVar 1) (zab))) (eC (.int 2))) (ze9 z S.length) S1=some (!decide ((((Txt.split z "/").map D.str).length:Int)=2),S1):=ne_int (zi8 (zak rfl) hl) rfl
 unfold zui zl6 zdd
 have bad:∀ws:List Str,Txt.split z "/" = ws->ws.length≠2->(zag (sIf (tE (eOp dNe (zac za8 (zaa (eVar 1) (zab))) (eC (.int 2)))) (ze4) (zat)) (sRet (zac zbo (zaa (zac zeh (zaa (eOp zam (eVar 1) (eC (.int 0))) (zaa (eC (.int 24)) (zab)))) (zaa (zac zeh (zaa (eOp zam (eVar 1) (eC (.int 1))) (zaa (eC (.int 8)) (zab)))) (zab))))) (ze9 z S.length) S1).bind zet=none/\zl6 (ze9 z S.length) S1=some (("NoText":Str),S1):=λws hw h2=>by
  rw [hw,qlm] at t
  have ht:(!decide (((ws.length:Nat):Int)=2))=true:=by rw [decide_eq_false (by omega)];rfl
  rw [ht] at t
  constructor
  ·rw [zht (by rw [zdt t];rfl)];rfl
  ·unfold zl6;rw [zhv (c:=("NoText",S1)) (by rw [zi6 t])]
 match hw:Txt.split z "/" with
 | []=>exact bad [] hw (by decide)
 | [x]=>exact bad [x] hw (by simp)
 | x :: y :: w :: r=>exact bad _ hw (by simp only [List.length_cons];omega)
 | [x,y] =>
  rw [hw] at hl t
  have ht:(!decide ((([D.str x,D.str y].length:Nat):Int)=2))=false:=rfl
  have hl:lstOf S1 S.length=some [.str x,.str y]:=hl
  rw [show ((List.map D.str [x,y]).length:Int)=(([D.str x,D.str y].length:Nat):Int) from rfl,ht] at t
  have x0:∀S',lstOf S' S.length=some [.str x,.str y]->zaa (eOp zam (eVar 1) (eC (.int 0))) (zaa (eC (.int 24)) (zab)) (ze9 z S.length) S' = some ([.str x,.int 24],S'):=λS' h=>zds (zi9 (j:=0) rfl h rfl) rfl
  have x1:∀S',lstOf S' S.length=some [.str x,.str y]->zaa (eOp zam (eVar 1) (eC (.int 1))) (zaa (eC (.int 8)) (zab)) (ze9 z S.length) S' = some ([.str y,.int 8],S'):=λS' h=>zds (zi9 (j:=1) rfl h rfl) rfl
  obtain ⟨p1,q1⟩:=zud (n:=24) (z:=x) (S:=S1) (by decide)
  obtain ⟨p2,q2⟩:=zud (n:=8) (z:=y) (S:=S1) (by decide)
  have p1:zeh [.str x,.int 24] S1=(zbi 24 x).map (λg=>(oD g,S1)):=p1
  have q1:zff [.str x,.int 24] S1=if zbi 24 x=none then some (("NoText":Str),S1) else none:=q1
  have p2:zeh [.str y,.int 8] S1=(zbi 8 y).map (λg=>(oD g,S1)):=p2
  have q2:zff [.str y,.int 8] S1=if zbi 8 y=none then some (("NoText":Str),S1) else none:=q2
  rw [zbf (l':=ze9 z S.length) (S':=S1) (by rw [zdy t];rfl),zf9,zhu (by rw [zi7 t];rfl),zgq (l':=ze9 z S.length) (S':=S1) (by rw [zdy t];rfl)]
  have ea:zac zeh (zaa (eOp zam (eVar 1) (eC (.int 0))) (zaa (eC (.int 24)) (zab))) (ze9 z S.length) S1=(zbi 24 x).map (λg=>(oD g,S1)):=by rw [zbl (x0 S1 hl)];exact p1
  have eb:zac zeh (zaa (eOp zam (eVar 1) (eC (.int 1))) (zaa (eC (.int 8)) (zab))) (ze9 z S.length) S1=(zbi 8 y).map (λg=>(oD g,S1)):=by rw [zbl (x1 S1 hl)];exact p2
  have za:zdc zff (zaa (eOp zam (eVar 1) (eC (.int 0))) (zaa (eC (.int 24)) (zab))) (ze9 z S.length) S1=if zbi 24 x=none then some (("NoText":Str),S1) else none:=by rw [ze0 (x0 S1 hl)];exact q1
  have zb:zdc zff (zaa (eOp zam (eVar 1) (eC (.int 1))) (zaa (eC (.int 8)) (zab))) (ze9 z S.length) S1=if zbi 8 y=none then some (("NoText":Str),S1) else none:=by rw [ze0 (x1 S1 hl)];exact q2
  dsimp only
  cases h1:zbi 24 x with
  | none =>
   rw [h1] at ea za
   refine ⟨?_,?_⟩
   ·rw [zug,ea];rfl
   ·rw [zhv (c:=("NoText",S1)) za];rfl
  | some g =>
   rw [h1] at ea za
   rw [zhu za]
   have zc:zj1 (zac zeh (zaa (eOp zam (eVar 1) (eC (.int 0))) (zaa (eC (.int 24)) (zab)))) (zdc zff (zaa (eOp zam (eVar 1) (eC (.int 1))) (zaa (eC (.int 8)) (zab)))) (ze9 z S.length) S1=if zbi 8 y=none then some (("NoText":Str),S1) else none:=by
    unfold zj1;rw [ea];exact zb
   rw [zc]
   cases h2:zbi 8 y with
   | none =>
    rw [h2] at eb
    refine ⟨?_,rfl⟩
    rw [zug]
    rw [ea]
    dsimp only [Option.map_some,Option.bind_some]
    rw [eb];rfl
   | some s =>
    rw [h2] at eb
    refine ⟨?_,rfl⟩
    rw [zbl (zds ea eb)]
    show (if 2<=sizeLine then _ else _)=_
    rw [if_pos (by decide)];rfl
theorem zuj {z:Str}{S:Sto}(hz:z.length+2<=sizeLine):Rs (zd1 [.str z]) (zep [.str z]) S ((zdd z).map cD):=by
 obtain ⟨e1,e2⟩:=yfe (z:=z) (S:=S) hz
 cases hc:zdd z with
 | none=>rw [hc] at e1 e2;exact ⟨e1,_,e2,⟨_,rfl⟩⟩
 | some k=>rw [hc] at e1 e2;exact ⟨_,e1,⟨_,rfl⟩,e2⟩
theorem zuk {n k:Nat}{z:Str}(h:zbi n z=some (some k)):k<n:=by
 unfold zbi at h
 by_cases hd:z = "-"
 ·rw [if_pos hd] at h;cases h
 ·rw [if_neg hd] at h
  cases hn:zdr n z with
  | none=>rw [hn] at h;cases h
  | some j=>rw [hn] at h;cases h;exact (zi5 hn).1
theorem zof {z:Str}{c:Cl}(h:zdd z=some c):OkC 24 c:=by
 unfold zdd at h
 split at h
 ·rename_i x y _
  cases h1:zbi 24 x with
  | none=>rw [h1] at h;cases h
  | some g =>
   rw [h1] at h
   cases h2:zbi 8 y with
   | none=>rw [h2] at h;cases h
   | some s =>
    rw [h2] at h
    cases h
    exact ⟨λk e=>by have e:g=some k:=e;subst e;exact zuk h1,λk e=>by have e:s=some k:=e;subst e;exact zuk h2⟩
 ·cases h
theorem zl7 {f g:D->D->Sto->Option (D × Sto)}{a b c:EM}{l:Lo}{S:Sto}{Q:D->Sto->Prop}:We (zhk f g a b c) l S Q=We a l S λx S1=>We b l S1 λy S2=>Wo (f x y S2) λr S3=>∃k,r=.bl k/\if k=true then We c l S3 λz S4=>Wo (g y z S4) Q else Q (.bl false) S3:=by
 apply propext
 constructor
 ·rintro ⟨v,S',h,q⟩
  obtain ⟨⟨x,S1⟩,h1,h⟩:=bnd h
  obtain ⟨⟨y,S2⟩,h2,h⟩:=bnd h
  obtain ⟨⟨r,S3⟩,h3,h⟩:=bnd h
  refine ⟨x,S1,h1,y,S2,h2,r,S3,h3,?_⟩
  cases r with
  | bl k =>
   cases k with
   | true =>
    obtain ⟨⟨z,S4⟩,h4,h⟩:=bnd h
    exact ⟨true,rfl,z,S4,h4,v,S',h,q⟩
   | false=>cases h;exact ⟨false,rfl,q⟩
  | _=>cases h
 ·rintro ⟨x,S1,h1,y,S2,h2,r,S3,h3,k,rfl,h⟩
  cases k with
  | true =>
   obtain ⟨z,S4,h4,v,S',h,q⟩:=h
   refine ⟨v,S',?_,q⟩
   unfold zhk;rw [h1];show (b l S1).bind _=_;rw [h2];show (f x y S2).bind _=_;rw [h3];show (c l S3).bind _=_;rw [h4];exact h
  | false =>
   refine ⟨_,_,?_,h⟩
   unfold zhk;rw [h1];show (b l S1).bind _=_;rw [h2];show (f x y S2).bind _=_;rw [h3];rfl
theorem zul:isI "int" "bool" = false:=by decide
theorem zog {α:Type}(g:α->Bool):∀xs:List α,(xs.map λx=>D.bl (g x)).all zis=true/\(xs.map λx=>D.bl (g x)).all isT=xs.all g
 | []=>⟨rfl,rfl⟩
 | x :: xs=>by
  obtain ⟨h1,h2⟩:=zog g xs
  rw [List.map_cons,List.all_cons,List.all_cons,List.all_cons,h1,h2]
  exact ⟨rfl,by cases g x <;> rfl⟩
theorem zl8 (d n:Nat) (S:Sto):zf6 [.int (d:Int),.int (n:Int)] S=some (.bl (decide (d<n)),S):=by
 apply zl2
 unfold zf6 zsw
 have h0:(0:Int)<=(d:Int):=by omega
 by_cases h:d<n
 ·have h1:(d:Int)<(n:Int):=by omega
  simp only [zbe,zbm,zbd,zbj,za0,zcq,zaq,zay,za7,zbs,zb4,zbk,zav,zch,zce,zcf,zcg,zau,zb3,zbx,zar,zap,zcd,zcr,zcs,zct,zcu,zcv,zbq,zb5,zcc,zc1,zci,zcj,zbw,zbh,zb9,zck,zcl,zcn,zb1,zc2,zby,zbr,zb6,zbz,zc3,zc4,zcw,zcx,zb2,zca,zc5,zcb,List.map_cons,List.map_nil,List.length_cons,List.length_nil,Nat.reduceAdd,Nat.reduceSub,List.replicate,List.cons_append,List.nil_append,qg0,qg1,qs0,qs1,zas,za5,zbg,zcm,zcz,zc0,zb7,zb8,za1,decide_eq_true_eq,zca,zcb,zul,zl7,h0,h1,h,decide_true,if_true,Bool.not_false]
  all_goals first|trivial|exact ⟨nofun,nofun⟩
 ·have h1:¬(d:Int)<(n:Int):=by omega
  simp only [zbe,zbm,zbd,zbj,za0,zcq,zaq,zay,za7,zbs,zb4,zbk,zav,zch,zce,zcf,zcg,zau,zb3,zbx,zar,zap,zcd,zcr,zcs,zct,zcu,zcv,zbq,zb5,zcc,zc1,zci,zcj,zbw,zbh,zb9,zck,zcl,zcn,zb1,zc2,zby,zbr,zb6,zbz,zc3,zc4,zcw,zcx,zb2,zca,zc5,zcb,List.map_cons,List.map_nil,List.length_cons,List.length_nil,Nat.reduceAdd,Nat.reduceSub,List.replicate,List.cons_append,List.nil_append,qg0,qg1,qs0,qs1,zas,za5,zbg,zcm,zcz,zc0,zb7,zb8,za1,decide_eq_true_eq,zca,zcb,zul,zl7,h0,h1,h,decide_true,decide_false,if_true,Bool.not_false]
  all_goals first|trivial|exact ⟨nofun,nofun⟩
noncomputable def gOk (m:Nat) (c:Cl):Bool:=match c.1 with
 | none=>true
 | some g=>decide (g<m)
theorem yff {m:Nat}{c:Cl}{S:Sto}(h:OkC 24 c):zj6 [cD c,.int (m:Int)] S=some (.bl (gOk m c),S):=by
 have h8:∀k,c.2=some k->zf6 [.int (k:Int),.int 8] S=some (.bl true,S):=λk e=>by
  have:=zl8 k 8 S
  rw [decide_eq_true (h.2 k e)] at this
  exact this
 obtain ⟨g,s⟩:=c
 apply zl2
 unfold zj6 zsx cD gOk
 dsimp! only [zbe]
 cases g with
 | none =>
  cases s with
  | none=>simp only [zbe,zbm,zbd,zbj,za0,zcq,zaq,zay,za7,zbs,zb4,zbk,zav,zch,zce,zcf,zcg,zau,zb3,zbx,zar,zap,zcd,zcr,zcs,zct,zcu,zcv,zbq,zb5,zcc,zc1,zci,zcj,zbw,zbh,zb9,zck,zcl,zcn,zb1,zc2,zby,zbr,zb6,zbz,zc3,zc4,zcw,zcx,zb2,zca,zc5,zcb,List.map_cons,List.map_nil,List.length_cons,List.length_nil,Nat.reduceAdd,Nat.reduceSub,List.replicate,List.cons_append,List.nil_append,qg0,qg1,qs0,qs1,zas,za5,zbg,zcm,zcz,zc0,zb7,zb8,za1,decide_eq_true_eq,oD,zel,Int.cast_ofNat_Int,Bool.not_true,decide_true,qbf,if_false,if_true,and_self]
  | some k=>simp only [zbe,zbm,zbd,zbj,za0,zcq,zaq,zay,za7,zbs,zb4,zbk,zav,zch,zce,zcf,zcg,zau,zb3,zbx,zar,zap,zcd,zcr,zcs,zct,zcu,zcv,zbq,zb5,zcc,zc1,zci,zcj,zbw,zbh,zb9,zck,zcl,zcn,zb1,zc2,zby,zbr,zb6,zbz,zc3,zc4,zcw,zcx,zb2,zca,zc5,zcb,List.map_cons,List.map_nil,List.length_cons,List.length_nil,Nat.reduceAdd,Nat.reduceSub,List.replicate,List.cons_append,List.nil_append,qg0,qg1,qs0,qs1,zas,za5,zbg,zcm,zcz,zc0,zb7,zb8,za1,decide_eq_true_eq,oD,zel,Int.cast_ofNat_Int,Bool.not_true,decide_true,qbf,if_false,if_true,h8 k rfl,zc6,and_self]
 | some j =>
  by_cases hj:j<m
  ·have hb:zf6 [.int (j:Int),.int (m:Int)] S=some (.bl true,S):=by rw [zl8,decide_eq_true hj]
   cases s with
   | none=>simp only [zbe,zbm,zbd,zbj,za0,zcq,zaq,zay,za7,zbs,zb4,zbk,zav,zch,zce,zcf,zcg,zau,zb3,zbx,zar,zap,zcd,zcr,zcs,zct,zcu,zcv,zbq,zb5,zcc,zc1,zci,zcj,zbw,zbh,zb9,zck,zcl,zcn,zb1,zc2,zby,zbr,zb6,zbz,zc3,zc4,zcw,zcx,zb2,zca,zc5,zcb,List.map_cons,List.map_nil,List.length_cons,List.length_nil,Nat.reduceAdd,Nat.reduceSub,List.replicate,List.cons_append,List.nil_append,qg0,qg1,qs0,qs1,zas,za5,zbg,zcm,zcz,zc0,zb7,zb8,za1,decide_eq_true_eq,oD,zel,Int.cast_ofNat_Int,Bool.not_true,decide_true,qbf,if_false,if_true,hb,hj,zc6,and_self]
   | some k=>simp only [zbe,zbm,zbd,zbj,za0,zcq,zaq,zay,za7,zbs,zb4,zbk,zav,zch,zce,zcf,zcg,zau,zb3,zbx,zar,zap,zcd,zcr,zcs,zct,zcu,zcv,zbq,zb5,zcc,zc1,zci,zcj,zbw,zbh,zb9,zck,zcl,zcn,zb1,zc2,zby,zbr,zb6,zbz,zc3,zc4,zcw,zcx,zb2,zca,zc5,zcb,List.map_cons,List.map_nil,List.length_cons,List.length_nil,Nat.reduceAdd,Nat.reduceSub,List.replicate,List.cons_append,List.nil_append,qg0,qg1,qs0,qs1,zas,za5,zbg,zcm,zcz,zc0,zb7,zb8,za1,decide_eq_true_eq,oD,zel,Int.cast_ofNat_Int,Bool.not_true,decide_true,qbf,if_false,if_true,hb,hj,h8 k rfl,zc6,and_self]
  ·have hb:zf6 [.int (j:Int),.int (m:Int)] S=some (.bl false,S):=by rw [zl8,decide_eq_false hj]
   cases s with
   | none=>simp only [zbe,zbm,zbd,zbj,za0,zcq,zaq,zay,za7,zbs,zb4,zbk,zav,zch,zce,zcf,zcg,zau,zb3,zbx,zar,zap,zcd,zcr,zcs,zct,zcu,zcv,zbq,zb5,zcc,zc1,zci,zcj,zbw,zbh,zb9,zck,zcl,zcn,zb1,zc2,zby,zbr,zb6,zbz,zc3,zc4,zcw,zcx,zb2,zca,zc5,zcb,List.map_cons,List.map_nil,List.length_cons,List.length_nil,Nat.reduceAdd,Nat.reduceSub,List.replicate,List.cons_append,List.nil_append,qg0,qg1,qs0,qs1,zas,za5,zbg,zcm,zcz,zc0,zb7,zb8,za1,decide_eq_true_eq,oD,zel,Int.cast_ofNat_Int,Bool.not_true,decide_true,decide_false,qbf,if_false,if_true,hb,hj,zc6,and_self]
   | some k=>simp only [zbe,zbm,zbd,zbj,za0,zcq,zaq,zay,za7,zbs,zb4,zbk,zav,zch,zce,zcf,zcg,zau,zb3,zbx,zar,zap,zcd,zcr,zcs,zct,zcu,zcv,zbq,zb5,zcc,zc1,zci,zcj,zbw,zbh,zb9,zck,zcl,zcn,zb1,zc2,zby,zbr,zb6,zbz,zc3,zc4,zcw,zcx,zb2,zca,zc5,zcb,List.map_cons,List.map_nil,List.length_cons,List.length_nil,Nat.reduceAdd,Nat.reduceSub,List.replicate,List.cons_append,List.nil_append,qg0,qg1,qs0,qs1,zas,za5,zbg,zcm,zcz,zc0,zb7,zb8,za1,decide_eq_true_eq,oD,zel,Int.cast_ofNat_Int,Bool.not_true,decide_true,decide_false,qbf,if_false,if_true,hb,hj,zc6,and_self]
noncomputable def rOk (m a:Nat) (cs:List Cl):Bool:=decide (cs.length=a) && cs.all (gOk m)
theorem yfg {m a:Nat}{cs:List Cl}{S:Sto}(ok:∀c∈cs,OkC 24 c) (hl:cs.length<=sizeLine):Wo (zj7 [rD cs,.int (a:Int),.int (m:Int)] S) λv S'=>v=.bl (rOk m a cs)/\Gr S S':=by
 unfold zj7 zsy rOk
 dsimp! only [zbe]
 rw [zbm,zbd]
 by_cases h:cs.length=a
 ·simp only [zbe,zbm,zbd,zbj,za0,zcq,zaq,zay,za7,zbs,zb4,zbk,zav,zch,zce,zcf,zcg,zau,zb3,zbx,zar,zap,zcd,zcr,zcs,zct,zcu,zcv,zbq,zb5,zcc,zc1,zci,zcj,zbw,zbh,zb9,zck,zcl,zcn,zb1,zc2,zby,zbr,zb6,zbz,zc3,zc4,zcw,zcx,zb2,zca,zc5,zcb,List.map_cons,List.map_nil,List.length_cons,List.length_nil,Nat.reduceAdd,Nat.reduceSub,List.replicate,List.cons_append,List.nil_append,qg0,qg1,qs0,qs1,zas,za5,zbg,zcm,zcz,zc0,zb7,zb8,za1,decide_eq_true_eq,rD,qlm,h,Int.cast_ofNat_Int,Bool.not_true,decide_true,qbf,if_false,and_self,Bool.true_and]
  refine zie cs cD (λc=>.bl (gOk m c)) (λS'=>S' = S) (λl=>∃y,l=[y,‹m›]) (zix rfl) rfl ⟨_,rfl⟩ (λi S _=>rfl) hl ?_ ?_
  ·rintro c l S' hc ⟨y,rfl⟩ rfl
   simp only [zav,qs0]
   refine ⟨⟨_,rfl⟩,?_⟩
   simp only [zau,zar,zap,zaq,qg0,qg1,zas,yff (ok c hc),zc6,and_self]
  ·rintro S' rfl
   simp only [zap,zsn,za1,za5,zog,true_and]
   exact ⟨_,rfl⟩
 ·have h':¬((cs.length:Int)=(a:Int)):=by omega
  simp only [zbe,zbm,zbd,zbj,za0,zcq,zaq,zay,za7,zbs,zb4,zbk,zav,zch,zce,zcf,zcg,zau,zb3,zbx,zar,zap,zcd,zcr,zcs,zct,zcu,zcv,zbq,zb5,zcc,zc1,zci,zcj,zbw,zbh,zb9,zck,zcl,zcn,zb1,zc2,zby,zbr,zb6,zbz,zc3,zc4,zcw,zcx,zb2,zca,zc5,zcb,List.map_cons,List.map_nil,List.length_cons,List.length_nil,Nat.reduceAdd,Nat.reduceSub,List.replicate,List.cons_append,List.nil_append,qg0,qg1,qs0,qs1,zas,za5,zbg,zcm,zcz,zc0,zb7,zb8,za1,decide_eq_true_eq,rD,qlm,h,h',Int.cast_ofNat_Int,Bool.not_true,decide_true,decide_false,Bool.not_false,qbf,if_false,if_true,and_self,Bool.false_and]
  exact ⟨nofun,Gr.refl _⟩
noncomputable def okM (a:Nat) (rs:List (List Cl)):Bool:=decide (1<=a/\1<=rs.length/\rs.length<=24) && rs.all (rOk rs.length a)
theorem yfh {a:Nat}{rs:List (List Cl)}{S:Sto}(ha:a<5) (ok:∀cs∈rs,(∀c∈cs,OkC 24 c)/\cs.length<=sizeLine):Wo (zgy [mD a rs] S) λv S'=>v=.bl (okM a rs)/\Gr S S':=by
 have hb:zf6 [.int (a:Int),.int 5] S=some (.bl true,S):=by
  have:=zl8 a 5 S
  rw [decide_eq_true ha] at this
  exact this
 unfold zgy zsz okM
 dsimp! only [zbe]
 refine zc8 (λl S'=>S' = S/\l=[some (mD a rs),none,none]) ?_ ?_
 ·simp only [zbe,zbm,zbd,zbj,za0,zcq,zaq,zay,za7,zbs,zb4,zbk,zav,zch,zce,zcf,zcg,zau,zb3,zbx,zar,zap,zcd,zcr,zcs,zct,zcu,zcv,zbq,zb5,zcc,zc1,zci,zcj,zbw,zbh,zb9,zck,zcl,zcn,zb1,zc2,zby,zbr,zb6,zbz,zc3,zc4,zcw,zcx,zb2,zca,zc5,zcb,List.map_cons,List.map_nil,List.length_cons,List.length_nil,Nat.reduceAdd,Nat.reduceSub,List.replicate,List.cons_append,List.nil_append,qg0,qg1,qs0,qs1,zas,za5,zbg,zcm,zcz,zc0,zb7,zb8,za1,decide_eq_true_eq,mD,Int.cast_ofNat_Int,Bool.not_true,decide_true,qbf,if_false,and_self]
 rintro l S1 ⟨rfl,rfl⟩
 refine zc8 (λl S'=>S' = S1/\l=[some (mD a rs),‹a›,some (.tup (rs.map rD))]) ?_ ?_
 ·simp only [zbe,zbm,zbd,zbj,za0,zcq,zaq,zay,za7,zbs,zb4,zbk,zav,zch,zce,zcf,zcg,zau,zb3,zbx,zar,zap,zcd,zcr,zcs,zct,zcu,zcv,zbq,zb5,zcc,zc1,zci,zcj,zbw,zbh,zb9,zck,zcl,zcn,zb1,zc2,zby,zbr,zb6,zbz,zc3,zc4,zcw,zcx,zb2,zca,zc5,zcb,List.map_cons,List.map_nil,List.length_cons,List.length_nil,Nat.reduceAdd,Nat.reduceSub,List.replicate,List.cons_append,List.nil_append,qg0,qg1,qs0,qs1,zas,za5,zbg,zcm,zcz,zc0,zb7,zb8,za1,decide_eq_true_eq,mD,and_self]
 rintro l S2 ⟨rfl,rfl⟩
 rw [zbm,zbd]
 by_cases h0:a=0
 ·have e0:(a:Int)=0:=by omega
  have n0:¬(1<=a/\1<=rs.length/\rs.length<=24):=λz=>by omega
  have hb:=hb
  rw [e0] at hb
  simp only [zbe,zbm,zbd,zbj,za0,zcq,zaq,zay,za7,zbs,zb4,zbk,zav,zch,zce,zcf,zcg,zau,zb3,zbx,zar,zap,zcd,zcr,zcs,zct,zcu,zcv,zbq,zb5,zcc,zc1,zci,zcj,zbw,zbh,zb9,zck,zcl,zcn,zb1,zc2,zby,zbr,zb6,zbz,zc3,zc4,zcw,zcx,zb2,zca,zc5,zcb,List.map_cons,List.map_nil,List.length_cons,List.length_nil,Nat.reduceAdd,Nat.reduceSub,List.replicate,List.cons_append,List.nil_append,qg0,qg1,qs0,qs1,zas,za5,zbg,zcm,zcz,zc0,zb7,zb8,za1,decide_eq_true_eq,Int.reduceAdd,e0,hb,zc6,Bool.not_true,n0,decide_true,decide_false,qbf,if_false,if_true,Bool.false_and,and_self]
  first|exact ⟨nofun,Gr.refl _⟩|exact Gr.refl _
 ·have e0:¬(a:Int)=0:=by omega
  simp only [zbe,zbm,zbd,zbj,za0,zcq,zaq,zay,za7,zbs,zb4,zbk,zav,zch,zce,zcf,zcg,zau,zb3,zbx,zar,zap,zcd,zcr,zcs,zct,zcu,zcv,zbq,zb5,zcc,zc1,zci,zcj,zbw,zbh,zb9,zck,zcl,zcn,zb1,zc2,zby,zbr,zb6,zbz,zc3,zc4,zcw,zcx,zb2,zca,zc5,zcb,List.map_cons,List.map_nil,List.length_cons,List.length_nil,Nat.reduceAdd,Nat.reduceSub,List.replicate,List.cons_append,List.nil_append,qg0,qg1,qs0,qs1,zas,za5,zbg,zcm,zcz,zc0,zb7,zb8,za1,decide_eq_true_eq,Int.reduceAdd,hb,zc6,Bool.not_true,e0,decide_true,decide_false,qbf,if_false,and_self]
  by_cases h1:1<=rs.length/\rs.length<=24
  ·have c1:(1:Int)<=(rs.length:Int):=by omega
   have c2:(rs.length:Int)<=24:=by omega
   have y0:1<=a/\1<=rs.length/\rs.length<=24:=⟨by omega,h1⟩
   simp only [zl7,qlm,c1,c2,y0,Int.cast_ofNat_Int,Bool.not_true,decide_true,qbf,if_false,if_true,and_self,zbe,zbm,zbd,zbj,za0,zcq,zaq,zay,za7,zbs,zb4,zbk,zav,zch,zce,zcf,zcg,zau,zb3,zbx,zar,zap,zcd,zcr,zcs,zct,zcu,zcv,zbq,zb5,zcc,zc1,zci,zcj,zbw,zbh,zb9,zck,zcl,zcn,zb1,zc2,zby,zbr,zb6,zbz,zc3,zc4,zcw,zcx,zb2,zca,zc5,zcb,List.map_cons,List.map_nil,List.length_cons,List.length_nil,Nat.reduceAdd,Nat.reduceSub,List.replicate,List.cons_append,List.nil_append,qg0,qg1,qs0,qs1,zas,za5,zbg,zcm,zcz,zc0,zb7,zb8,za1,decide_eq_true_eq,Bool.true_and]
   refine zie rs rD (λcs=>.bl (rOk rs.length a cs)) (λS'=>Gr S2 S') (λl=>∃y,l=[y,‹a›,some (.tup (rs.map rD))]) (zix rfl) (Gr.refl _) ⟨_,rfl⟩ (λi S _=>rfl) (ze8 (by omega)) ?_ ?_
   ·rintro cs l S' hc ⟨y,rfl⟩ g
    simp only [zav,qs0]
    refine ⟨⟨_,rfl⟩,?_⟩
    simp only [zau,zar,zap,zaq,qg0,qg1,zas,zcn,qlm]
    refine (yfg (ok cs hc).1 (ok cs hc).2).mono ?_
    rintro v S5 ⟨rfl,g5⟩
    exact ⟨rfl,g.trans g5⟩
   ·intro S' g
    simp only [zap,zsn,za1,za5,zog,true_and]
    exact g.push _
  ·have n0:¬(1<=a/\1<=rs.length/\rs.length<=24):=λz=>h1 z.2
   have n1:decide ((1:Int)<=(rs.length:Int))=decide (1<=rs.length):=by by_cases q:1<=rs.length <;> simp [q] <;> omega
   have n2:decide ((rs.length:Int)<=24)=decide (rs.length<=24):=by by_cases q:rs.length<=24 <;> simp [q] <;> omega
   simp only [zl7,qlm,n0,Int.cast_ofNat_Int,Bool.not_true,decide_true,decide_false,qbf,if_false,if_true,and_self,zbe,zbm,zbd,zbj,za0,zcq,zaq,zay,za7,zbs,zb4,zbk,zav,zch,zce,zcf,zcg,zau,zb3,zbx,zar,zap,zcd,zcr,zcs,zct,zcu,zcv,zbq,zb5,zcc,zc1,zci,zcj,zbw,zbh,zb9,zck,zcl,zcn,zb1,zc2,zby,zbr,zb6,zbz,zc3,zc4,zcw,zcx,zb2,zca,zc5,zcb,List.map_cons,List.map_nil,List.length_cons,List.length_nil,Nat.reduceAdd,Nat.reduceSub,List.replicate,List.cons_append,List.nil_append,qg0,qg1,qs0,qs1,zas,za5,zbg,zcm,zcz,zc0,zb7,zb8,za1,decide_eq_true_eq,Bool.false_and]
   by_cases q:1<=rs.length
   ·have c1:(1:Int)<=(rs.length:Int):=by omega
    have c2:¬(rs.length:Int)<=24:=by omega
    simp only [c1,c2,decide_true,decide_false,if_true,Bool.not_false,zbe,zbm,zbd,zbj,za0,zcq,zaq,zay,za7,zbs,zb4,zbk,zav,zch,zce,zcf,zcg,zau,zb3,zbx,zar,zap,zcd,zcr,zcs,zct,zcu,zcv,zbq,zb5,zcc,zc1,zci,zcj,zbw,zbh,zb9,zck,zcl,zcn,zb1,zc2,zby,zbr,zb6,zbz,zc3,zc4,zcw,zcx,zb2,zca,zc5,zcb,List.map_cons,List.map_nil,List.length_cons,List.length_nil,Nat.reduceAdd,Nat.reduceSub,List.replicate,List.cons_append,List.nil_append,qg0,qg1,qs0,qs1,zas,za5,zbg,zcm,zcz,zc0,zb7,zb8,za1,decide_eq_true_eq]
    first|exact ⟨nofun,Gr.refl _⟩|exact Gr.refl _
   ·have c1:¬(1:Int)<=(rs.length:Int):=by omega
    simp only [c1,decide_false,qbf,if_false,Bool.not_false,if_true,zbe,zbm,zbd,zbj,za0,zcq,zaq,zay,za7,zbs,zb4,zbk,zav,zch,zce,zcf,zcg,zau,zb3,zbx,zar,zap,zcd,zcr,zcs,zct,zcu,zcv,zbq,zb5,zcc,zc1,zci,zcj,zbw,zbh,zb9,zck,zcl,zcn,zb1,zc2,zby,zbr,zb6,zbz,zc3,zc4,zcw,zcx,zb2,zca,zc5,zcb,List.map_cons,List.map_nil,List.length_cons,List.length_nil,Nat.reduceAdd,Nat.reduceSub,List.replicate,List.cons_append,List.nil_append,qg0,qg1,qs0,qs1,zas,za5,zbg,zcm,zcz,zc0,zb7,zb8,za1,decide_eq_true_eq]
    first|exact ⟨nofun,Gr.refl _⟩|exact Gr.refl _
noncomputable def zl9 {α:Type}(f:Str->Option α) (h:α->D):D->Option D
 | .str z=>(f z).map h
 | _=>none
theorem zkl {α β:Type}{F:α->Option β}:∀{ys:List α}{vs:List β},zaz F ys=some vs->vs.length=ys.length
 | [],vs,h=>by cases h;rfl
 | y :: ys,vs,h=>by
  obtain ⟨v,h1,h⟩:=bnd h
  obtain ⟨ws,h2,h⟩:=bnd h
  cases h
  rw [List.length_cons,List.length_cons,zkl h2]
theorem zja {α β:Type}{F:α->Option β}:∀{ys:List α}{vs:List β},zaz F ys=some vs->∀v∈vs,∃y∈ys,F y=some v
 | [],vs,h,v,hv=>by cases h;cases hv
 | y :: ys,vs,h,v,hv=>by
  obtain ⟨w,h1,h⟩:=bnd h
  obtain ⟨ws,h2,h⟩:=bnd h
  cases h
  rcases List.mem_cons.mp hv with rfl|hv
  ·exact ⟨y,List.mem_cons_self,h1⟩
  ·obtain ⟨y',hy,e⟩:=zja h2 v hv
   exact ⟨y',List.mem_cons_of_mem _ hy,e⟩
theorem zum:(" ":Str).length≠0:=by decide +kernel
theorem zun:(" | ":Str).length≠0:=by decide +kernel
noncomputable def zd2 (w:Str):Option (List Cl):=zaz zdd (Txt.split w " ")
noncomputable def zma:EM:=zbv (zdj (zc7 zdx (eVar 0) (zaa (eC (.str " ")) zab))) [none] (gName3 0) (zbc) (zac zd1 (zaa (eVar 0) (zab)))
noncomputable def zoh:ZM:=ze6 (zdj (zc7 zdx (eVar 0) (zaa (eC (.str " ")) zab))) [none] (gName3 0) (zbc) (zac zd1 (zaa (eVar 0) (zab))) (zdc zep (zaa (eVar 0) (zab)))
theorem zoi {e:EM}{l:Lo}{S:Sto}{x y:Str}(he:e l S=some (.str x,S)) (hy:y.length≠0) (hx:x.length+2<=sizeLine):zdj (zc7 zdx e (zaa (eC (.str y)) zab)) l S=some (itL S.length,((Txt.split x y).map D.str).length+1,S++[.lst ((Txt.split x y).map D.str)]):=zsq (zl5 he hy hx) za1
theorem yfi {w:Str}{S:Sto}(hz:w.length+4<=sizeLine):Rs (zac zdb (zaa zma (zab)) [some (.str w)]) (zoh [some (.str w)]) S ((zd2 w).map rD):=by
 have hc:=zkk w " "
 have key:=zn9 (F:=zl9 zdd cD) (e:=zac zd1 (zaa (eVar 0) (zab))) (r:=zdc zep (zaa (eVar 0) (zab))) (ixs:=[none]) (zoi (e:=eVar 0) (x:=w) (l:=[some (.str w)]) (S:=S) (zak rfl) zum (by omega)) ⟨_,rfl⟩ (λi S' g=>zlv (g.lst za1)) (by rw [qlm];omega) (λx hx S' g=>by
  obtain ⟨u,hu,rfl⟩:=List.mem_map.mp hx
  have:=zhw hu
  have:=zuj (z:=u) (S:=S') (by omega)
  have e1:zac zd1 (zaa (eVar 0) (zab)) ((zbp [none] [some (.str w)]).set 0 (some (.str u)))=zd1 [.str u]:=by
   funext S;exact zbl (zdf (zak rfl))
  have e2:zdc zep (zaa (eVar 0) (zab)) ((zbp [none] [some (.str w)]).set 0 (some (.str u)))=zep [.str u]:=by
   funext S;exact ze0 (zdf (zak rfl))
  rw [e1,e2];exact this)
 rw [zki (F:=zl9 zdd cD) (f:=zdd) (g:=D.str) (h:=cD) (λ_=>rfl)] at key
 unfold zd2
 cases hm:zaz zdd (Txt.split w " ") with
 | none =>
  rw [hm] at key
  obtain ⟨k1,S',k2,g⟩:=key.2 rfl
  exact ⟨zuf k1,S',k2,g⟩
 | some cs =>
  rw [hm] at key
  obtain ⟨S',k1,g,k2⟩:=key.1 _ rfl
  exact ⟨_,zob k1,g.push _,k2⟩
theorem zoj {w:Str}{cs:List Cl}(h:zd2 w=some cs):(∀c∈cs,OkC 24 c)/\cs.length<=w.length+2:=by
 unfold zd2 at h
 refine ⟨λc hc=>?_,?_⟩
 ·obtain ⟨u,_,e⟩:=zja h c hc
  exact zof e
 ·rw [zkl h];exact zkk w " "
noncomputable def zkm:EM:=zbv (zdj (zc7 zdx (eVar 3) (zaa (eC (.str " | ")) zab))) [none] (gName3 0) (zbc) (zac zdb (zaa zma (zab)))
noncomputable def zok:ZM:=ze6 (zdj (zc7 zdx (eVar 3) (zaa (eC (.str " | ")) zab))) [none] (gName3 0) (zbc) (zac zdb (zaa zma (zab))) zoh
theorem yfj {l:Lo}{z:Str}{S:Sto}(hl:l[3]? = some (some (.str z))) (hz:z.length+4<=sizeLine) :
  (∀rs,zaz zd2 (Txt.split z " | ")=some rs->∃S',zkm l S=some (.ref S'.length,S'++[.lst (rs.map rD)])/\Gr S S'/\zok l S=none) /\
  (zaz zd2 (Txt.split z " | ")=none->zkm l S=none/\∃S',zok l S=some (("NoText":Str),S')/\Gr S S'):=by
 have hc:=zkk z " | "
 have key:=zn9 (F:=zl9 zd2 rD) (e:=zac zdb (zaa zma (zab))) (r:=zoh) (ixs:=[none]) (zoi (l:=l) (S:=S) (zak hl) zun (by omega)) ⟨_,rfl⟩ (λi S' g=>zlv (g.lst za1)) (by rw [qlm];omega) (λx hx S' g=>by
  obtain ⟨u,hu,rfl⟩:=List.mem_map.mp hx
  have:=zhw hu
  exact yfi (w:=u) (S:=S') (by omega))
 rw [zki (F:=zl9 zd2 rD) (f:=zd2) (g:=D.str) (h:=rD) (λ_=>rfl)] at key
 refine ⟨λrs h=>?_,λh=>?_⟩
 ·rw [h] at key;exact key.1 _ rfl
 ·rw [h] at key;exact key.2 rfl
noncomputable def ze2 (z:Str):Option (Nat × List (List Cl)):=(zdr 5 (Txt.partition z ": ").1).bind λa=>(zaz zd2 (Txt.split (Txt.partition z ": ").2.2 " | ")).bind λrs=>if okM a rs=true then some (a,rs) else none
theorem yfk:(": ":Str).length≠0:=by decide +kernel
noncomputable def bM2:SM:=zag (zaj (zac zdw (zaa (eVar 1) (zaa (eOp dPlusA (eC (.int 4)) (eC (.int 1))) (zab)))) (gName3 4)) (zag (zaj zkm (gName3 5)) (zag (zaj (zac zbo (zaa (eVar 4) (zaa (zac zdb (zaa (eVar 5) (zab))) (zab)))) (gName3 6)) (zag (sIf (zdi (tE (zac zgy (zaa (eVar 6) (zab))))) (ze4) (zat)) (sRet (eVar 6)))))
noncomputable def zM2:ZM:=zOr (zdc zeb (zaa (eVar 1) (zaa (eOp dPlusA (eC (.int 4)) (eC (.int 1))) (zab)))) (zd0 (zaj (zac zdw (zaa (eVar 1) (zaa (eOp dPlusA (eC (.int 4)) (eC (.int 1))) (zab)))) (gName3 4)) (zOr zok (zd0 (zaj zkm (gName3 5)) (zd0 (zaj (zac zbo (zaa (eVar 4) (zaa (zac zdb (zaa (eVar 5) (zab))) (zab)))) (gName3 6)) (zIf (zdi (tE (zac zgy (zaa (eVar 6) (zab))))) (λ_ S=>some ("NoText",S)) (zgo))))))
theorem yfl {z h s r:Str}{S:Sto}(hz:z.length+2<=sizeLine) (hp:Txt.partition z ": " = (h,s,r)):zf7 [.str z] S=(bM2 [some (.str z),some (.str h),some (.str s),some (.str r),none,none,none] S).bind zet/\zgz [.str z] S=zM2 [some (.str z),some (.str h),some (.str s),some (.str r),none,none,none] S:=by
 have hr:zdz (zac zee (zaa (eVar 0) (zab))) [some (.str z),none,none,none,none,none,none] S=some (.nx,[some (.str z),none,none,none,none,none,none],S):=zl3 (by rw [zbl (zdf (zak rfl))];exact zoc)
 have hrz:zdc ze7 (zaa (eVar 0) (zab)) [some (.str z),none,none,none,none,none,none] S=none:=by rw [ze0 (zdf (zak rfl))];exact zod
 have hs:zaj (zc7 zhq (eVar 0) (zaa (eC (.str ": ")) zab)) (zgv 3 (zd3 (gName3 1) (zd3 (gName3 2) (zd3 (gName3 3) (zgu))))) [some (.str z),none,none,none,none,none,none] S=some (.nx,[some (.str z),some (.str h),some (.str s),some (.str r),none,none,none],S):=by
  have zl:z.length<=sizeLine:=by omega
  obtain ⟨f,l,S',e,rfl,rfl,hS⟩:Ws (zaj (zc7 zhq (eVar 0) (zaa (eC (.str ": ")) zab)) (zgv 3 (zd3 (gName3 1) (zd3 (gName3 2) (zd3 (gName3 3) (zgu)))))) [some (.str z),none,none,none,none,none,none] S λf l S'=>f=.nx/\l=[some (.str z),some (.str h),some (.str s),some (.str r),none,none,none]/\S' = S:=by
   simp only [zbe,zbm,zbd,zbj,za0,zcq,zaq,zay,za7,zbs,zb4,zbk,zav,zch,zce,zcf,zcg,zau,zb3,zbx,zar,zap,zcd,zcr,zcs,zct,zcu,zcv,zbq,zb5,zcc,zc1,zci,zcj,zbw,zbh,zb9,zck,zcl,zcn,zb1,zc2,zby,zbr,zb6,zbz,zc3,zc4,zcw,zcx,zb2,zca,zc5,zcb,List.map_cons,List.map_nil,List.length_cons,List.length_nil,Nat.reduceAdd,Nat.reduceSub,List.replicate,List.cons_append,List.nil_append,qg0,qg1,qs0,qs1,zas,za5,zbg,zcm,zcz,zc0,zb7,zb8,za1,decide_eq_true_eq,zjy,yda,ne_eq,yfk,not_false_eq_true,zl,hp,true_and,and_self]
  rw [hS] at e
  exact e
 constructor
 ·unfold zf7 zn3
  rw [zeu (l:=[some (.str z),none,none,none,none,none,none]) rfl,zbf hr,zbf hs];rfl
 ·show zka [some (.str z),none,none,none,none,none,none] S=_
  unfold zka
  rw [zhu hrz,zgq hr,zgq hs];rfl
theorem yfm {z:Str}{S:Sto}(hz:z.length+10<=sizeLine):Rs (zf7 [.str z]) (zgz [.str z]) S ((ze2 z).map λm=>mD m.1 m.2):=by
 have p3:=(PyProof.Rows.fact_partition z ": ").2.2
 unfold ze2
 generalize hp:Txt.partition z ": " = q at p3
 obtain ⟨h,s,r⟩:=q
 dsimp only at p3 ⊢
 obtain ⟨e1,e2⟩:=yfl (S:=S) (by omega) hp
 have sz2:2<=sizeLine:=by decide
 obtain ⟨n1,n2⟩:=zoa (n:=5) (z:=h) (S:=S) (by decide)
 have n1:zdw [.str h,.int 5] S=(zdr 5 h).map (λk=>(nD k,S)):=n1
 have n2:zeb [.str h,.int 5] S=if zdr 5 h=none then some (("NoText":Str),S) else none:=n2
 have ea:zaa (eVar 1) (zaa (eOp dPlusA (eC (.int 4)) (eC (.int 1))) (zab)) [some (.str z),some (.str h),some (.str s),some (.str r),none,none,none] S=some ([.str h,.int 5],S):=zds (zak rfl) rfl
 unfold bM2 at e1
 unfold zM2 at e2
 cases hc:zdr 5 h with
 | none =>
  rw [hc] at n1 n2
  refine ⟨?_,S,?_,Gr.refl _⟩
  ·rw [e1,zht (zue (by rw [zbl ea];exact n1))];rfl
  ·rw [e2,zhv (c:=("NoText",S)) (by rw [ze0 ea];exact n2)]
 | some a =>
  rw [hc] at n1 n2
  have a5:=(zi5 hc).1
  have s1:zaj (zac zdw (zaa (eVar 1) (zaa (eOp dPlusA (eC (.int 4)) (eC (.int 1))) (zab)))) (gName3 4) [some (.str z),some (.str h),some (.str s),some (.str r),none,none,none] S=some (.nx,[some (.str z),some (.str h),some (.str s),some (.str r),some (nD a),none,none],S):=zdk (by rw [zbl ea];exact n1)
  rw [zbf s1] at e1
  rw [zhu (by rw [ze0 ea];exact n2),zgq s1] at e2
  obtain ⟨r1,r2⟩:=yfj (l:=[some (.str z),some (.str h),some (.str s),some (.str r),some (nD a),none,none]) (z:=r) (S:=S) rfl (by omega)
  cases hm:zaz zd2 (Txt.split r " | ") with
  | none =>
   obtain ⟨k1,S',k2,g⟩:=r2 hm
   refine ⟨?_,S',?_,g⟩
   ·rw [e1,zht (zue k1)];rfl
   ·rw [e2,zhv k2]
  | some rs =>
   obtain ⟨S',k1,g,k2⟩:=r1 rs hm
   have s2:zaj zkm (gName3 5) [some (.str z),some (.str h),some (.str s),some (.str r),some (nD a),none,none] S=some (.nx,[some (.str z),some (.str h),some (.str s),some (.str r),some (nD a),some (.ref S'.length),none],S'++[.lst (rs.map rD)]):=zdk k1
   rw [zbf s2] at e1
   rw [zhu k2,zgq s2] at e2
   have g2:Gr S (S'++[.lst (rs.map rD)]):=g.push _
   have hl:lstOf (S'++[.lst (rs.map rD)]) S'.length=some (rs.map rD):=za1
   generalize S'++[Ob.lst (rs.map rD)]=S2 at *
   have et:zac zdb (zaa (eVar 5) (zab)) [some (.str z),some (.str h),some (.str s),some (.str r),some (nD a),some (.ref S'.length),none] S2=some (.tup (rs.map rD),S2):=by
    rw [zbl (zdf (zak rfl))]
    show (lstOf S2 S'.length).bind _=_
    rw [hl];rfl
   have s3:zaj (zac zbo (zaa (eVar 4) (zaa (zac zdb (zaa (eVar 5) (zab))) (zab)))) (gName3 6) [some (.str z),some (.str h),some (.str s),some (.str r),some (nD a),some (.ref S'.length),none] S2=some (.nx,[some (.str z),some (.str h),some (.str s),some (.str r),some (nD a),some (.ref S'.length),some (mD a rs)],S2):=zdk (by
    rw [zbl (zds (zak rfl) et)]
    show (if 2<=sizeLine then _ else _)=_
    rw [if_pos sz2];rfl)
   rw [zbf s3] at e1
   rw [zgq s3] at e2
   obtain ⟨v,S3,e3,rfl,g3⟩:=yfh (a:=a) (rs:=rs) (S:=S2) a5 (λcs hcs=>by
    obtain ⟨u,hu,e⟩:=zja hm cs hcs
    have:=zhw hu
    have:=zoj e
    exact ⟨this.1,by omega⟩)
   have t:zdi (tE (zac zgy (zaa (eVar 6) (zab)))) [some (.str z),some (.str h),some (.str s),some (.str r),some (nD a),some (.ref S'.length),some (mD a rs)] S2=some (!okM a rs,S3):=by
    unfold zdi tE
    rw [zbl (zdf (zak rfl)),e3];rfl
   dsimp only [Option.bind_some]
   cases ho:okM a rs with
   | true =>
    rw [ho] at t
    refine ⟨S3,?_,g2.trans g3,?_⟩
    ·rw [e1,zbf (l':=[some (.str z),some (.str h),some (.str s),some (.str r),some (nD a),some (.ref S'.length),some (mD a rs)]) (S':=S3) (by rw [zdy t];rfl),zf9,zak rfl]
    ·rw [e2,zi7 t];rfl
   | false =>
    rw [ho] at t
    refine ⟨?_,S3,?_,g2.trans g3⟩
    ·rw [e1,zht (by rw [zdt t];rfl)];rfl
    ·rw [e2,zi6 t]
theorem zuo (c:Nat) (j:Str):zid ⟨#[c]⟩ j=decide (c∈j.cps.toList):=StrLaws.found_one j c
noncomputable def sF (g:Nat->Bool):D->Option D
 | .str z=>match z.cps.toList with
  | [c]=>if g c=true then some (.str z) else none
  | _=>none
 | _=>none
theorem zup (g:Nat->Bool) (z:Str):(!((sgn z).filterMap (sF g)).isEmpty)=z.cps.toList.any g:=by
 unfold sgn
 generalize z.cps.toList=cs
 induction cs with
 | nil=>rfl
 | cons c cs ih =>
  rw [List.map_cons,List.any_cons]
  cases h:g c with
  | true =>
   rw [List.filterMap_cons_some (b:=.str ⟨#[c]⟩) (by simp [sF,h])];rfl
  | false =>
   rw [List.filterMap_cons_none (by simp [sF,h]),ih,Bool.false_or]
theorem zuq {e0:EM}{ixs:List (Option Nat)}{t:TM}{l:Lo}{S:Sto}{z:Str}{g:Nat->Bool}(he:e0 l S=some (.str z,S)) (hz:z.length+2<=sizeLine) (h0:0<ixs.length)
  (step:∀c S',t ((zbp ixs l).set 0 (some (.str ⟨#[c]⟩))) S' = some (g c,S')):We (zbv (zeo e0) ixs (gName3 0) t (eVar 0)) l S λv S'=>∃S1,v=.ref S1.length/\S' = S1++[Ob.lst ((sgn z).filterMap (sF g))]/\Gr S S1:=by
 have hl:(sgn z).length<=sizeLine:=by rw [zj0];have:z.cps.size=z.length:=rfl;omega
 refine znu (sgn z) (sF g) (λS'=>S' = S) (λl'=>∃y,l' = (zbp ixs l).set 0 y) (zny he) rfl ⟨(zbp ixs l)[0]?.join,?_⟩ (λi S _=>rfl) hl ?_ ?_
 ·apply List.ext_getElem?
  intro i
  by_cases hi:i=0
  ·subst hi
   have h1:0<(zbp ixs l).length:=by unfold zbp;simpa using h0
   rw [List.getElem?_set_self h1,qge h1];rfl
  ·rw [List.getElem?_set_ne (Ne.symm hi)]
 ·rintro x l' S' hx ⟨y,rfl⟩ rfl
  unfold sgn at hx
  obtain ⟨c,_,rfl⟩:=List.mem_map.mp hx
  have e1:((zbp ixs l).set 0 y).set 0 (some (.str ⟨#[c]⟩))=(zbp ixs l).set 0 (some (.str ⟨#[c]⟩)):=List.set_set ..
  have h1:0<(zbp ixs l).length:=by unfold zbp;simpa using h0
  rw [zav,e1]
  refine ⟨⟨_,rfl⟩,g c,S',step c S',rfl,λh=>by simp [sF,h],λh=>?_⟩
  rw [zaq,List.getElem?_set_self h1]
  exact ⟨_,rfl,by simp [sF,h],rfl⟩
 ·rintro S' rfl
  exact ⟨S',rfl,rfl,Gr.refl _⟩
theorem yfn {e0:EM}{ixs:List (Option Nat)}{t:TM}{l:Lo}{S:Sto}{z:Str}{g:Nat->Bool}(he:e0 l S=some (.str z,S)) (hz:z.length+2<=sizeLine) (h0:0<ixs.length)
  (step:∀c S',t ((zbp ixs l).set 0 (some (.str ⟨#[c]⟩))) S' = some (g c,S')):∃S',tE (eOp zew (zbv (zeo e0) ixs (gName3 0) t (eVar 0)) (zac za6 zab)) l S=some (z.cps.toList.any g,S')/\Gr S S':=by
 have key:=zuq he hz h0 step
 obtain ⟨v,S',e1,S1,rfl,rfl,g1⟩:=key
 have e2:zac za6 zab l (S1++[Ob.lst ((sgn z).filterMap (sF g))])=some (.ref (S1.length+1),S1++[Ob.lst ((sgn z).filterMap (sF g))]++[Ob.lst []]):=by
  show (if 0<=sizeLine then some (D.ref (S1++[Ob.lst ((sgn z).filterMap (sF g))]).length,S1++[Ob.lst ((sgn z).filterMap (sF g))]++[Ob.lst []]) else none)=_
  rw [if_pos (Nat.zero_le _),qla];rfl
 have q1:(S1++[Ob.lst ((sgn z).filterMap (sF g))]++[Ob.lst []])[S1.length]? = some (Ob.lst ((sgn z).filterMap (sF g))):=by simp
 have q2:(S1++[Ob.lst ((sgn z).filterMap (sF g))]++[Ob.lst []])[S1.length+1]? = some (Ob.lst []):=by simp
 obtain ⟨v,S',e3,rfl,rfl⟩:Wo (zew (.ref S1.length) (.ref (S1.length+1)) (S1++[Ob.lst ((sgn z).filterMap (sF g))]++[Ob.lst []])) λv S'=>v=.bl (!((sgn z).filterMap (sF g)).isEmpty)/\S' = S1++[Ob.lst ((sgn z).filterMap (sF g))]++[Ob.lst []]:=by rw [znr q1 q2];exact ⟨rfl,rfl⟩
 refine ⟨S1++[Ob.lst ((sgn z).filterMap (sF g))]++[Ob.lst []],?_,(g1.push _).push _⟩
 unfold tE eOp
 rw [e1]
 simp only [Option.bind_some,e2,e3,zup]
theorem zur {α:Type}(p:α->Bool) (cs:List α):cs.any (λc=>!p c) = !cs.all p:=by
 induction cs with
 | nil=>rfl
 | cons c cs ih=>rw [List.any_cons,List.all_cons,ih,Bool.not_and]
theorem zhj {t u:TM}{l:Lo}{S:Sto}(h:t l S=some (true,S)):zdu t u l S=some (true,S):=by unfold zdu;rw [h];rfl
theorem zfg {t u:TM}{l:Lo}{S:Sto}(h:t l S=some (false,S)):zdu t u l S=u l S:=by unfold zdu;rw [h];rfl
noncomputable def dgt (c:Nat):Bool:=decide (48<=c/\c<=57)
noncomputable def val:List Nat->Option Nat
 | [c]=>if dgt c=true then some (c-48) else none
 | [c,d]=>if dgt c=true/\c≠48/\dgt d=true then some (10*(c-48)+(d-48)) else none
 | _=>none
theorem zkn (c:Nat):val [c]=if dgt c=true then some (c-48) else none:=rfl
theorem zmb (c d:Nat):val [c,d]=if dgt c=true/\c≠48/\dgt d=true then some (10*(c-48)+(d-48)) else none:=rfl
theorem yfo:∀k:Fin 24,val (nt k.val).cps.toList=some k.val:=by decide +kernel
theorem zus:∀c:Fin 10,nt c.val=⟨#[48+c.val]⟩:=by decide +kernel
theorem yfp:∀c d:Fin 10,c.val≠0->nt (10*c.val+d.val)=⟨#[48+c.val,48+d.val]⟩:=by decide +kernel
theorem zjb {c:Nat}(h:dgt c=true):∃k:Fin 10,c=48+k.val:=by
 unfold dgt at h
 have:=of_decide_eq_true h
 exact ⟨⟨c-48,by omega⟩,by show c=48+(c-48);omega⟩
theorem yfq {z:Str}{v:Nat}(h:val z.cps.toList=some v):z=nt v:=by
 match hL:z.cps.toList,h with
 | [c],h =>
  rw [zkn] at h
  split at h
  ·rename_i hc
   cases h
   obtain ⟨k,rfl⟩:=zjb hc
   have e:=zus k
   have:48+k.val-48=k.val:=by omega
   rw [this,e]
   exact TX.str_ext hL
  ·cases h
 | [c,d],h =>
  rw [zmb] at h
  split at h
  ·rename_i hc
   cases h
   obtain ⟨h1,h2,h3⟩:=hc
   obtain ⟨k,rfl⟩:=zjb h1
   obtain ⟨j,rfl⟩:=zjb h3
   have e:=yfp k j (by omega)
   have e1:48+k.val-48=k.val:=by omega
   have e2:48+j.val-48=j.val:=by omega
   rw [e1,e2,e]
   exact TX.str_ext hL
  ·cases h
 | [],h=>cases h
 | _ :: _ :: _ :: _,h=>cases h
theorem zol {n:Nat}{z:Str}(hn:n<=24):zdr n z=(val z.cps.toList).bind λv=>if v<n then some v else none:=by
 cases h:zdr n z with
 | some k =>
  obtain ⟨h1,h2⟩:=zi5 h
  have:=yfo ⟨k,by omega⟩
  rw [h2]
  show some k=(val (nt k).cps.toList).bind _
  rw [this]
  show some k=if k<n then some k else none
  rw [if_pos h1]
 | none =>
  cases hv:val z.cps.toList with
  | none=>rfl
  | some v =>
   show none=if v<n then some v else none
   by_cases hlt:v<n
   ·exfalso
    have e:=yfq hv
    have:=zuc (n:=n) (k:=v) (z:=z) hlt e (λj hj e2=>by
     have:=yes (k:=v) (j:=j) (by omega) (by omega) (e ▸ e2)
     omega)
    rw [h] at this;cases this
   ·rw [if_neg hlt]
theorem zmc:∀c:Fin 10,intText? ⟨#[48+c.val]⟩=some ((c.val:Nat):Int):=by decide +kernel
theorem yfr:∀c d:Fin 10,intText? ⟨#[48+c.val,48+d.val]⟩=some (((10*c.val+d.val:Nat)):Int):=by decide +kernel
noncomputable def pl:Option (Option Nat)->List D
 | none=>[]
 | some g=>[oD g]
noncomputable def ten:Str:="0123456789"
theorem yfs:ten.cps.toList=[48,49,50,51,52,53,54,55,56,57]:=by decide +kernel
theorem zut (c:Nat):c∈ten.cps.toList↔dgt c=true:=by
 rw [yfs]
 unfold dgt
 simp only [List.mem_cons,List.not_mem_nil,or_false,decide_eq_true_eq]
 omega
theorem yft (c:Nat) (S:Sto):tE (eOp (zhg true) (eVar 0) (eC (.str "0123456789"))) [some (.str ⟨#[c]⟩)] S=some (!dgt c,S):=by
 unfold tE eOp
 rw [zak (d:=.str ⟨#[c]⟩) rfl]
 show some (!(zid ⟨#[c]⟩ ten),S)=_
 rw [zuo]
 have:decide (c∈ten.cps.toList)=dgt c:=by
  cases h:dgt c with
  | true=>exact decide_eq_true ((zut c).mpr h)
  | false=>exact decide_eq_false (λw=>by rw [(zut c).mp w] at h;cases h)
 rw [this]
theorem yfu {z:Str}(hd:z.cps.toList.all dgt=true) (h1:z.length<=2) (h0:z.length≠0):∃v:Nat,intText? z=some (v:Int)/\(val z.cps.toList=if z.length=2/\z.cps.toList[0]? = some 48 then none else some v):=by
 have ln:=TX.len_eq z
 match hL:z.cps.toList with
 | []=>rw [hL] at ln;exact absurd ln h0
 | [c] =>
  rw [hL] at ln hd
  have hc:dgt c=true:=by simpa using hd
  obtain ⟨k,rfl⟩:=zjb hc
  have e:z=⟨#[48+k.val]⟩:=TX.str_ext hL
  refine ⟨k.val,by rw [e];exact zmc k,?_⟩
  rw [if_neg (λw=>by have:=w.1;simp at ln;omega)]
  rw [zkn,if_pos hc]
  congr 1;omega
 | [c,d] =>
  rw [hL] at ln hd
  have hc:dgt c=true/\dgt d=true:=by simpa using hd
  obtain ⟨k,rfl⟩:=zjb hc.1
  obtain ⟨j,rfl⟩:=zjb hc.2
  have e:z=⟨#[48+k.val,48+j.val]⟩:=TX.str_ext hL
  refine ⟨10*k.val+j.val,by rw [e];exact yfr k j,?_⟩
  have l2:z.length=2:=by simpa using ln
  by_cases hk:48+k.val=48
  ·rw [if_pos ⟨l2,by rw [hk];rfl⟩]
   rw [zmb,if_neg (λw=>w.2.1 hk)]
  ·rw [if_neg (λw=>hk (by have:=w.2;simpa using this))]
   rw [zmb,if_pos ⟨hc.1,hk,hc.2⟩]
   congr 1;omega
 | a :: b :: c :: r=>rw [hL] at ln;simp at ln;omega
theorem zom {z:Str}(h:z.length=0\/2<z.length\/z.cps.toList.all dgt=false):val z.cps.toList=none:=by
 have ln:=TX.len_eq z
 match hL:z.cps.toList with
 | []=>rfl
 | [c] =>
  rw [hL] at ln h
  rw [zkn,if_neg (λw=>by
   rcases h with h|h|h
   ·simp at ln;omega
   ·simp at ln;omega
   ·simp [w] at h)]
 | [c,d] =>
  rw [hL] at ln h
  rw [zmb,if_neg (λw=>by
   rcases h with h|h|h
   ·simp at ln;omega
   ·simp at ln;omega
   ·simp [w.1,w.2.2] at h)]
 | a :: b :: c :: r=>rfl
theorem yfv {t u:TM}{l:Lo}{S S':Sto}(h:t l S=some (true,S')):zfb t u l S=u l S':=by unfold zfb;rw [h];rfl
theorem yfw {t u:TM}{l:Lo}{S S':Sto}(h:t l S=some (false,S')):zfb t u l S=some (false,S'):=by unfold zfb;rw [h];rfl
theorem eq_int {e:EM}{l:Lo}{S S1:Sto}{i j:Int}(h:e l S=some (.int i,S1)):tE (eOp dEq e (eC (.int j))) l S=some (decide (i=j),S1):=by
 unfold tE eOp;rw [h];rfl
theorem zgb {as:AM}{l:Lo}{S S1:Sto}{xs:List D}(h:as l S=some (xs,S1)) (hz:xs.length<=100):zac za6 as l S=some (.ref S1.length,S1++[.lst xs]):=by
 rw [zbl h]
 show (if xs.length<=sizeLine then _ else _)=_
 rw [if_pos (ze8 (by omega))]
theorem yfx {l:Lo}{S:Sto}{i n:Nat}{xs:List D}(hl:l[i]? = some (some (.ref n))) (hx:S[n]? = some (.lst xs)):tE (eOp zew (eVar i) (zac za6 (zab))) l S=some (!xs.isEmpty,S++[.lst []]):=by
 obtain ⟨v,S',e,rfl,rfl⟩:Wo (zew (.ref n) (.ref S.length) (S++[.lst []])) λv S'=>v=.bl (!xs.isEmpty)/\S' = S++[.lst []]:=by rw [znr (Gr.get ⟨_,rfl⟩ hx) (zdh _ _)];exact ⟨rfl,rfl⟩
 unfold tE eOp
 rw [zak hl]
 simp only [Option.bind_some]
 rw [zgb (xs:=[]) (S1:=S) rfl (by simp)]
 simp only [Option.bind_some]
 rw [e];rfl
theorem zmd {e:EM}{l:Lo}{S:Sto}{z:Str}{v:Nat}(he:e l S=some (.str z,S)) (h:intText? z=some (v:Int)) (hz:z.length<=640):zac zdv (zaa e zab) l S=some (.int (v:Int),S):=by
 rw [zbl (zdf he)]
 obtain ⟨w,S',e2,rfl,rfl⟩:Wo (zdv [.str z] S) λw S'=>w=.int (v:Int)/\S' = S:=by rw [yc5 h hz];exact ⟨rfl,rfl⟩
 exact e2
theorem ix_str {e:EM}{l:Lo}{S:Sto}{z:Str}{c:Nat}(he:e l S=some (.str z,S)) (h:z.cps.toList[0]? = some c) (hz:z.length<=sizeLine):eOp zam e (eC (.int 0)) l S=some (.str ⟨#[c]⟩,S):=by
 obtain ⟨w,S',e2,rfl,rfl⟩:Wo (zam (.str z) (.int 0) S) λw S'=>w=.str ⟨#[c]⟩/\S' = S:=by rw [zb9];exact ⟨hz,c,atI_get (i:=0) h,rfl,rfl⟩
 unfold eOp;rw [he];exact e2
theorem yfy (c:Nat):(⟨#[c]⟩:Str) = "0"↔c=48:=by
 constructor
 ·intro h
  have e:=congrArg (λs:Str=>s.cps.toList) h
  have e2:("0":Str).cps.toList=[48]:=by decide +kernel
  simp only [e2] at e
  simpa using e
 ·rintro rfl;exact TX.str_ext (by decide +kernel)
theorem zuu (z:Str):z = ""↔z.length=0:=by
 constructor
 ·rintro rfl;decide +kernel
 ·intro h
  refine TX.str_ext ?_
  have e2:("":Str).cps.toList=[]:=by decide +kernel
  rw [e2]
  rw [TX.len_eq] at h
  exact List.length_eq_zero_iff.mp h
theorem zuv {z:Str}{most:Nat}{S:Sto}(hm:most<24) (hz:z.length+2<=sizeLine):∃S' r,zg1 [.str z,.int (most:Int)] S=some (.ref r,S')/\Gr S S'/\S.length<=r/\S'[r]? = some (.lst (pl (zbi (most+1) z))):=by
 unfold zg1 zs4
 rw [zeu (l:=[some (.str z),‹most›,none]) rfl]
 have t0:tE (eOp dEq (eVar 0) (eC (.str "-"))) [some (.str z),‹most›,none] S=some (decide (z = "-"),S):=zhi (zak rfl)
 by_cases h1:z = "-"
 ·rw [decide_eq_true h1] at t0
  refine ⟨S++[.lst [.non]],S.length,?_,⟨_,rfl⟩,qlr _,?_⟩
  ·rw [zef (by rw [zdt t0];exact zek (zgb (xs:=[.non]) (S1:=S) rfl (by decide)))];rfl
  ·unfold zbi;rw [if_pos h1];exact zdh _ _
 ·rw [decide_eq_false h1] at t0
  rw [zbf (l':=[some (.str z),‹most›,none]) (S':=S) (by rw [zdy t0];rfl)]
  obtain ⟨v,S',ec,S1,rfl,rfl,g1⟩:=zuq (e0:=eVar 0) (ixs:=[none]) (t:=tE (eOp (zhg true) (eVar 0) (eC (.str "0123456789")))) (l:=[some (.str z),‹most›,none]) (S:=S) (z:=z) (g:=λc=>!dgt c) (zak rfl) hz (by decide) (λc S'=>yft c S')
  have e1:=zup (λc=>!dgt c) z
  rw [zur] at e1
  have s1:zaj (zbv (zeo (eVar 0)) [none] (gName3 0) (tE (eOp (zhg true) (eVar 0) (eC (.str "0123456789")))) (eVar 0)) (gName3 2) [some (.str z),‹most›,none] S=some (.nx,[some (.str z),‹most›,some (.ref S1.length)],S1++[.lst ((sgn z).filterMap (sF λc=>!dgt c))]):=zdk ec
  rw [zbf s1]
  have g2:Gr S (S1++[.lst ((sgn z).filterMap (sF λc=>!dgt c))]):=g1.push _
  have hx:(S1++[Ob.lst ((sgn z).filterMap (sF λc=>!dgt c))])[S1.length]? = some (.lst ((sgn z).filterMap (sF λc=>!dgt c))):=zdh _ _
  generalize S1++[Ob.lst ((sgn z).filterMap (sF λc=>!dgt c))]=S2 at g2 hx
  generalize (sgn z).filterMap (sF λc=>!dgt c)=xs at e1 hx
  have len:∀S,zac za8 (zaa (eVar 0) (zab)) [some (.str z),‹most›,some (.ref S1.length)] S=some (.int (z.length:Int),S):=λS=>len_str (zak rfl) (by omega)
  have t1:∀S,tE (eOp dEq (eVar 0) (eC (.str ""))) [some (.str z),‹most›,some (.ref S1.length)] S=some (decide (z = ""),S):=λS=>zhi (zak rfl)
  have t2:∀S,tE (eOp dGt (zac za8 (zaa (eVar 0) (zab))) (eC (.int 2))) [some (.str z),‹most›,some (.ref S1.length)] S=some (decide ((2:Int)<(z.length:Int)),S):=λS=>gt_int (len S) rfl
  have t3:tE (eOp zew (eVar 2) (zac za6 (zab))) [some (.str z),‹most›,some (.ref S1.length)] S2=some (!xs.isEmpty,S2++[.lst []]):=yfx rfl hx
  rw [e1] at t3
  have pT:zbi (most+1) z=(zdr (most+1) z).map some:=by unfold zbi;rw [if_neg h1]
  rw [zol (by omega)] at pT
  have fin:∀(S3:Sto) (t:TM) (b:SM),Gr S S3->t [some (.str z),‹most›,some (.ref S1.length)] S2=some (true,S3)->pl (zbi (most+1) z)=[]->∃S' r,((zag (sIf t (sRet (zac za6 (zab))) (zat)) b) [some (.str z),‹most›,some (.ref S1.length)] S2).bind zet=some (.ref r,S')/\Gr S S'/\S.length<=r/\S'[r]? = some (.lst (pl (zbi (most+1) z))):=λS3 t b g ht hp=>by
   refine ⟨S3++[.lst []],S3.length,?_,g.push _,g.len,?_⟩
   ·rw [zef (by rw [zdt ht];exact zek (zgb (xs:=[]) (S1:=S3) rfl (by decide)))];rfl
   ·rw [hp];exact zdh _ _
  have none_of:val z.cps.toList=none->pl (zbi (most+1) z)=[]:=λh=>by rw [pT,h];rfl
  by_cases c1:z = ""
  ·exact fin S2 _ _ g2 (by rw [zhj (by rw [t1,decide_eq_true c1])]) (none_of (zom (.inl ((zuu z).mp c1))))
  by_cases c2:2<z.length
  ·exact fin S2 _ _ g2 (by rw [zfg (by rw [t1,decide_eq_false c1]),zhj (by rw [t2,decide_eq_true (by omega)])]) (none_of (zom (.inr (.inl c2))))
  cases c3:z.cps.toList.all dgt with
  | false =>
   refine fin (S2++[.lst []]) _ _ (g2.push _) ?_ (none_of (zom (.inr (.inr c3))))
   rw [zfg (by rw [t1,decide_eq_false c1]),zfg (by rw [t2,decide_eq_false (by omega)]),t3,c3];rfl
  | true =>
   rw [c3] at t3
   rw [zbf (l':=[some (.str z),‹most›,some (.ref S1.length)]) (S':=S2++[.lst []]) (by rw [zdy (S':=S2++[.lst []]) (by rw [zfg (by rw [t1,decide_eq_false c1]),zfg (by rw [t2,decide_eq_false (by omega)]),t3];rfl)];rfl)]
   have g3:Gr S (S2++[.lst []]):=g2.push _
   generalize S2++[Ob.lst []]=S3 at g3
   have n0:z.length≠0:=λw=>c1 ((zuu z).mpr w)
   obtain ⟨v,hv,hval⟩:=yfu c3 (by omega) n0
   obtain ⟨c,hc⟩:∃c,z.cps.toList[0]? = some c:=⟨_,qge (by rw [<-TX.len_eq];omega)⟩
   have iv:∀S,zac zdv (zaa (eVar 0) (zab)) [some (.str z),‹most›,some (.ref S1.length)] S=some (.int (v:Int),S):=λS=>zmd (zak rfl) hv (by omega)
   have t4:tE (eOp dEq (zac za8 (zaa (eVar 0) (zab))) (eC (.int 2))) [some (.str z),‹most›,some (.ref S1.length)] S3=some (decide ((z.length:Int)=2),S3):=eq_int (len S3)
   have t5:tE (eOp dEq (eOp zam (eVar 0) (eC (.int 0))) (eC (.str "0"))) [some (.str z),‹most›,some (.ref S1.length)] S3=some (decide ((⟨#[c]⟩:Str) = "0"),S3):=zhi (ix_str (zak rfl) hc (by omega))
   have t6:tE (eOp dGt (zac zdv (zaa (eVar 0) (zab))) (eVar 1)) [some (.str z),‹most›,some (.ref S1.length)] S3=some (decide ((most:Int)<(v:Int)),S3):=gt_int (iv S3) (zak rfl)
   have ta:zfb (tE (eOp dEq (zac za8 (zaa (eVar 0) (zab))) (eC (.int 2)))) (tE (eOp dEq (eOp zam (eVar 0) (eC (.int 0))) (eC (.str "0")))) [some (.str z),‹most›,some (.ref S1.length)] S3=some (decide (z.length=2/\z.cps.toList[0]? = some 48),S3):=by
    by_cases l2:z.length=2
    ·rw [yfv (S':=S3) (by rw [t4,decide_eq_true (by omega)]),t5,hc]
     congr 2
     rw [decide_eq_decide,yfy]
     simp [l2]
    ·rw [yfw (S':=S3) (by rw [t4,decide_eq_false (by omega)]),decide_eq_false (λw=>l2 w.1)]
   by_cases b1:z.length=2/\z.cps.toList[0]? = some 48
   ·rw [decide_eq_true b1] at ta
    rw [if_pos b1] at hval
    refine ⟨S3++[.lst []],S3.length,?_,g3.push _,g3.len,?_⟩
    ·rw [zef (by rw [zdt (zhj ta)];exact zek (zgb (xs:=[]) (S1:=S3) rfl (by decide)))];rfl
    ·rw [none_of hval];exact zdh _ _
   ·rw [decide_eq_false b1] at ta
    rw [if_neg b1] at hval
    have pv:zbi (most+1) z=(if v<most+1 then some v else none).map some:=by rw [pT,hval];rfl
    by_cases b2:most<v
    ·rw [decide_eq_true (by omega)] at t6
     refine ⟨S3++[.lst []],S3.length,?_,g3.push _,g3.len,?_⟩
     ·rw [zef (by rw [zdt (by rw [zfg ta];exact t6)];exact zek (zgb (xs:=[]) (S1:=S3) rfl (by decide)))];rfl
     ·rw [pv,if_neg (by omega)];exact zdh _ _
    ·rw [decide_eq_false (by omega)] at t6
     refine ⟨S3++[.lst [.int (v:Int)]],S3.length,?_,g3.push _,g3.len,?_⟩
     ·rw [zbf (l':=[some (.str z),‹most›,some (.ref S1.length)]) (S':=S3) (by rw [zdy (by rw [zfg ta];exact t6)];rfl),zf9]
      exact zgb (zdf (iv S3)) (by simp)
     ·rw [pv,if_pos (by omega)];exact zdh _ _
noncomputable def vC:Option Cl->D
 | none=>.non
 | some c=>cD c
theorem zuw {z:Str}{S:Sto}(hz:z.length+2<=sizeLine):∃S',zhh [.str z] S=some (vC (zdd z),S')/\Gr S S':=by
 unfold zhh zs5
 rw [zeu (l:=[some (.str z),none,none]) rfl]
 have hs:zaj (zc7 zdx (eVar 0) (zaa (eC (.str "/")) zab)) (gName3 1) [some (.str z),none,none] S=some (.nx,[some (.str z),some (.ref S.length),none],S++[.lst ((Txt.split z "/").map D.str)]):=zdk (zl5 (zak rfl) zuh hz)
 rw [zbf hs]
 have g1:Gr S (S++[.lst ((Txt.split z "/").map D.str)]):=⟨_,rfl⟩
 have hl:lstOf (S++[.lst ((Txt.split z "/").map D.str)]) S.length=some ((Txt.split z "/").map D.str):=za1
 generalize S++[Ob.lst ((Txt.split z "/").map D.str)]=S1 at hl g1
 have t:tE (eOp dNe (zac za8 (zaa (eVar 1) (zab))) (eC (.int 2))) [some (.str z),some (.ref S.length),none] S1=some (!decide ((((Txt.split z "/").map D.str).length:Int)=2),S1):=ne_int (zi8 (zak rfl) hl) rfl
 have bad:∀ws:List Str,Txt.split z "/" = ws->ws.length≠2->zdd z=none->∀b:SM,∃S',((zag (sIf (tE (eOp dNe (zac za8 (zaa (eVar 1) (zab))) (eC (.int 2)))) (sRet (eC .non)) (zat)) b) [some (.str z),some (.ref S.length),none] S1).bind zet=some (vC (zdd z),S')/\Gr S S':=λws hw h2 hc b=>by
  rw [hw,qlm] at t
  have ht:(!decide (((ws.length:Nat):Int)=2))=true:=by rw [decide_eq_false (by omega)];rfl
  rw [ht] at t
  refine ⟨S1,?_,g1⟩
  rw [hc,zef (d:=.non) (by rw [zdt t];exact zek rfl)];rfl
 match hw:Txt.split z "/" with
 | []=>exact bad [] hw (by decide) (by unfold zdd;rw [hw]) _
 | [x]=>exact bad [x] hw (by simp) (by unfold zdd;rw [hw]) _
 | x :: y :: w :: r=>exact bad _ hw (by simp only [List.length_cons];omega) (by unfold zdd;rw [hw]) _
 | [x,y] =>
  rw [hw] at hl t
  have px:x.length<=z.length:=zhw (by rw [hw];exact List.mem_cons_self)
  have py:y.length<=z.length:=zhw (by rw [hw];exact List.mem_cons_of_mem _ List.mem_cons_self)
  have hl:lstOf S1 S.length=some [.str x,.str y]:=hl
  have t:tE (eOp dNe (zac za8 (zaa (eVar 1) (zab))) (eC (.int 2))) [some (.str z),some (.ref S.length),none] S1=some (false,S1):=t
  rw [zbf (l':=[some (.str z),some (.ref S.length),none]) (S':=S1) (by rw [zdy t];rfl)]
  obtain ⟨S2,r1,e2,g2,hr1,q2⟩:=zuv (z:=x) (most:=23) (S:=S1) (by decide) (by omega)
  obtain ⟨S3,r2,e3,g3,hr2,q3⟩:=zuv (z:=y) (most:=7) (S:=S2) (by decide) (by omega)
  have ea:zac zg1 (zaa (eOp zam (eVar 1) (eC (.int 0))) (zaa (eC (.int 23)) (zab))) [some (.str z),some (.ref S.length),none] S1=some (.ref r1,S2):=by
   have x0:zaa (eOp zam (eVar 1) (eC (.int 0))) (zaa (eC (.int 23)) (zab)) [some (.str z),some (.ref S.length),none] S1=some ([.str x,.int 23],S1):=zds (zi9 (j:=0) rfl hl rfl) rfl
   rw [zbl x0];exact e2
  have eb:zac zg1 (zaa (eOp zam (eVar 1) (eC (.int 1))) (zaa (eC (.int 7)) (zab))) [some (.str z),some (.ref S.length),none] S2=some (.ref r2,S3):=by
   have x1:zaa (eOp zam (eVar 1) (eC (.int 1))) (zaa (eC (.int 7)) (zab)) [some (.str z),some (.ref S.length),none] S2=some ([.str y,.int 7],S2):=zds (zi9 (j:=1) rfl (g2.lst hl) rfl) rfl
   rw [zbl x1];exact e3
  have hlen:(pl (zbi 24 x)).length<=1/\(pl (zbi 8 y)).length<=1:=by
   constructor
   ·cases zbi 24 x <;> simp [pl]
   ·cases zbi 8 y <;> simp [pl]
  obtain ⟨v,S',e4,rfl,rfl⟩:Wo (dPlusA (.ref r1) (.ref r2) S3) λv S'=>v=.ref S3.length/\S' = S3++[.lst (pl (zbi 24 x)++pl (zbi 8 y))]:=by
   rw [znw (g3.get q2) q3]
   exact ⟨ze8 (by show (pl (zbi 24 x)).length+(pl (zbi 8 y)).length<=_;omega),rfl,rfl⟩
  have s2:zaj (eOp dPlusA (zac zg1 (zaa (eOp zam (eVar 1) (eC (.int 0))) (zaa (eC (.int 23)) (zab)))) (zac zg1 (zaa (eOp zam (eVar 1) (eC (.int 1))) (zaa (eC (.int 7)) (zab))))) (gName3 2) [some (.str z),some (.ref S.length),none] S1=some (.nx,[some (.str z),some (.ref S.length),some (.ref S3.length)],S3++[.lst (pl (zbi 24 x)++pl (zbi 8 y))]):=zdk (by unfold eOp at *;rw [ea];simp only [Option.bind_some];rw [eb];exact e4)
  rw [zbf s2]
  have g4:Gr S (S3++[.lst (pl (zbi 24 x)++pl (zbi 8 y))]):=(g1.trans (g2.trans g3)).push _
  have hl4:lstOf (S3++[.lst (pl (zbi 24 x)++pl (zbi 8 y))]) S3.length=some (pl (zbi 24 x)++pl (zbi 8 y)):=za1
  generalize S3++[Ob.lst (pl (zbi 24 x)++pl (zbi 8 y))]=S4 at g4 hl4
  have t4:tE (eOp dNe (zac za8 (zaa (eVar 2) (zab))) (eC (.int 2))) [some (.str z),some (.ref S.length),some (.ref S3.length)] S4=some (!decide (((pl (zbi 24 x)++pl (zbi 8 y)).length:Int)=2),S4):=ne_int (zi8 (zak rfl) hl4) rfl
  have cT:zdd z=(zbi 24 x).bind λg=>(zbi 8 y).bind λs=>some (g,s):=by unfold zdd;rw [hw]
  rw [cT]
  cases h1:zbi 24 x with
  | none =>
   rw [h1] at t4
   have t4:tE (eOp dNe (zac za8 (zaa (eVar 2) (zab))) (eC (.int 2))) [some (.str z),some (.ref S.length),some (.ref S3.length)] S4=some (true,S4):=by
    rw [t4,decide_eq_false (by rw [h1] at hlen;show ¬((pl (zbi 8 y)).length:Int)=2;omega)];rfl
   exact ⟨S4,by rw [zef (d:=.non) (by rw [zdt t4];exact zek rfl)];rfl,g4⟩
  | some g =>
   cases h2:zbi 8 y with
   | none =>
    rw [h1,h2] at t4
    have t4:tE (eOp dNe (zac za8 (zaa (eVar 2) (zab))) (eC (.int 2))) [some (.str z),some (.ref S.length),some (.ref S3.length)] S4=some (true,S4):=t4
    exact ⟨S4,by rw [zef (d:=.non) (by rw [zdt t4];exact zek rfl)];rfl,g4⟩
   | some s =>
    rw [h1,h2] at t4 hl4
    have t4:tE (eOp dNe (zac za8 (zaa (eVar 2) (zab))) (eC (.int 2))) [some (.str z),some (.ref S.length),some (.ref S3.length)] S4=some (false,S4):=t4
    have hl4:lstOf S4 S3.length=some [oD g,oD s]:=hl4
    refine ⟨S4,?_,g4⟩
    rw [zbf (l':=[some (.str z),some (.ref S.length),some (.ref S3.length)]) (S':=S4) (by rw [zdy t4];rfl),zf9]
    have x2:zaa (eOp zam (eVar 2) (eC (.int 0))) (zaa (eOp zam (eVar 2) (eC (.int 1))) (zab)) [some (.str z),some (.ref S.length),some (.ref S3.length)] S4=some ([oD g,oD s],S4):=zds (zi9 (j:=0) rfl hl4 rfl) (zi9 (j:=1) rfl hl4 rfl)
    rw [zbl x2]
    show (if 2<=sizeLine then _ else _)=_
    rw [if_pos (by decide)];rfl
theorem zux {α β:Type}{F:α->Option β}{p:β->Bool}:∀xs:List α,zaz (λx=>(F x).bind λv=>if p v=true then some v else none) xs=(zaz F xs).bind λvs=>if vs.all p=true then some vs else none
 | []=>rfl
 | x :: xs=>by
  have ih:=zux (F:=F) (p:=p) xs
  show Option.bind ((F x).bind λv=>if p v=true then some v else none) (λv=>(zaz (λx=>(F x).bind λv=>if p v=true then some v else none) xs).bind λvs=>some (v :: vs))=Option.bind ((F x).bind λv=>(zaz F xs).bind λvs=>some (v :: vs)) _
  rw [ih]
  cases hx:F x with
  | none=>rfl
  | some v =>
   dsimp only [Option.bind_some]
   cases hp:p v with
   | false =>
    rw [if_neg (by decide)]
    cases hm:zaz F xs with
    | none=>rfl
    | some vs =>
     dsimp only [Option.bind_some,Option.bind_none]
     rw [List.all_cons,hp,Bool.false_and,if_neg (by decide)]
   | true =>
    rw [if_pos rfl]
    cases hm:zaz F xs with
    | none=>rfl
    | some vs =>
     dsimp only [Option.bind_some]
     rw [List.all_cons,hp,Bool.true_and]
     by_cases ha:vs.all p=true
     ·rw [if_pos ha,if_pos ha];rfl
     ·rw [if_neg ha,if_neg ha];rfl
theorem zon {α β:Type}{F:α->Option β}:∀xs ys:List α,zaz F (xs++ys)=(zaz F xs).bind λvs=>(zaz F ys).bind λws=>some (vs++ws)
 | [],ys=>by show zaz F ys=(zaz F ys).bind λws=>some ([]++ws);cases zaz F ys <;> rfl
 | x :: xs,ys=>by
  have ih:=zon (F:=F) xs ys
  show (F x).bind (λv=>(zaz F (xs++ys)).bind λvs=>some (v :: vs))=Option.bind ((F x).bind λv=>(zaz F xs).bind λvs=>some (v :: vs)) _
  rw [ih]
  cases F x with
  | none=>rfl
  | some v =>
   dsimp only [Option.bind_some]
   cases zaz F xs with
   | none=>rfl
   | some vs =>
    dsimp only [Option.bind_some]
    cases zaz F ys <;> rfl
theorem yfz (x y:Str):Txt.split x y≠[]:=by
 unfold Txt.split
 split
 ·simp
 ·split
  ·simp
  ·rw [StrLaws.partsBetween_eq]
   generalize Builtin.Str.occurrences _ _ _ _ _=cuts
   cases cuts <;> simp [StrLaws.partsFrom]
noncomputable def zfh (a:Nat) (w:Str):Option (List Cl):=(zd2 w).bind λcs=>if decide (cs.length=a)=true then some cs else none
theorem yf0 {a:Nat}{ws:List Str}(ha:1<=a) (hn:ws≠[]):((zaz zd2 ws).bind λrs=>if okM a rs=true then some (a,rs) else none)=(zaz (zfh a) ws).bind λrs=>if (rs.all λcs=>cs.all (gOk rs.length))=true/\rs.length<25 then some (a,rs) else none:=by
 have e:zaz (zfh a) ws=(zaz zd2 ws).bind λvs=>if (vs.all λcs=>decide (cs.length=a))=true then some vs else none:=zux (F:=zd2) (p:=λcs=>decide (cs.length=a)) ws
 rw [e]
 cases hm:zaz zd2 ws with
 | none=>rfl
 | some rs =>
  have hl:=zkl hm
  have h1:1<=rs.length:=by
   rw [hl];cases ws with
   | nil=>exact absurd rfl hn
   | cons=>simp
  dsimp only [Option.bind_some]
  have ho:okM a rs=true↔(rs.all λcs=>decide (cs.length=a))=true/\(rs.all λcs=>cs.all (gOk rs.length))=true/\rs.length<25:=by
   unfold okM rOk
   simp only [Bool.and_eq_true,List.all_eq_true,decide_eq_true_eq]
   constructor
   ·rintro ⟨⟨_,_,h24⟩,h⟩
    exact ⟨λcs hc=>(h cs hc).1,λcs hc=>(h cs hc).2,by omega⟩
   ·rintro ⟨h2,h3,h4⟩
    exact ⟨⟨ha,h1,by omega⟩,λcs hc=>⟨h2 cs hc,h3 cs hc⟩⟩
  by_cases c1:(rs.all λcs=>decide (cs.length=a))=true
  ·rw [if_pos c1]
   dsimp only [Option.bind_some]
   by_cases c2:(rs.all λcs=>cs.all (gOk rs.length))=true/\rs.length<25
   ·rw [if_pos c2,if_pos (ho.mpr ⟨c1,c2⟩)]
   ·rw [if_neg c2,if_neg (λw=>c2 (ho.mp w).2)]
  ·rw [if_neg c1,if_neg (λw=>c1 (ho.mp w).1)];rfl
theorem zme:(": ":Str).cps.toList=[58,32]:=by decide +kernel
theorem yf1 {z:Str}{c:Nat}{r:List Nat}(hL:z.cps.toList=c :: 58 :: 32 :: r) (h1:49<=c) (h2:c<=52):ze2 z=(zaz zd2 (Txt.split ⟨r.toArray⟩ " | ")).bind λrs=>if okM (c-48) rs=true then some (c-48,rs) else none:=by
 have e:z=⟨#[c]⟩++": "++⟨r.toArray⟩:=TX.str_ext (by
  rw [hL,Str.cps_append,Str.cps_append,Array.toList_append,Array.toList_append,zme];rfl)
 have hp:Txt.partition z ": " = (⟨#[c]⟩,(": ":Str),⟨r.toArray⟩):=by
  rw [e]
  refine TX.partn yet _ _ λhk=>?_
  have:58=c:=by simpa using hk
  omega
 have hn:zdr 5 ⟨#[c]⟩=some (c-48):=by
  rw [zol (by decide)]
  show (val [c]).bind _=_
  rw [zkn,if_pos (by unfold dgt;exact decide_eq_true ⟨by omega,by omega⟩)]
  show (if c-48<5 then some (c-48) else none)=_
  rw [if_pos (by omega)]
 unfold ze2
 rw [hp]
 dsimp only
 rw [hn];rfl
theorem yf2:zaz zd2 (Txt.split Str.empty " | ")=none:=by decide +kernel
theorem yf3 {z:Str}(h:∀c r,z.cps.toList=c :: 58 :: 32 :: r->¬(49<=c/\c<=52)):ze2 z=none:=by
 have hs:=StrLaws.partition_sum z ": "
 have hp:(Txt.partition z ": ").2.1 = ": "\/(Txt.partition z ": ").2.2=Str.empty:=by
  unfold Txt.partition
  split
  ·exact .inl rfl
  ·exact .inr rfl
 unfold ze2
 generalize Txt.partition z ": " = q at hs hp
 obtain ⟨u,s,r⟩:=q
 dsimp only at hs hp ⊢
 cases hn:zdr 5 u with
 | none=>rfl
 | some a =>
  obtain ⟨a5,hu⟩:=zi5 hn
  dsimp only [Option.bind_some]
  rcases hp with hp|hp
  ·subst hp
   have hc:u=⟨#[48+a]⟩:=by rw [hu];exact zus ⟨a,by omega⟩
   have hL:z.cps.toList=(48+a) :: 58 :: 32 :: r.cps.toList:=by
    rw [<-hs,hc,Str.cps_append,Str.cps_append,Array.toList_append,Array.toList_append,zme];rfl
   have:=h _ _ hL
   have a0:a=0:=by omega
   subst a0
   cases zaz zd2 (Txt.split r " | ") with
   | none=>rfl
   | some rs =>
    show (if okM 0 rs=true then some (0,rs) else none)=none
    have:okM 0 rs=false:=by unfold okM;rfl
    rw [this,if_neg (by decide)]
  ·rw [hp,yf2];rfl
theorem zko {α:Type}{S:Sto}{k:Nat}{f:α->D}{p:α->PyData}:∀xs:List α,(∀x∈xs,zax S k (f x)=some (p x))->pyAll S k (xs.map f)=some (xs.map p)
 | [],_=>by unfold pyAll;rfl
 | x :: xs,h=>by
  rw [List.map_cons,pyAll,h x List.mem_cons_self,zko xs λy hy=>h y (List.mem_cons_of_mem _ hy)];rfl
noncomputable def pO:Option Nat->PyData
 | none=>.none
 | some k=>.int (k:Int)
theorem zuy {S:Sto}{k:Nat}{g:Option Nat}(h:∀j,g=some j->j<1000):zax S (k+1) (oD g)=some (pO g):=by
 cases g with
 | none=>unfold oD zax;rfl
 | some j =>
  show zax S (k+1) (.int (j:Int))=some (.int (j:Int))
  unfold zax
  rw [if_pos (zgx (Nat.lt_trans (h j rfl) (by decide)))]
theorem zuz {α:Type}{p:α->PyData}:∀xs:List α,(∀x∈xs,(p x).canLay0=true)->PyData.canLayAll0 (xs.map p)=true
 | [],_=>by unfold PyData.canLayAll0;rfl
 | x :: xs,h=>by
  rw [List.map_cons,PyData.canLayAll0,h x List.mem_cons_self,zuz xs λy hy=>h y (List.mem_cons_of_mem _ hy)];rfl
theorem zu0 (g:Option Nat):(pO g).canLay0=true:=by
 cases g <;> (unfold pO PyData.canLay0;rfl)
noncomputable def pC (c:Cl):PyData:=.tuple [pO c.1,pO c.2]
theorem zoo {S:Sto}{k:Nat}{c:Cl}(h:OkC 24 c):zax S (k+2) (cD c)=some (pC c):=by
 unfold cD
 rw [zax,pyAll,zuy (λj e=>Nat.lt_trans (h.1 j e) (by decide))]
 simp only [Option.bind_some]
 rw [pyAll,zuy (λj e=>Nat.lt_trans (h.2 j e) (by decide))]
 simp only [Option.bind_some]
 rw [pyAll];rfl
theorem yf4 (c:Cl):(pC c).canLay0=true:=by
 unfold pC PyData.canLay0
 rw [PyData.canLayAll0,zu0,PyData.canLayAll0,zu0,PyData.canLayAll0];rfl
noncomputable def pVc:Option Cl->PyData
 | some c=>pC c
 | none=>.none
theorem yf5 (r:Option Cl):(pVc r).eqv .none=r.isNone:=by
 cases r with
 | none=>decide
 | some r=>unfold pVc pC;rfl
theorem yf6 {S:Sto}{n:Nat}{rs:List (Option Cl)}(h:lstOf S n=some (rs.map vC)) (sm:∀r∈rs,∀q,r=some q->OkC 24 q):zic false .non (.ref n) S=some (.bl (rs.any Option.isNone),S):=by
 have h1:pyAll S 60 (rs.map vC)=some (rs.map pVc):=zko rs λr hr=>by
  cases r with
  | none=>unfold vC zax;rfl
  | some q=>exact zoo (k:=58) (sm _ hr q rfl)
 have h2:PyData.canLayAll0 (rs.map pVc)=true:=zuz rs λr _=>by
  cases r with
  | none=>unfold pVc PyData.canLay0;rfl
  | some q=>exact yf4 q
 have h3:zax S 60 .non=some .none:=by unfold zax;rfl
 show (lstOf S n).bind _=_
 rw [h]
 simp only [Option.bind_some,h3,h1,h2]
 rw [if_pos ⟨by unfold PyData.canLay0;rfl,trivial⟩]
 have h4:(rs.map pVc).any (λq=>q.eqv .none)=rs.any Option.isNone:=by
  rw [List.any_map]
  congr 1
  funext r
  exact yf5 r
 rw [h4];rfl
theorem zu1 {α β:Type}(F:α->Option β):∀ys:List α,(ys.map F).any Option.isNone=(zaz F ys).isNone
 | []=>rfl
 | y :: ys=>by
  rw [List.map_cons,List.any_cons,zu1 F ys]
  show ((F y).isNone || (zaz F ys).isNone)=((F y).bind λv=>(zaz F ys).bind λvs=>some (v :: vs)).isNone
  cases F y with
  | none=>rfl
  | some v=>cases zaz F ys <;> rfl
theorem zu2 {α β:Type}{F:α->Option β}:∀{ys:List α}{vs:List β},zaz F ys=some vs->ys.map F=vs.map some
 | [],vs,h=>by cases h;rfl
 | y :: ys,vs,h=>by
  obtain ⟨w,h1,h⟩:=bnd h
  obtain ⟨ws,h2,h⟩:=bnd h
  cases h
  rw [List.map_cons,List.map_cons,h1,zu2 h2]
noncomputable def zop:EM:=zbv (zdj (zc7 zdx (eVar 2) (zaa (eC (.str " ")) zab))) [none] (gName3 0) (zbc) (zac zhh (zaa (eVar 0) (zab)))
theorem yf7 {l:Lo}{w:Str}{S:Sto}(hl:l[2]? = some (some (.str w))) (hz:w.length+4<=sizeLine):We zop l S λv S'=>∃S1,Gr S S1/\v=.ref S1.length/\S' = S1++[.lst ((Txt.split w " ").map λu=>vC (zdd u))]:=by
 have hc:=zkk w " "
 have g0:Gr S (S++[.lst ((Txt.split w " ").map D.str)]):=⟨_,rfl⟩
 refine zie (Txt.split w " ") D.str (λu=>vC (zdd u)) (λS'=>Gr (S++[.lst ((Txt.split w " ").map D.str)]) S') (λl=>∃y,l=[y]) (zoi (e:=eVar 2) (x:=w) (zak hl) zum (by omega)) (Gr.refl _) ⟨_,rfl⟩ (λi S g=>zlv (g.lst za1)) (by omega) ?_ ?_
 ·rintro u l S' hu ⟨y,rfl⟩ g
  have:=zhw hu
  simp only [zav,qs0]
  refine ⟨⟨_,rfl⟩,?_⟩
  obtain ⟨S2,e2,g2⟩:=zuw (z:=u) (S:=S') (by omega)
  exact ⟨_,S2,by rw [zbl (zdf (zak rfl))];exact e2,rfl,g.trans g2⟩
 ·intro S' g
  exact ⟨S',g0.trans g,rfl,rfl⟩
noncomputable def zkp:SM:=zag (zaj zop (gName3 3)) (zag (sIf (zdu (tE (eOp (zic false) (eC .non) (eVar 3))) (tE (eOp dNe (zac za8 (zaa (eVar 3) (zab))) (zac zdv (zaa (eOp zam (eVar 0) (eC (.int 0))) (zab)))))) (sRet (eC .non)) (zat)) (zdz (zfr zfq (eVar 1) (zaa (zac zdb (zaa (eVar 3) (zab))) zab))))
theorem zoq {t u:TM}{l:Lo}{S S':Sto}(h:t l S=some (false,S')):zdu t u l S=u l S':=by unfold zdu;rw [h];rfl
theorem yf8 {z w:Str}{c m:Nat}{rs:List (List Cl)}{y3:Option D}{S:Sto}(hz:z.length+10<=sizeLine) (hw:w.length<=z.length) (h0:z.cps.toList[0]? = some c) (hc1:49<=c) (hc2:c<=52) (hm:S[m]? = some (.lst (rs.map rD))) (hrs:rs.length<sizeLine) :
  match zfh (c-48) w with
  | some cs=>∃S1 q,zkp [some (.str z),~~~m,some (.str w),y3] S=some (.nx,[some (.str z),~~~m,some (.str w),~~~q],S1.set m (.lst ((rs++[cs]).map rD)))/\Gr S S1
  | none=>∃S1 q,zkp [some (.str z),~~~m,some (.str w),y3] S=some (.rt .non,[some (.str z),~~~m,some (.str w),~~~q],S1)/\Gr S S1:=by
 obtain ⟨v,S',ec,S1,g1,rfl,rfl⟩:=yf7 (l:=[some (.str z),~~~m,some (.str w),y3]) (w:=w) (S:=S) rfl (by omega)
 have s1:zaj zop (gName3 3) [some (.str z),~~~m,some (.str w),y3] S=some (.nx,[some (.str z),~~~m,some (.str w),some (.ref S1.length)],S1++[.lst ((Txt.split w " ").map λu=>vC (zdd u))]):=zdk ec
 have g2:Gr S (S1++[.lst ((Txt.split w " ").map λu=>vC (zdd u))]):=g1.push _
 have hl:lstOf (S1++[.lst ((Txt.split w " ").map λu=>vC (zdd u))]) S1.length=some (((Txt.split w " ").map zdd).map vC):=by rw [List.map_map];exact za1
 unfold zkp
 rw [zbf s1]
 generalize S1++[Ob.lst ((Txt.split w " ").map λu=>vC (zdd u))]=S2 at g2 hl
 have t1:tE (eOp (zic false) (eC .non) (eVar 3)) [some (.str z),~~~m,some (.str w),some (.ref S1.length)] S2=some ((zd2 w).isNone,S2):=by
  have:=yf6 hl (λr hr q e=>by
   obtain ⟨u,_,e2⟩:=List.mem_map.mp hr
   exact zof (e2.trans e))
  rw [zu1] at this
  have e3:eC .non [some (.str z),~~~m,some (.str w),some (.ref S1.length)] S2=some (.non,S2):=rfl
  have e4:eVar 3 [some (.str z),~~~m,some (.str w),some (.ref S1.length)] S2=some (.ref S1.length,S2):=zak rfl
  unfold tE eOp
  rw [e3]
  simp only [Option.bind_some,e4,this]
  rfl
 have ze:eOp zam (eVar 0) (eC (.int 0)) [some (.str z),~~~m,some (.str w),some (.ref S1.length)] S2=some (.str ⟨#[c]⟩,S2):=ix_str (zak rfl) h0 (by omega)
 have hi:intText? ⟨#[c]⟩=some (((c-48:Nat)):Int):=by
  have:=zmc ⟨c-48,by omega⟩
  have e:48+(c-48)=c:=by omega
  have this:intText? ⟨#[48+(c-48)]⟩=some (((c-48:Nat)):Int):=this
  rw [e] at this;exact this
 have ie:zac zdv (zaa (eOp zam (eVar 0) (eC (.int 0))) (zab)) [some (.str z),~~~m,some (.str w),some (.ref S1.length)] S2=some (.int ((c-48:Nat):Int),S2):=zmd ze hi (by show 1<=640;decide)
 have t2:tE (eOp dNe (zac za8 (zaa (eVar 3) (zab))) (zac zdv (zaa (eOp zam (eVar 0) (eC (.int 0))) (zab)))) [some (.str z),~~~m,some (.str w),some (.ref S1.length)] S2=some (!decide (((((Txt.split w " ").map zdd).map vC).length:Int)=((c-48:Nat):Int)),S2):=ne_int (zi8 (zak rfl) hl) ie
 unfold zfh
 cases hr:zd2 w with
 | none =>
  rw [hr] at t1
  refine ⟨S2,S1.length,?_,g2⟩
  rw [zef (by rw [zdt (zhj t1)];exact zek rfl)]
 | some cs =>
  rw [hr] at t1
  have hcs:(Txt.split w " ").map zdd=cs.map some:=zu2 hr
  rw [hcs,List.map_map] at t2 hl
  have hl:lstOf S2 S1.length=some (cs.map cD):=hl
  rw [qlm] at t2
  dsimp only [Option.bind_some]
  by_cases h:cs.length=c-48
  ·rw [if_pos (decide_eq_true h)]
   rw [decide_eq_true (by omega)] at t2
   have hm2:=g2.get hm
   refine ⟨S2,S1.length,?_,g2⟩
   rw [zbf (l':=[some (.str z),~~~m,some (.str w),some (.ref S1.length)]) (S':=S2) (by rw [zdy (by rw [zoq t1];exact t2)];rfl)]
   obtain ⟨v,S',e,rfl,rfl⟩:Wo (zfq (.ref m) [rD cs] S2) λv S'=>v=.non/\S' = S2.set m (.lst (rs.map rD++[rD cs])):=by
    rw [znf];exact ⟨_,hm2,by rw [qlm];exact hrs,rfl,rfl⟩
   have et:zac zdb (zaa (eVar 3) (zab)) [some (.str z),~~~m,some (.str w),some (.ref S1.length)] S2=some (rD cs,S2):=by
    rw [zbl (zdf (zak rfl))]
    show (lstOf S2 S1.length).bind _=_
    rw [hl];rfl
   have em:zfr zfq (eVar 1) (zaa (zac zdb (zaa (eVar 3) (zab))) zab) [some (.str z),~~~m,some (.str w),some (.ref S1.length)] S2=some (.non,S2.set m (.lst (rs.map rD++[rD cs]))):=by
    unfold zfr
    rw [zak rfl]
    show Option.bind (zhl (.ref m) S2) _=_
    rw [show zhl (.ref m) S2=some (rs.map rD) from zei hm2]
    show Option.bind (zaa (zac zdb (zaa (eVar 3) (zab))) zab _ S2) _=_
    rw [zdf et]
    exact e
   rw [zl3 em,List.map_append];rfl
  ·rw [if_neg (λw=>h (of_decide_eq_true w))]
   rw [decide_eq_false (by omega)] at t2
   refine ⟨S2,S1.length,?_,g2⟩
   rw [zef (by rw [zdt (by rw [zoq t1];exact t2)];exact zek rfl)]
theorem yf9 {z:Str}{c nW:Nat}{ws:List Str}{e:EM}{S0 S S2:Sto}{m:Nat}(hz:z.length+10<=sizeLine) (hws:∀w∈ws,w.length<=z.length) (hlw:ws.length<sizeLine) (h0:z.cps.toList[0]? = some c) (hc1:49<=c) (hc2:c<=52) (he:e [some (.str z),~~~m,none,none] S=some (.ref nW,S2)) (g0:Gr S0 S2) (hm0:S0.length<=m) (hmn:m≠nW) (hn:S2[nW]? = some (.lst (ws.map D.str))) (hm:S2[m]? = some (.lst [])) :
  Ws (zf2 e (gName3 2) zkp) [some (.str z),~~~m,none,none] S λf l S'=>Gr S0 S'/\match zaz (zfh (c-48)) ws with
   | some rs=>f=.nx/\S'[m]? = some (.lst (rs.map rD))/\∃y2 y3,l=[some (.str z),~~~m,y2,y3]
   | none=>f=.rt .non:=by
 refine zss (n:=nW) (ws.map D.str) (λi l S'=>Gr S0 S'/\S'[nW]? = some (.lst (ws.map D.str))/\∃rs,zaz (zfh (c-48)) (ws.take i)=some rs/\S'[m]? = some (.lst (rs.map rD))/\∃y2 y3,l=[some (.str z),~~~m,y2,y3]) (λd S'=>d=.non/\Gr S0 S'/\zaz (zfh (c-48)) ws=none) he ⟨g0,hn,[],rfl,hm,_,_,rfl⟩ (λi l S' q=>zei q.2.1) ?_ ?_ ?_
 ·rintro i x l S1 hx ⟨g1,h1,rs,hrs,hm1,y2,y3,rfl⟩
  rw [qgm] at hx
  obtain ⟨w,hw,rfl⟩:=Option.map_eq_some_iff.mp hx
  have hi:i<ws.length:=(qme hw).1
  have hlen:=zkl hrs
  rw [List.length_take] at hlen
  rw [zav]
  have key:=yf8 (z:=z) (w:=w) (c:=c) (m:=m) (rs:=rs) (y3:=y3) (S:=S1) hz (hws w (qmg hw)) h0 hc1 hc2 hm1 (by omega)
  have hsplit:ws=ws.take i++w :: ws.drop (i+1):=by
   have e1:=List.take_append_drop i ws
   rw [List.drop_eq_getElem_cons hi] at e1
   have e2:ws[i]=w:=by
    rw [qge hi] at hw;exact qoi hw
   rw [e2] at e1;exact e1.symm
  cases hF:zfh (c-48) w with
  | none =>
   rw [hF] at key
   obtain ⟨S3,q,e3,g3⟩:=key
   refine ⟨_,_,_,e3,.inr ⟨_,rfl,rfl,g1.trans g3,?_⟩⟩
   rw [hsplit,zon,hrs]
   show (Option.bind ((zfh (c-48) w).bind λv=>(zaz (zfh (c-48)) (ws.drop (i+1))).bind λvs=>some (v :: vs)) _)=none
   rw [hF];rfl
  | some cs =>
   rw [hF] at key
   obtain ⟨S3,q,e3,g3⟩:=key
   refine ⟨_,_,_,e3,.inl ⟨.inl rfl,(g1.trans g3).set hm0 _,?_,rs++[cs],?_,?_,_,_,rfl⟩⟩
   ·rw [List.getElem?_set_ne hmn];exact g3.get h1
   ·rw [List.take_add_one,hw]
    show zaz (zfh (c-48)) (ws.take i++[w])=_
    rw [zon,hrs]
    show (Option.bind ((zfh (c-48) w).bind λv=>some [v]) λus=>some (rs++us))=_
    rw [hF];rfl
   ·exact zi3 (g3.get hm1)
 ·rintro l S1 ⟨g1,h1,rs,hrs,hm1,y2,y3,rfl⟩
  rw [qlm,List.take_length] at hrs
  rw [hrs]
  exact ⟨g1,rfl,hm1,y2,y3,rfl⟩
 ·rintro d l S1 ⟨rfl,g1,hn⟩
  rw [hn]
  exact ⟨g1,rfl⟩
noncomputable def zg2 (n:Nat):D->Option D
 | .tup [.int g,_]=>if (n:Int)<=g then some (.int g) else none
 | _=>none
theorem zu3 (n:Nat):∀cs:List Cl,((cs.map cD).filterMap (zg2 n)).isEmpty=cs.all (gOk n)
 | []=>rfl
 | c :: cs=>by
  have ih:=zu3 n cs
  rw [List.map_cons,List.all_cons,<-ih]
  obtain ⟨g,s⟩:=c
  cases g with
  | none =>
   rw [List.filterMap_cons_none (by rfl)];rfl
  | some k =>
   by_cases h:n<=k
   ·have e:zg2 n (cD (some k,s))=some (.int (k:Int)):=by
     show (if (n:Int)<=(k:Int) then _ else _)=_
     rw [if_pos (by omega)]
    rw [List.filterMap_cons_some e]
    have:gOk n (some k,s)=false:=by show decide (k<n)=false;exact decide_eq_false (by omega)
    rw [this];rfl
   ·have e:zg2 n (cD (some k,s))=none:=by
     show (if (n:Int)<=(k:Int) then _ else _)=_
     rw [if_neg (by omega)]
    rw [List.filterMap_cons_none e]
    have:gOk n (some k,s)=true:=by show decide (k<n)=true;exact decide_eq_true (by omega)
    rw [this];rfl
noncomputable def zmf:EM:=zbv (zdj (eVar 3)) [none,none,some 1] (zgv 2 (zd3 (gName3 0) (zd3 (gName3 1) (zgu)))) (zfb (tE (eOp zim (eVar 0) (eC .non))) (tE (eOp dGe (eVar 0) (zac za8 (zaa (eVar 2) (zab)))))) (eVar 0)
theorem yga {z:Str}{m:Nat}{y2:Option D}{cs:List Cl}{rs:List (List Cl)}{S:Sto}(hm:S[m]? = some (.lst (rs.map rD))) (hl:cs.length<=sizeLine):∃S',tE (eOp zew zmf (zac za6 (zab))) [some (.str z),~~~m,y2,some (rD cs)] S=some (!cs.all (gOk rs.length),S')/\Gr S S':=by
 have key:We zmf [some (.str z),~~~m,y2,some (rD cs)] S λv S'=>v=.ref S.length/\S' = S++[.lst ((cs.map cD).filterMap (zg2 rs.length))]:=by
  refine znu (cs.map cD) (zg2 rs.length) (λS'=>S' = S) (λl=>∃y0 y1,l=[y0,y1,~~~m]) (zix (xs:=cs.map cD) rfl) rfl ⟨_,_,rfl⟩ (λi S _=>rfl) (by rw [qlm];exact hl) ?_ ?_
  ·rintro x l S' hx ⟨y0,y1,rfl⟩ rfl
   obtain ⟨⟨g,s⟩,hc,rfl⟩:=List.mem_map.mp hx
   simp only [cD,zce,zcg,zcf,zav,qs0,qs1,List.length_cons,List.length_nil,Nat.reduceAdd,true_and]
   refine ⟨⟨_,_,rfl⟩,?_⟩
   cases g with
   | none =>
    simp only [zbe,zbm,zbd,zbj,za0,zcq,zaq,zay,za7,zbs,zb4,zbk,zav,zch,zce,zcf,zcg,zau,zb3,zbx,zar,zap,zcd,zcr,zcs,zct,zcu,zcv,zbq,zb5,zcc,zc1,zci,zcj,zbw,zbh,zb9,zck,zcl,zcn,zb1,zc2,zby,zbr,zb6,zbz,zc3,zc4,zcw,zcx,zb2,zca,zc5,zcb,List.map_cons,List.map_nil,List.length_cons,List.length_nil,Nat.reduceAdd,Nat.reduceSub,List.replicate,List.cons_append,List.nil_append,qg0,qg1,qs0,qs1,zas,za5,zbg,zcm,zcz,zc0,zb7,zb8,za1,decide_eq_true_eq,oD,zel,Bool.not_true,qbf,if_false]
    refine ⟨nofun,λ_=>rfl,λh=>?_⟩
    cases h
   | some k =>
    simp only [zbe,zbm,zbd,zbj,za0,zcq,zaq,zay,za7,zbs,zb4,zbk,zav,zch,zce,zcf,zcg,zau,zb3,zbx,zar,zap,zcd,zcr,zcs,zct,zcu,zcv,zbq,zb5,zcc,zc1,zci,zcj,zbw,zbh,zb9,zck,zcl,zcn,zb1,zc2,zby,zbr,zb6,zbz,zc3,zc4,zcw,zcx,zb2,zca,zc5,zcb,List.map_cons,List.map_nil,List.length_cons,List.length_nil,Nat.reduceAdd,Nat.reduceSub,List.replicate,List.cons_append,List.nil_append,qg0,qg1,qs0,qs1,zas,za5,zbg,zcm,zcz,zc0,zb7,zb8,za1,decide_eq_true_eq,oD,zel,Bool.not_false,if_true,zei hm,qlm]
    by_cases h:(rs.length:Int)<=(k:Int)
    ·refine ⟨nofun,λw=>?_,λ_=>?_⟩
     ·rw [decide_eq_true (show (k:Int) ≥ (rs.length:Int) from h)] at w;cases w
     ·show (if (rs.length:Int)<=(k:Int) then _ else _)=_/\_
      rw [if_pos h];exact ⟨rfl,nofun⟩
    ·refine ⟨nofun,λ_=>?_,λw=>?_⟩
     ·show (if (rs.length:Int)<=(k:Int) then _ else _)=_
      rw [if_neg h]
     ·first|exact absurd w h|(rw [decide_eq_false (show ¬(k:Int) ≥ (rs.length:Int) from h)] at w;cases w)
  ·rintro S' rfl
   exact ⟨rfl,rfl⟩
 obtain ⟨v,S',e,rfl,rfl⟩:=key
 have hx:(S++[Ob.lst ((cs.map cD).filterMap (zg2 rs.length))])[S.length]? = some (.lst ((cs.map cD).filterMap (zg2 rs.length))):=zdh _ _
 have g:Gr S (S++[.lst ((cs.map cD).filterMap (zg2 rs.length))]):=⟨_,rfl⟩
 generalize S++[Ob.lst ((cs.map cD).filterMap (zg2 rs.length))]=S1 at e hx g
 obtain ⟨v,S',e2,rfl,rfl⟩:Wo (zew (.ref S.length) (.ref S1.length) (S1++[.lst []])) λv S'=>v=.bl (!((cs.map cD).filterMap (zg2 rs.length)).isEmpty)/\S' = S1++[.lst []]:=by rw [znr (Gr.get ⟨_,rfl⟩ hx) (zdh _ _)];exact ⟨rfl,rfl⟩
 refine ⟨S1++[.lst []],?_,g.push _⟩
 unfold tE eOp
 rw [e]
 simp only [Option.bind_some]
 rw [zgb (xs:=[]) (S1:=S1) rfl (by simp)]
 simp only [Option.bind_some]
 rw [e2,zu3];rfl
theorem ygb {z:Str}{m:Nat}{rs:List (List Cl)}{y2 y3:Option D}{S0 S:Sto}(g0:Gr S0 S) (hm:S[m]? = some (.lst (rs.map rD))) (hl:∀cs∈rs,cs.length<=sizeLine) :
  Ws (zf2 (eVar 1) (gName3 3) (sIf (tE (eOp zew zmf (zac za6 (zab)))) (sRet (eC .non)) (zat))) [some (.str z),~~~m,y2,y3] S λf l S'=>Gr S0 S'/\if (rs.all λcs=>cs.all (gOk rs.length))=true then f=.nx/\S'[m]? = some (.lst (rs.map rD))/\∃y3,l=[some (.str z),~~~m,y2,y3] else f=.rt .non:=by
 refine zss (n:=m) (rs.map rD) (λi l S'=>Gr S0 S'/\S'[m]? = some (.lst (rs.map rD))/\((rs.take i).all λcs=>cs.all (gOk rs.length))=true/\∃y3,l=[some (.str z),~~~m,y2,y3]) (λd S'=>d=.non/\Gr S0 S'/\¬(rs.all λcs=>cs.all (gOk rs.length))=true) rfl ⟨g0,hm,rfl,_,rfl⟩ (λi l S' q=>zei q.2.1) ?_ ?_ ?_
 ·rintro i x l S1 hx ⟨g1,h1,ha,y3,rfl⟩
  rw [qgm] at hx
  obtain ⟨cs,hcs,rfl⟩:=Option.map_eq_some_iff.mp hx
  have hmem:=qmg hcs
  simp only [zav,qs0,qs1]
  obtain ⟨S2,e2,g2⟩:=yga (z:=z) (m:=m) (y2:=y2) (cs:=cs) (rs:=rs) (S:=S1) h1 (hl cs hmem)
  cases hb:cs.all (gOk rs.length) with
  | false =>
   rw [hb] at e2
   refine ⟨.rt .non,_,S2,by rw [zdt e2];exact zek rfl,.inr ⟨_,rfl,rfl,g1.trans g2,λw=>?_⟩⟩
   have:=List.all_eq_true.mp w cs hmem
   rw [hb] at this;cases this
  | true =>
   rw [hb] at e2
   refine ⟨.nx,_,S2,by rw [zdy e2];rfl,.inl ⟨.inl rfl,g1.trans g2,g2.get h1,?_,_,rfl⟩⟩
   rw [List.take_add_one,hcs]
   show ((rs.take i++[cs]).all λcs=>cs.all (gOk rs.length))=true
   rw [List.all_append,ha]
   simp [hb]
 ·rintro l S1 ⟨g1,h1,ha,y3,rfl⟩
  rw [qlm,List.take_length] at ha
  rw [if_pos ha]
  exact ⟨g1,rfl,h1,y3,rfl⟩
 ·rintro d l S1 ⟨rfl,g1,ha⟩
  rw [if_neg ha]
  exact ⟨g1,rfl⟩
theorem zkq {e:EM}{lo hi:OM}{l:Lo}{S:Sto}{z:Str}{a b:Option Int}(he:e l S=some (.str z,S)) (hl:lo l S=some (a,S)) (hh:hi l S=some (b,S)) (hz:z.length<=sizeLine):zbu e lo hi l S=some (.str (Txt.slice z a b),S):=by
 unfold zbu
 rw [he]
 simp only [Option.bind_some,hl,hh,hz,if_true]
theorem zhx {e:EM}{l:Lo}{S:Sto}{i:Int}(he:e l S=some (.int i,S)):zbb e l S=some (some i,S):=by
 unfold zbb;rw [he];rfl
theorem ygc (x:Str) (l u:Option Int):(Txt.slice x l u).length<=(PySem.Builtin.Str.strSliceIndices l u 1 x.length).length:=by
 unfold Txt.slice
 split
 ·rename_i h
  have h:((PySem.Builtin.Str.strSliceIndices l u 1 x.length).length == x.length)=true:=h
  rw [beq_iff_eq.mp h];exact qlr _
 ·show (List.filterMap _ _).toArray.size<=_
  rw [List.size_toArray]
  exact List.length_filterMap_le _ _
theorem zor {z:Str}(h:z.length<3):¬Txt.slice z (some 1) (some 3) = ": ":=λe=>by
 have h1:=ygc z (some 1) (some 3)
 rw [e] at h1
 have h2:(": ":Str).length=2:=by decide +kernel
 have h3:∀n:Fin 3,(PySem.Builtin.Str.strSliceIndices (some 1) (some 3) 1 n.val).length<2:=by decide +kernel
 have h4:(PySem.Builtin.Str.strSliceIndices (some 1) (some 3) 1 z.length).length<2:=h3 ⟨z.length,h⟩
 rw [h2] at h1
 omega
theorem ygd {z:Str}{c d e:Nat}{r:List Nat}(h:z.cps.toList=c :: d :: e :: r):Txt.slice z none (some 1)=⟨#[c]⟩/\Txt.slice z (some 1) (some 3)=⟨#[d,e]⟩/\Txt.slice z (some 3) none=⟨r.toArray⟩:=by
 have hl:(z.cps.toList.length:Int)=(r.length:Int)+3:=by rw [h];simp only [List.length_cons];omega
 refine ⟨?_,?_,?_⟩
 ·have:=StrLaws.sliceText_to (x:=z) (j:=1) ⟨by decide,by omega⟩
  show StrLaws.sliceText z none (some 1)=_
  rw [this,h];rfl
 ·have:=StrLaws.sliceText_plain (x:=z) (i:=1) (j:=3) ⟨by decide,by decide,by omega⟩
  show StrLaws.sliceText z (some 1) (some 3)=_
  rw [this,h];rfl
 ·have:=StrLaws.sliceText_from (x:=z) (i:=3) ⟨by decide,by omega⟩
  show StrLaws.sliceText z (some 3) none=_
  rw [this]
  refine TX.str_ext ?_
  show ((z.cps.toList.drop 3).take _)=r
  rw [h]
  show r.take _=r
  refine List.take_of_length_le ?_
  simp only [List.length_cons]
  omega
theorem yge (x:Str) (S:Sto):dIn true (.str x) (.tup [.str "1",.str "2",.str "3",.str "4"]) S=some (.bl (!(["1","2","3","4"]:List Str).any (· == x)),S):=rfl
theorem ygf (c:Nat):((["1","2","3","4"]:List Str).any (· == ⟨#[c]⟩))=decide (49<=c/\c<=52):=by
 have e:(["1","2","3","4"]:List Str)=[⟨#[49]⟩,⟨#[50]⟩,⟨#[51]⟩,⟨#[52]⟩]:=by decide +kernel
 have q:∀a:Nat,((⟨#[a]⟩:Str) == ⟨#[c]⟩)=decide (a=c):=λa=>by
  by_cases h:a=c
  ·subst h;simp
  ·rw [decide_eq_false h]
   have:¬(⟨#[a]⟩:Str)=⟨#[c]⟩:=λw=>h (by injection w with w;simpa using w)
   simpa using this
 rw [e]
 simp only [List.any_cons,List.any_nil,q,Bool.or_false]
 by_cases h:49<=c/\c<=52
 ·rw [decide_eq_true h]
  have:c=49\/c=50\/c=51\/c=52:=by omega
  rcases this with rfl|rfl|rfl|rfl <;> rfl
 ·rw [decide_eq_false h,decide_eq_false (by omega),decide_eq_false (by omega),decide_eq_false (by omega),decide_eq_false (by omega)];rfl
noncomputable def zmg:TM:=zdu (tE (eOp (dIn true) (zbu (eVar 0) (zda) (zbb (eC (.int 1)))) (zac zbo (zaa (eC (.str "1")) (zaa (eC (.str "2")) (zaa (eC (.str "3")) (zaa (eC (.str "4")) (zab)))))))) (tE (eOp dNe (zbu (eVar 0) (zbb (eC (.int 1))) (zbb (eC (.int 3)))) (eC (.str ": "))))
theorem ygg {z:Str}{S:Sto}(hz:z.length<=sizeLine):tE (eOp (dIn true) (zbu (eVar 0) (zda) (zbb (eC (.int 1)))) (zac zbo (zaa (eC (.str "1")) (zaa (eC (.str "2")) (zaa (eC (.str "3")) (zaa (eC (.str "4")) (zab))))))) [some (.str z),none,none,none] S=some (!(["1","2","3","4"]:List Str).any (· == Txt.slice z none (some 1)),S):=by
 have e1:zbu (eVar 0) (zda) (zbb (eC (.int 1))) [some (.str z),none,none,none] S=some (.str (Txt.slice z none (some 1)),S):=zkq (zak rfl) rfl (zhx rfl) hz
 have e2:zac zbo (zaa (eC (.str "1")) (zaa (eC (.str "2")) (zaa (eC (.str "3")) (zaa (eC (.str "4")) (zab))))) [some (.str z),none,none,none] S=some (.tup [.str "1",.str "2",.str "3",.str "4"],S):=by
  show (if 4<=sizeLine then some (D.tup [.str "1",.str "2",.str "3",.str "4"],S) else none)=_
  rw [if_pos (by decide)]
 unfold tE eOp
 rw [e1]
 simp only [Option.bind_some,e2,yge]
theorem ygh {z:Str}{S:Sto}(hz:z.length<=sizeLine):tE (eOp dNe (zbu (eVar 0) (zbb (eC (.int 1))) (zbb (eC (.int 3)))) (eC (.str ": "))) [some (.str z),none,none,none] S=some (!decide (Txt.slice z (some 1) (some 3) = ": "),S):=by
 have e1:zbu (eVar 0) (zbb (eC (.int 1))) (zbb (eC (.int 3))) [some (.str z),none,none,none] S=some (.str (Txt.slice z (some 1) (some 3)),S):=zkq (zak rfl) (zhx rfl) (zhx rfl) hz
 unfold tE eOp
 rw [e1];rfl
theorem ygi {z:Str}{S:Sto}(hz:z.length<=sizeLine):(∃c r,z.cps.toList=c :: 58 :: 32 :: r/\49<=c/\c<=52/\Txt.slice z (some 3) none=⟨r.toArray⟩/\zmg [some (.str z),none,none,none] S=some (false,S))\/((∀c r,z.cps.toList=c :: 58 :: 32 :: r->¬(49<=c/\c<=52))/\zmg [some (.str z),none,none,none] S=some (true,S)):=by
 have ta:=ygg (z:=z) (S:=S) hz
 have tb:=ygh (z:=z) (S:=S) hz
 have ln:=TX.len_eq z
 unfold zmg
 match hL:z.cps.toList with
 | [] =>
  refine .inr ⟨(λc r h=>by cases h),?_⟩
  rw [hL] at ln
  rw [decide_eq_false (zor (by rw [ln];simp))] at tb
  cases hb:(["1","2","3","4"]:List Str).any (· == Txt.slice z none (some 1)) with
  | true=>rw [hb] at ta;rw [zfg ta];exact tb
  | false=>rw [hb] at ta;exact zhj ta
 | [a] =>
  refine .inr ⟨(λc r h=>by cases h),?_⟩
  rw [hL] at ln
  rw [decide_eq_false (zor (by rw [ln];simp))] at tb
  cases hb:(["1","2","3","4"]:List Str).any (· == Txt.slice z none (some 1)) with
  | true=>rw [hb] at ta;rw [zfg ta];exact tb
  | false=>rw [hb] at ta;exact zhj ta
 | [a,b] =>
  refine .inr ⟨(λc r h=>by cases h),?_⟩
  rw [hL] at ln
  rw [decide_eq_false (zor (by rw [ln];simp))] at tb
  cases hb:(["1","2","3","4"]:List Str).any (· == Txt.slice z none (some 1)) with
  | true=>rw [hb] at ta;rw [zfg ta];exact tb
  | false=>rw [hb] at ta;exact zhj ta
 | c :: d :: e :: r =>
  obtain ⟨s1,s2,s3⟩:=ygd hL
  rw [s1,ygf] at ta
  rw [s2] at tb
  have hde:(⟨#[d,e]⟩:Str) = ": "↔d=58/\e=32:=by
   constructor
   ·intro w
    have:=congrArg (λs:Str=>s.cps.toList) w
    simp only [zme] at this
    simpa using this
   ·rintro ⟨rfl,rfl⟩;exact TX.str_ext (by rw [zme])
  by_cases hc:49<=c/\c<=52
  ·rw [decide_eq_true hc] at ta
   by_cases hd:d=58/\e=32
   ·rw [decide_eq_true (hde.mpr hd)] at tb
    obtain ⟨rfl,rfl⟩:=hd
    exact .inl ⟨c,r,rfl,hc.1,hc.2,s3,by rw [zfg ta];exact tb⟩
   ·rw [decide_eq_false (λw=>hd (hde.mp w))] at tb
    refine .inr ⟨λc' r' h=>?_,by rw [zfg ta];exact tb⟩
    injection h with h1 h2
    injection h2 with h3 h4
    injection h4 with h5 h6
    exact absurd ⟨h3,h5⟩ hd
  ·rw [decide_eq_false hc] at ta
   refine .inr ⟨λc' r' h=>?_,zhj ta⟩
   injection h with h1 h2
   rw [<-h1];exact hc
noncomputable def vM:Option (Nat × List (List Cl))->D
 | none=>.non
 | some m=>mD m.1 m.2
noncomputable def zos:EM:=eOp zam (zac za6 (zaa (eC .non) (zaa (zac zbo (zaa (zac zdv (zaa (eOp zam (eVar 0) (eC (.int 0))) (zab))) (zaa (zac zdb (zaa (eVar 1) (zab))) (zab)))) (zab)))) (zac zdv (zaa (eOp dLt (zac za8 (zaa (eVar 1) (zab))) (eC (.int 25))) (zab)))
theorem ygj {z:Str}{c m:Nat}{rs:List (List Cl)}{y2 y3:Option D}{S:Sto}(hz:z.length<=sizeLine) (h0:z.cps.toList[0]? = some c) (hc1:49<=c) (hc2:c<=52) (hm:S[m]? = some (.lst (rs.map rD))):∃S',zos [some (.str z),~~~m,y2,y3] S=some (vM (if rs.length<25 then some (c-48,rs) else none),S')/\Gr S S':=by
 have ze:eOp zam (eVar 0) (eC (.int 0)) [some (.str z),~~~m,y2,y3] S=some (.str ⟨#[c]⟩,S):=ix_str (zak rfl) h0 hz
 have hi:intText? ⟨#[c]⟩=some (((c-48:Nat)):Int):=by
  have:=zmc ⟨c-48,by omega⟩
  have e:48+(c-48)=c:=by omega
  have this:intText? ⟨#[48+(c-48)]⟩=some (((c-48:Nat)):Int):=this
  rw [e] at this;exact this
 have ie:zac zdv (zaa (eOp zam (eVar 0) (eC (.int 0))) (zab)) [some (.str z),~~~m,y2,y3] S=some (.int ((c-48:Nat):Int),S):=zmd ze hi (by show 1<=640;decide)
 have et:zac zdb (zaa (eVar 1) (zab)) [some (.str z),~~~m,y2,y3] S=some (.tup (rs.map rD),S):=by
  rw [zbl (zdf (zak rfl))]
  show (lstOf S m).bind _=_
  rw [zei hm];rfl
 have ep:zac zbo (zaa (zac zdv (zaa (eOp zam (eVar 0) (eC (.int 0))) (zab))) (zaa (zac zdb (zaa (eVar 1) (zab))) (zab))) [some (.str z),~~~m,y2,y3] S=some (mD (c-48) rs,S):=by
  rw [zbl (zds ie et)]
  show (if 2<=sizeLine then _ else _)=_
  rw [if_pos (by decide)];rfl
 have el:zac za6 (zaa (eC .non) (zaa (zac zbo (zaa (zac zdv (zaa (eOp zam (eVar 0) (eC (.int 0))) (zab))) (zaa (zac zdb (zaa (eVar 1) (zab))) (zab)))) (zab))) [some (.str z),~~~m,y2,y3] S=some (.ref S.length,S++[.lst [.non,mD (c-48) rs]]):=zgb (zds rfl ep) (by simp)
 have hm1:lstOf (S++[.lst [.non,mD (c-48) rs]]) m=some (rs.map rD):=Gr.lst ⟨_,rfl⟩ (zei hm)
 have elt:eOp dLt (zac za8 (zaa (eVar 1) (zab))) (eC (.int 25)) [some (.str z),~~~m,y2,y3] (S++[.lst [.non,mD (c-48) rs]])=some (.bl (decide ((rs.length:Int)<25)),S++[.lst [.non,mD (c-48) rs]]):=by
  have:=zi8 (e:=eVar 1) (l:=[some (.str z),~~~m,y2,y3]) (zak rfl) hm1
  rw [qlm] at this
  unfold eOp
  rw [this];rfl
 have ei:zac zdv (zaa (eOp dLt (zac za8 (zaa (eVar 1) (zab))) (eC (.int 25))) (zab)) [some (.str z),~~~m,y2,y3] (S++[.lst [.non,mD (c-48) rs]])=some (.int (if decide ((rs.length:Int)<25)=true then 1 else 0),S++[.lst [.non,mD (c-48) rs]]):=by
  rw [zbl (zdf elt)];rfl
 refine ⟨S++[.lst [.non,mD (c-48) rs]],?_,⟨_,rfl⟩⟩
 obtain ⟨v,S',e,rfl,rfl⟩:Wo (zam (.ref S.length) (.int (if decide ((rs.length:Int)<25)=true then 1 else 0)) (S++[.lst [.non,mD (c-48) rs]])) λv S'=>v=vM (if rs.length<25 then some (c-48,rs) else none)/\S' = S++[.lst [.non,mD (c-48) rs]]:=by
  rw [zbh]
  by_cases h:rs.length<25
  ·rw [if_pos h,decide_eq_true (by omega),if_pos rfl]
   exact ⟨_,za1,mD (c-48) rs,rfl,rfl,rfl⟩
  ·rw [if_neg h,decide_eq_false (by omega),if_neg (by decide)]
   exact ⟨_,za1,.non,rfl,rfl,rfl⟩
 unfold zos
 unfold eOp at elt ze ⊢
 unfold eOp at el ei
 rw [el]
 simp only [Option.bind_some]
 rw [ei]
 exact e
theorem ygk {z:Str}{S:Sto}(hz:z.length+10<=sizeLine):∃S',ziy [.str z] S=some (vM (ze2 z),S')/\Gr S S':=by
 have sz0:0<=sizeLine:=by decide
 have hb:zs6=zag (sIf zmg (sRet (eC .non)) (zat)) (zag (zaj (zac za6 (zab)) (gName3 1)) (zag (zf2 (zc7 zdx (zbu (eVar 0) (zbb (eC (.int 3))) (zda)) (zaa (eC (.str " | ")) zab)) (gName3 2) zkp) (zag (zf2 (eVar 1) (gName3 3) (sIf (tE (eOp zew zmf (zac za6 (zab)))) (sRet (eC .non)) (zat))) (sRet zos)))):=rfl
 unfold ziy
 rw [hb,zeu (l:=[some (.str z),none,none,none]) rfl]
 rcases ygi (z:=z) (S:=S) (by omega) with ⟨c,r,hL,hc1,hc2,hsl,ht⟩|⟨hB,ht⟩
 ·rw [zbf (l':=[some (.str z),none,none,none]) (S':=S) (by rw [zdy ht];rfl)]
  have s1:zaj (zac za6 (zab)) (gName3 1) [some (.str z),none,none,none] S=some (.nx,[some (.str z),some (.ref S.length),none,none],S++[.lst []]):=zdk (zgb (xs:=[]) (S1:=S) rfl (by simp))
  rw [zbf s1]
  have g1:Gr S (S++[.lst []]):=⟨_,rfl⟩
  have hm:(S++[Ob.lst []])[S.length]? = some (.lst []):=zdh _ _
  have ln1:(S++[Ob.lst []]).length=S.length+1:=by simp
  generalize S++[Ob.lst []]=S1 at g1 hm ln1
  have h0:z.cps.toList[0]? = some c:=by rw [hL];rfl
  have lr:(⟨r.toArray⟩:Str).length<=z.length:=by
   rw [TX.len_eq,TX.len_eq z,hL]
   show r.length<=_
   simp only [List.length_cons];omega
  have esl:zbu (eVar 0) (zbb (eC (.int 3))) (zda) [some (.str z),some (.ref S.length),none,none] S1=some (.str ⟨r.toArray⟩,S1):=by
   rw [<-hsl];exact zkq (zak rfl) (zhx rfl) rfl (by omega)
  have esp:=zl5 (y:=" | ") esl zun (by omega)
  have hn:(S1++[Ob.lst ((Txt.split ⟨r.toArray⟩ " | ").map D.str)])[S1.length]? = some (.lst ((Txt.split ⟨r.toArray⟩ " | ").map D.str)):=zdh _ _
  have hc:=zkk ⟨r.toArray⟩ " | "
  have key:=yf9 (z:=z) (c:=c) (nW:=S1.length) (ws:=Txt.split ⟨r.toArray⟩ " | ") (S0:=S) (S:=S1) (m:=S.length) hz (λw hw=>Nat.le_trans (zhw hw) lr) (by omega) h0 hc1 hc2 esp (g1.push _) (qlr _) (by omega) hn (Gr.get ⟨_,rfl⟩ hm)
  obtain ⟨f,l,S2,e2,g2,q2⟩:=key
  have eM:=yf1 hL hc1 hc2
  rw [yf0 (by omega) (yfz _ _)] at eM
  rw [eM]
  cases hmap:zaz (zfh (c-48)) (Txt.split ⟨r.toArray⟩ " | ") with
  | none =>
   rw [hmap] at q2
   subst q2
   exact ⟨S2,by rw [zef e2];rfl,g2⟩
  | some rs =>
   rw [hmap] at q2
   obtain ⟨rfl,hm2,y2,y3,rfl⟩:=q2
   rw [zbf e2]
   have hok:∀cs∈rs,cs.length<=sizeLine:=λcs hcs=>by
    obtain ⟨u,hu,e⟩:=zja hmap cs hcs
    have:=zhw hu
    unfold zfh at e
    cases hr:zd2 u with
    | none=>rw [hr] at e;cases e
    | some cs' =>
     rw [hr] at e
     have e:(if decide (cs'.length=c-48)=true then some cs' else none)=some cs:=e
     by_cases q:cs'.length=c-48
     ·rw [if_pos (decide_eq_true q)] at e
      cases e
      have:=(zoj hr).2
      omega
     ·rw [if_neg (λw=>q (of_decide_eq_true w))] at e;cases e
   obtain ⟨f,l,S3,e3,g3,q3⟩:=ygb (z:=z) (m:=S.length) (rs:=rs) (y2:=y2) (y3:=y3) (S0:=S) (S:=S2) g2 hm2 hok
   dsimp only [Option.bind_some]
   by_cases ha:(rs.all λcs=>cs.all (gOk rs.length))=true
   ·rw [if_pos ha] at q3
    obtain ⟨rfl,hm3,y3',rfl⟩:=q3
    obtain ⟨S4,e4,g4⟩:=ygj (z:=z) (c:=c) (m:=S.length) (rs:=rs) (y2:=y2) (y3:=y3') (S:=S3) (by omega) h0 hc1 hc2 hm3
    refine ⟨S4,?_,g3.trans g4⟩
    rw [zbf e3,zf9]
    have:(if (rs.all λcs=>cs.all (gOk rs.length))=true/\rs.length<25 then some (c-48,rs) else none)=if rs.length<25 then some (c-48,rs) else none:=by
     by_cases q:rs.length<25
     ·rw [if_pos q,if_pos ⟨ha,q⟩]
     ·rw [if_neg q,if_neg (λw=>q w.2)]
    rw [this];exact e4
   ·rw [if_neg ha] at q3
    subst q3
    refine ⟨S3,?_,g3⟩
    rw [zef e3,if_neg (λw=>ha w.1)];rfl
 ·refine ⟨S,?_,Gr.refl _⟩
  rw [zef (by rw [zdt ht];exact zek rfl),yf3 hB];rfl
theorem ygl {n c:Nat}(hn:n<=10):zga n c=if 48<=c/\c<48+n then some (c-48) else none:=by
 unfold zga
 rw [zol (by omega)]
 show (val [c]).bind _=_
 rw [zkn]
 by_cases h:48<=c/\c<48+n
 ·rw [if_pos h,if_pos (by unfold dgt;exact decide_eq_true ⟨by omega,by omega⟩)]
  show (if c-48<n then some (c-48) else none)=_
  rw [if_pos (by omega)]
 ·rw [if_neg h]
  by_cases hd:dgt c=true
  ·rw [if_pos hd]
   show (if c-48<n then some (c-48) else none)=_
   have:=of_decide_eq_true hd
   rw [if_neg (by omega)]
  ·rw [if_neg hd];rfl
theorem zu4 {n:Nat}(hn:n<=10):∀cs:List Nat,zaz (zga n) cs=if (cs.all λc=>decide (48<=c/\c<48+n))=true then some (cs.map (· - 48)) else none
 | []=>rfl
 | c :: cs=>by
  show (zga n c).bind (λv=>(zaz (zga n) cs).bind λvs=>some (v :: vs))=_
  rw [zu4 hn cs,ygl hn,List.all_cons]
  by_cases h:48<=c/\c<48+n
  ·rw [if_pos h,decide_eq_true h,Bool.true_and]
   show Option.bind (if (cs.all λc=>decide (48<=c/\c<48+n))=true then some (cs.map (· - 48)) else none) _=_
   by_cases h2:(cs.all λc=>decide (48<=c/\c<48+n))=true
   ·rw [if_pos h2,if_pos h2];rfl
   ·rw [if_neg h2,if_neg h2];rfl
  ·rw [if_neg h,decide_eq_false h,Bool.false_and];rfl
noncomputable def dgS (a:Nat):Str:=Txt.slice "0123456789" none (some (a:Int))
theorem ygm:∀a:Fin 6,(dgS a.val).cps.toList=(List.range a.val).map (48 + ·):=by decide +kernel
theorem ygn {a:Nat}(ha:a<=5) (c:Nat):c∈(dgS a).cps.toList↔48<=c/\c<48+a:=by
 rw [show (dgS a).cps.toList=(List.range a).map (48 + ·) from ygm ⟨a,by omega⟩]
 simp only [List.mem_map,List.mem_range]
 constructor
 ·rintro ⟨k,hk,rfl⟩;omega
 ·intro h;exact ⟨c-48,by omega,by omega⟩
noncomputable def vR:Option (List Nat)->D
 | none=>.non
 | some as=>wD as
theorem ygo {a:Nat}{z:Str}{S:Sto}(ha:a<=5) (hz:z.length+2<=sizeLine):∃S',ziz [.int (a:Int),.str z] S=some (vR (ze1 a z),S')/\Gr S S':=by
 unfold ziz zs7
 rw [zeu (l:=[‹a›,some (.str z)]) rfl]
 have t1:tE (eOp dEq (eVar 1) (eC (.str "-"))) [‹a›,some (.str z)] S=some (decide (z = "-"),S):=zhi (zak rfl)
 have t2:tE (eOp dEq (eVar 1) (eC (.str ""))) [‹a›,some (.str z)] S=some (decide (z = ""),S):=zhi (zak rfl)
 unfold ze1
 by_cases h1:z = "-"
 ·rw [decide_eq_true h1] at t1
  refine ⟨S,?_,Gr.refl _⟩
  rw [if_pos h1,zef (d:=.tup []) (by rw [zdt t1];exact zek (by show (if 0<=sizeLine then some (D.tup [],S) else none)=_;rw [if_pos (Nat.zero_le _)]))];rfl
 rw [decide_eq_false h1] at t1
 rw [if_neg h1,zbf (l':=[‹a›,some (.str z)]) (S':=S) (by rw [zdy t1];rfl)]
 by_cases h2:z = ""
 ·rw [decide_eq_true h2] at t2
  refine ⟨S,?_,Gr.refl _⟩
  rw [if_pos h2,zef (d:=.non) (by rw [zdt (zhj t2)];exact zek rfl)];rfl
 rw [decide_eq_false h2] at t2
 rw [if_neg h2]
 obtain ⟨S1,ts,g1⟩:=yfn (e0:=eVar 1) (ixs:=[none,some 0]) (t:=tE (eOp (zhg true) (eVar 0) (zbu (eC (.str "0123456789")) (zda) (zbb (eVar 1))))) (l:=[‹a›,some (.str z)]) (S:=S) (z:=z) (g:=λc=>!decide (48<=c/\c<48+a)) (zak rfl) hz (by decide) (λc S'=>by
  show tE _ [some (.str ⟨#[c]⟩),‹a›] S' = _
  have e:zbu (eC (.str "0123456789")) (zda) (zbb (eVar 1)) [some (.str ⟨#[c]⟩),‹a›] S' = some (.str (dgS a),S'):=zkq rfl rfl (zhx (zak rfl)) (by decide +kernel)
  unfold tE eOp
  rw [zak (d:=.str ⟨#[c]⟩) rfl]
  simp only [Option.bind_some,e]
  show some (!(zid ⟨#[c]⟩ (dgS a)),S')=_
  rw [zuo,decide_eq_decide.mpr (ygn ha c)])
 rw [zur] at ts
 rw [zu4 (by omega)]
 cases hc:z.cps.toList.all λc=>decide (48<=c/\c<48+a) with
 | false =>
  rw [hc] at ts
  refine ⟨S1,?_,g1⟩
  rw [zef (d:=.non) (by rw [zdt (by rw [zfg t2];exact ts)];exact zek rfl)];rfl
 | true =>
  rw [hc] at ts
  rw [zbf (l':=[‹a›,some (.str z)]) (S':=S1) (by rw [zdy (by rw [zfg t2];exact ts)];rfl),zf9,if_pos rfl]
  have key:We (zbv (zeo (eVar 1)) [none] (gName3 0) (zbc) (zac zdv (zaa (eVar 0) (zab)))) [‹a›,some (.str z)] S1 λv S'=>v=.ref S1.length/\S' = S1++[.lst (z.cps.toList.map λc=>nD (c-48))]:=by
   refine zie z.cps.toList (λc=>.str ⟨#[c]⟩) (λc=>nD (c-48)) (λS'=>S' = S1) (λl=>∃y,l=[y]) (zny (zak rfl)) rfl ⟨_,rfl⟩ (λi S _=>rfl) (by rw [<-TX.len_eq];omega) ?_ ?_
   ·rintro c l S' hcm ⟨y,rfl⟩ rfl
    have hcc:=of_decide_eq_true (List.all_eq_true.mp hc c hcm)
    simp only [zav,qs0]
    refine ⟨⟨_,rfl⟩,?_⟩
    have hi:intText? ⟨#[c]⟩=some (((c-48:Nat)):Int):=by
     have this:intText? ⟨#[48+(c-48)]⟩=some (((c-48:Nat)):Int):=zmc ⟨c-48,by omega⟩
     have e:48+(c-48)=c:=by omega
     rw [e] at this;exact this
    exact ⟨_,S',zmd (zak rfl) hi (by show 1<=640;decide),rfl,rfl⟩
   ·rintro S' rfl
    exact ⟨rfl,rfl⟩
  obtain ⟨v,S',e,rfl,rfl⟩:=key
  refine ⟨S1++[.lst (z.cps.toList.map λc=>nD (c-48))],?_,g1.push _⟩
  rw [zob e,vR,wD,List.map_map];rfl
def Asc (p:PyData):Prop:=∀k,128<=k->k ∉ p.shown.cps.toList
theorem zot (i:Int):Asc (.int i):=λk h=>PyProof.Rows.shown_int_free' ⟨by omega,by omega⟩ i
theorem ygp:Asc .none:=λk h hm=>by
 rw [PyData.shown_none] at hm
 have e:(("None":String):Str).cps.toList=[78,111,110,101]:=by decide +kernel
 rw [e] at hm
 simp at hm
 omega
theorem zu5 (g:Option Nat):Asc (pO g):=by
 cases g with
 | none=>exact ygp
 | some j=>exact zot _
theorem zkr {xs:List PyData}(h:∀x∈xs,Asc x):Asc (.tuple xs):=λk hk hm=>by
 rw [PyData.shown_tuple,PyProof.Rows.mem_cps_append,PyProof.Rows.mem_cps_append,PyProof.Rows.mem_join] at hm
 rcases hm with (hm|(⟨t,ht,hc⟩|⟨_,hm⟩))|hm
 ·have e:(("(":String):Str).cps.toList=[40]:=by decide +kernel
  rw [e] at hm;simp at hm;omega
 ·exact PyProof.Rows.shownAll_free (λx hx=>h x hx k hk) t ht hc
 ·have e:((", ":String):Str).cps.toList=[44,32]:=by decide +kernel
  rw [e] at hm;simp at hm;omega
 ·have e1:((",)":String):Str).cps.toList=[44,41]:=by decide +kernel
  have e2:((")":String):Str).cps.toList=[41]:=by decide +kernel
  split at hm
  ·rw [e1] at hm;simp at hm;omega
  ·rw [e2] at hm;simp at hm;omega
theorem ygq {p:PyData}(h:Asc p):PyData.strOk p.shown=true:=by
 unfold PyData.strOk
 rw [Array.all_eq_true']
 intro c hc
 have:¬128<=c:=λw=>h c w (by simpa using hc)
 simp
 omega
def ShV (x:D):Prop:=∃p:PyData,p.shown.length<=sizeLine/\∀S',zax S' 140 x=some p
theorem zou {x:D}{B:Nat}(h:Sh [] 140 B x) (hB:B<=1000000):ShV x:=by
 obtain ⟨p,h1,h2⟩:=h
 exact ⟨p,Nat.le_trans (Nat.le_trans h1 hB) (by decide),λS'=>h2 S' ⟨S',rfl⟩⟩
theorem zu6 {k:Nat}{g:Option Nat}(h:∀j,g=some j->j<24):Sh [] (k+1) 10 (oD g):=by
 cases g with
 | none=>exact yc9
 | some j=>exact znx (Nat.lt_trans (h j rfl) (by decide))
theorem zu7 {m k:Nat}{c:Cl}(h:OkC m c) (hm:m<=24):Sh [] (k+2) 40 (cD c):=by
 refine (zj5 (k:=k+1) (B:=10) (n:=2) (λx hx=>?_) (qlr _)).le (by decide)
 rcases List.mem_cons.mp hx with rfl|hx
 ·exact zu6 (h.p1 hm)
 ·rw [List.mem_singleton.mp hx];exact zu6 h.p2
theorem ygr {m:Nat}{c:Cl}(h:OkC m c) (hm:m<=24):ShV (cD c):=zou (zu7 (k:=138) h hm) (by decide)
theorem ygs {asks:Nat}{rs:List (List Cl)}(h:OkM asks rs):ShV (mD asks rs):=by
 have ha:=h.a4
 refine zou (B:=100000) ?_ (by decide)
 unfold mD
 refine (zj5 (k:=139) (B:=10000) (n:=2) (λx hx=>?_) (qlr _)).le (by decide)
 rcases List.mem_cons.mp hx with rfl|hx
 ·exact (znx (k:=138) (by omega)).le (by decide)
 ·rw [List.mem_singleton.mp hx]
  refine (zj5 (k:=138) (B:=200) (n:=24) (λy hy=>?_) (by rw [qlm];exact h.r24)).le (by decide)
  obtain ⟨cs,hcs,rfl⟩:=List.mem_map.mp hy
  refine (zj5 (k:=137) (B:=40) (n:=4) (λz hz=>?_) (by rw [qlm,(h.ok cs hcs).1];exact ha)).le (by decide)
  obtain ⟨c,hc,rfl⟩:=List.mem_map.mp hz
  exact zu7 (k:=135) ((h.ok cs hcs).2 c hc) h.r24
theorem zov {v:D}{p:PyData}(py:∀S,zax S 140 v=some p) (sh:ShV v) (asc:Asc p):∃z,PyData.strOk z=true/\∀S:Sto,zev [v] S=some (.str z,S):=by
 obtain ⟨q,h1,h2⟩:=sh
 have e:q=p:=by
  have:=h2 []
  rw [py] at this
  exact (qoi this).symm
 subst e
 refine ⟨q.shown,ygq asc,λS=>?_⟩
 show (zax S 140 v).bind _=_
 rw [py S]
 simp only [Option.bind_some]
 rw [if_pos h1]
theorem zu8 (c:Cl):Asc (pC c):=zkr λx hx=>by
 rcases List.mem_cons.mp hx with rfl|hx
 ·exact zu5 _
 ·rw [List.mem_singleton.mp hx];exact zu5 _
theorem ygt {c:Cl}(h:OkC 24 c):∃z,PyData.strOk z=true/\∀S:Sto,zev [cD c] S=some (.str z,S):=zov (p:=pC c) (λS=>zoo (k:=138) h) (ygr h (qlr _)) (zu8 c)
theorem ygu {a:Nat}{rs:List (List Cl)}(ha:a<5) (ho:okM a rs=true) (hc:∀cs∈rs,∀c∈cs,OkC 24 c):OkM a rs:=by
 unfold okM rOk at ho
 simp only [Bool.and_eq_true,List.all_eq_true,decide_eq_true_eq] at ho
 refine ⟨ho.1.1,by omega,ho.1.2.1,ho.1.2.2,λcs hcs=>⟨(ho.2 cs hcs).1,λc hcc=>⟨λk e=>?_,(hc cs hcs c hcc).2⟩⟩⟩
 have:=(ho.2 cs hcs).2 c hcc
 unfold gOk at this
 rw [e] at this
 exact of_decide_eq_true this
theorem ygv {a:Nat}{rs:List (List Cl)}(h:OkM a rs):∃z,PyData.strOk z=true/\∀S:Sto,zev [mD a rs] S=some (.str z,S):=by
 have a4:=h.a4
 have r24:=h.r24
 refine zov (p:=.tuple [.int (a:Int),.tuple (rs.map λcs=>.tuple (cs.map pC))]) (λS=>?_) (ygs h) (zkr λx hx=>?_)
 ·have h1:zax S 139 (.int (a:Int))=some (.int (a:Int)):=by unfold zax;rw [if_pos (zgx (by omega))]
  have h2:pyAll S 138 (rs.map rD)=some (rs.map λcs=>.tuple (cs.map pC)):=zko rs λcs hcs=>by
   unfold rD
   rw [zax,zko cs λc hc=>zoo (k:=135) ⟨λk e=>Nat.lt_of_lt_of_le (((h.ok cs hcs).2 c hc).1 k e) r24,((h.ok cs hcs).2 c hc).2⟩];rfl
  have h3:zax S 139 (.tup (rs.map rD))=some (.tuple (rs.map λcs=>.tuple (cs.map pC))):=by rw [zax,h2];rfl
  unfold mD
  rw [zax,pyAll,h1]
  simp only [Option.bind_some]
  rw [pyAll,h3]
  simp only [Option.bind_some]
  rw [pyAll];rfl
 ·rcases List.mem_cons.mp hx with rfl|hx
  ·exact zot _
  ·rw [List.mem_singleton.mp hx]
   refine zkr λy hy=>?_
   obtain ⟨cs,_,rfl⟩:=List.mem_map.mp hy
   refine zkr λw hw=>?_
   obtain ⟨c,_,rfl⟩:=List.mem_map.mp hw
   exact zu8 c
theorem ygw {as:List Nat}(h:∀k∈as,k<24) (hl:as.length<=20000):∃z,PyData.strOk z=true/\∀S:Sto,zev [wD as] S=some (.str z,S):=by
 refine zov (p:=.tuple (as.map λa=>.int ((a:Nat):Int))) (λS=>?_) (zou (B:=1000000) ?_ (by decide)) (zkr λx hx=>?_)
 ·unfold wD
  rw [zax,zko as λa ha=>(by unfold zax;rw [if_pos (zgx (Nat.lt_trans (h a ha) (by decide)))])];rfl
 ·refine (zj5 (k:=139) (B:=10) (n:=20000) (λx hx=>?_) (by rw [qlm];exact hl)).le (by decide)
  obtain ⟨a,ha,rfl⟩:=List.mem_map.mp hx
  exact znx (k:=138) (Nat.lt_trans (h a ha) (by decide))
 ·obtain ⟨a,_,rfl⟩:=List.mem_map.mp hx
  exact zot _
noncomputable def rdM (way:Nat):FM
 | [many,x],S=>if way=0 then zf7 [x] S else if way=1 then zd1 [x] S else zf8 [many,x] S
 | _,_=>none
noncomputable def rdZ (way:Nat):ZF
 | [many,x],S=>if way=0 then zgz [x] S else if way=1 then zep [x] S else zg0 [many,x] S
 | _,_=>none
theorem zks (way:Nat) (many x:D) (S:Sto):rdM way [many,x] S=if way=0 then zf7 [x] S else if way=1 then zd1 [x] S else zf8 [many,x] S:=rfl
theorem zkt (way:Nat) (many x:D) (S:Sto):rdZ way [many,x] S=if way=0 then zgz [x] S else if way=1 then zep [x] S else zg0 [many,x] S:=rfl
noncomputable def zku:SM:=sIf (tE (eOp dEq (eVar 0) (eC (.int 0)))) (zaj (zac zf7 (zaa (eVar 2) (zab))) (gName3 4)) (sIf (tE (eOp dEq (eVar 0) (eC (.int 1)))) (zaj (zac zd1 (zaa (eVar 2) (zab))) (gName3 4)) (zaj (zac zf8 (zaa (eVar 1) (zaa (eVar 2) (zab)))) (gName3 4)))
noncomputable def zkv:ZM:=zIf (tE (eOp dEq (eVar 0) (eC (.int 0)))) (zdc zgz (zaa (eVar 2) (zab))) (zIf (tE (eOp dEq (eVar 0) (eC (.int 1)))) (zdc zep (zaa (eVar 2) (zab))) (zdc zg0 (zaa (eVar 1) (zaa (eVar 2) (zab)))))
theorem zu9 {way:Nat}{many x:D}{S:Sto}{y6:Option D}:zku [‹way›,some many,some x,some .non,some .non,none,y6] S=(rdM way [many,x] S).bind λp=>some (.nx,[‹way›,some many,some x,some .non,some p.1,none,y6],p.2):=by
 have t:∀k:Int,tE (eOp dEq (eVar 0) (eC (.int k))) [‹way›,some many,some x,some .non,some .non,none,y6] S=some (decide ((way:Int)=k),S):=λk=>eq_int (zak rfl)
 have ea:zaa (eVar 1) (zaa (eVar 2) (zab)) [‹way›,some many,some x,some .non,some .non,none,y6] S=some ([many,x],S):=zds (zak rfl) (zak rfl)
 have eb:zaa (eVar 2) (zab) [‹way›,some many,some x,some .non,some .non,none,y6] S=some ([x],S):=zdf (zak rfl)
 unfold zku
 rw [zks]
 by_cases h:way=0
 ·rw [zdt (S':=S) (by rw [t 0,decide_eq_true (by omega)]),if_pos h]
  unfold zaj;rw [zbl eb];rfl
 ·rw [zdy (S':=S) (by rw [t 0,decide_eq_false (by omega)]),if_neg h]
  by_cases h1:way=1
  ·rw [zdt (S':=S) (by rw [t 1,decide_eq_true (by omega)]),if_pos h1]
   unfold zaj;rw [zbl eb];rfl
  ·rw [zdy (S':=S) (by rw [t 1,decide_eq_false (by omega)]),if_neg h1]
   unfold zaj;rw [zbl ea];rfl
theorem ygx {way:Nat}{many x:D}{S:Sto}{y6:Option D}:zkv [‹way›,some many,some x,some .non,some .non,none,y6] S=rdZ way [many,x] S:=by
 have t:∀k:Int,tE (eOp dEq (eVar 0) (eC (.int k))) [‹way›,some many,some x,some .non,some .non,none,y6] S=some (decide ((way:Int)=k),S):=λk=>eq_int (zak rfl)
 have ea:zaa (eVar 1) (zaa (eVar 2) (zab)) [‹way›,some many,some x,some .non,some .non,none,y6] S=some ([many,x],S):=zds (zak rfl) (zak rfl)
 have eb:zaa (eVar 2) (zab) [‹way›,some many,some x,some .non,some .non,none,y6] S=some ([x],S):=zdf (zak rfl)
 unfold zkv
 rw [zkt]
 by_cases h:way=0
 ·rw [zi6 (S':=S) (by rw [t 0,decide_eq_true (by omega)]),if_pos h,ze0 eb]
 ·rw [zi7 (S':=S) (by rw [t 0,decide_eq_false (by omega)]),if_neg h]
  by_cases h1:way=1
  ·rw [zi6 (S':=S) (by rw [t 1,decide_eq_true (by omega)]),if_pos h1,ze0 eb]
  ·rw [zi7 (S':=S) (by rw [t 1,decide_eq_false (by omega)]),if_neg h1,ze0 ea]
noncomputable def zow:SM:=zag (sIf (tE (eOp dIs (eVar 3) (eC .non))) (sRet (zac zbo (zaa (eC (.str "read")) (zaa (zac zev (zaa (eVar 4) (zab))) (zab))))) (zat)) (zag (zaj (eUn (zed [("NoText",false)]) (eVar 3)) (gName3 6)) (zag (zaj (zgd (eVar 6) (eUn (zed [("NoText",false)]) (eVar 3))) (gName3 6)) (sRet (zac zbo (zaa (eC (.str "refused")) (zaa (zfc (eUn (zed [("NoText",true)]) (eVar 3)) (zfc (eUn (zed [("NoText",true)]) (eVar 3)) (zg7 (eVar 6)))) (zab)))))))
theorem zva {way:Nat}{many x:D}{S:Sto}:zey [.int (way:Int),many,x] S=(zag (zhp 5 (λc=>c == "NoText") zku zkv (zaj (eVar 5) (gName3 3))) zow [‹way›,some many,some x,some .non,some .non,none,none] S).bind zet:=by
 unfold zey zs3
 rw [zeu (l:=[‹way›,some many,some x,none,none,none,none]) rfl,zbf (zdk (i:=3) (d:=.non) (S':=S) rfl),zbf (zdk (i:=4) (d:=.non) (S':=S) rfl)]
 rfl
theorem ygy {way:Nat}{many x v:D}{S S1:Sto}{z:Str}(h:rdM way [many,x] S=some (v,S1)) (hr:zev [v] S1=some (.str z,S1)):zey [.int (way:Int),many,x] S=some (.tup [.str "read",.str z],S1):=by
 have e1:zhp 5 (λc=>c == "NoText") zku zkv (zaj (eVar 5) (gName3 3)) [‹way›,some many,some x,some .non,some .non,none,none] S=some (.nx,[‹way›,some many,some x,some .non,some v,none,none],S1):=by
  unfold zhp
  rw [zu9,h];rfl
 rw [zva,zbf e1]
 unfold zow
 have t:tE (eOp dIs (eVar 3) (eC .non)) [‹way›,some many,some x,some .non,some v,none,none] S1=some (true,S1):=by
  unfold tE eOp;rw [zak (d:=.non) rfl];rfl
 rw [zef (d:=.tup [.str "read",.str z]) (l':=[‹way›,some many,some x,some .non,some v,none,none]) (S':=S1) (by
  rw [zdt t]
  refine zek ?_
  rw [zbl (zds (x:=.str "read") (y:=.str z) (S1:=S1) (S2:=S1) rfl (by rw [zbl (zdf (zak rfl))];exact hr))]
  show (if 2<=sizeLine then _ else _)=_
  rw [if_pos (by decide)])]
 rfl
theorem zvb {way:Nat}{many x:D}{S S1:Sto}(h:rdM way [many,x] S=none) (hz:rdZ way [many,x] S=some (("NoText":Str),S1)):zey [.int (way:Int),many,x] S=some (.tup [.str "refused",.bl true],S1++[.exc "NoText"]):=by
 have hx:(S1++[Ob.exc "NoText"])[S1.length]? = some (.exc "NoText"):=by simp
 have e1:zhp 5 (λc=>c == "NoText") zku zkv (zaj (eVar 5) (gName3 3)) [‹way›,some many,some x,some .non,some .non,none,none] S=some (.nx,[‹way›,some many,some x,some (.ref S1.length),some .non,none,none],S1++[.exc "NoText"]):=by
  unfold zhp
  rw [zu9,h,ygx,hz]
  show (if (("NoText":Str) == "NoText")=true then _ else _)=_
  rw [if_pos (by decide +kernel)]
  rfl
 rw [zva,zbf e1]
 generalize S1++[Ob.exc "NoText"]=S2 at *
 have ix:∀(b:Bool) (l:Lo) (hl:l[3]? = some (some (.ref S1.length))),eUn (zed [("NoText",b)]) (eVar 3) l S2=some (.bl b,S2):=λb l hl=>by
  have e:List.lookup ("NoText":Str) [(("NoText":Str),b)]=some b:=by simp
  unfold eUn
  rw [zak hl]
  simp only [Option.bind_some,zed,hx,e]
 unfold zow
 have t:tE (eOp dIs (eVar 3) (eC .non)) [‹way›,some many,some x,some (.ref S1.length),some .non,none,none] S2=some (false,S2):=by
  unfold tE eOp;rw [zak (d:=.ref S1.length) rfl];rfl
 rw [zbf (l':=[‹way›,some many,some x,some (.ref S1.length),some .non,none,none]) (S':=S2) (by rw [zdy t];rfl)]
 rw [zbf (zdk (i:=6) (ix false [‹way›,some many,some x,some (.ref S1.length),some .non,none,none] rfl))]
 have e2:zgd (eVar 6) (eUn (zed [("NoText",false)]) (eVar 3)) [‹way›,some many,some x,some (.ref S1.length),some .non,none,some (.bl false)] S2=some (.bl false,S2):=by
  unfold zgd
  rw [zak (d:=.bl false) rfl]
  exact ix false [‹way›,some many,some x,some (.ref S1.length),some .non,none,some (.bl false)] rfl
 show ((zag (zaj (zgd (eVar 6) (eUn (zed [("NoText",false)]) (eVar 3))) (gName3 6)) _) [‹way›,some many,some x,some (.ref S1.length),some .non,none,some (.bl false)] S2).bind zet=_
 rw [zbf (zdk (i:=6) e2),zf9]
 show zac zbo _ [‹way›,some many,some x,some (.ref S1.length),some .non,none,some (.bl false)] S2=_
 have e3:zfc (eUn (zed [("NoText",true)]) (eVar 3)) (zfc (eUn (zed [("NoText",true)]) (eVar 3)) (zg7 (eVar 6))) [‹way›,some many,some x,some (.ref S1.length),some .non,none,some (.bl false)] S2=some (.bl true,S2):=by
  unfold zfc
  rw [ix true [‹way›,some many,some x,some (.ref S1.length),some .non,none,some (.bl false)] rfl]
  show Option.bind (eUn (zed [("NoText",true)]) (eVar 3) [‹way›,some many,some x,some (.ref S1.length),some .non,none,some (.bl false)] S2) _=_
  rw [ix true [‹way›,some many,some x,some (.ref S1.length),some .non,none,some (.bl false)] rfl]
  show zg7 (eVar 6) [‹way›,some many,some x,some (.ref S1.length),some .non,none,some (.bl false)] S2=_
  unfold zg7
  rw [zak (d:=.bl false) rfl];rfl
 rw [zbl (zds (x:=.str "refused") (S1:=S2) rfl e3)]
 show (if 2<=sizeLine then _ else _)=_
 rw [if_pos (by decide)]
theorem zvc {S:Sto}{w:Str}{x y:D}{p q:PyData}(hx:∀S,zax S 59 x=some p) (hy:∀S,zax S 59 y=some q) (hw:PyData.strOk w=true) (cp:p.canLay0=true) (cq:q.canLay0=true) (e:∀l l':List PyData,l=[.str w,p]->l' = [.str w,q]->PyData.eqv (.tuple l) (.tuple l')=true):zft (.tup [.str w,x]) (.tup [.str w,y]) S=some (.bl true,S):=by
 have h1:∀{u:D} {o:PyData},zax S 59 u=some o->zax S 60 (.tup [.str w,u])=some (.tuple [.str w,o]):=λ{u o} h=>by
  rw [zax]
  show (pyAll S 59 [.str w,u]).bind _=_
  have e1:zax S 59 (.str w)=some (.str w):=by unfold zax;rfl
  rw [pyAll,e1,pyAll,h,pyAll];rfl
 have h2:∀{o:PyData},o.canLay0=true->(PyData.tuple [.str w,o]).canLay0=true:=λ{o} h=>by
  unfold PyData.canLay0
  rw [PyData.canLayAll0,PyData.canLayAll0,h,PyData.canLayAll0]
  unfold PyData.canLay0
  rw [hw];rfl
 unfold zft
 rw [h1 (hx S),h1 (hy S)]
 simp only [Option.bind_some]
 rw [if_pos ⟨h2 cp,h2 cq⟩,e _ _ rfl rfl]
noncomputable def zjc:SM:=zag (sIf (tE (eOp dIs (eVar 3) (eC .non))) (sRet (eOp zft (zac zey (zaa (eVar 0) (zaa (eVar 1) (zaa (eVar 2) (zab))))) (zac zbo (zaa (eC (.str "refused")) (zaa (eC (.bl true)) (zab)))))) (zat)) (sRet (eOp zft (zac zey (zaa (eVar 0) (zaa (eVar 1) (zaa (eVar 2) (zab))))) (zac zbo (zaa (eC (.str "read")) (zaa (zac zev (zaa (eVar 3) (zab))) (zab))))))
theorem zvd:PyData.strOk "refused" = true:=by decide +kernel
theorem zve:PyData.strOk "read" = true:=by decide +kernel
theorem ygz {way:Nat}{many:Int}{x:D}{S S1:Sto}(h:rdM way [.int many,x] S=none) (hz:rdZ way [.int many,x] S=some (("NoText":Str),S1)) (g:Gr S S1):∃S',(zjc [‹way›,some (.int many),some x,some .non] S).bind zet=some (.bl true,S')/\Gr S S':=by
 have t:tE (eOp dIs (eVar 3) (eC .non)) [‹way›,some (.int many),some x,some .non] S=some (true,S):=by
  unfold tE eOp;rw [zak (d:=.non) rfl];rfl
 have e1:zac zey (zaa (eVar 0) (zaa (eVar 1) (zaa (eVar 2) (zab)))) [‹way›,some (.int many),some x,some .non] S=some (.tup [.str "refused",.bl true],S1++[.exc "NoText"]):=by
  rw [zbl (zkj (zak rfl) (zak rfl) (zak rfl))];exact zvb h hz
 have e2:∀S,zac zbo (zaa (eC (.str "refused")) (zaa (eC (.bl true)) (zab))) [‹way›,some (.int many),some x,some .non] S=some (.tup [.str "refused",.bl true],S):=λS=>by
  rw [zbl (zds (x:=.str "refused") (y:=.bl true) (S1:=S) (S2:=S) rfl rfl)]
  show (if 2<=sizeLine then _ else _)=_
  rw [if_pos (by decide)]
 have pb:∀S,zax S 59 (.bl true)=some (.bool true):=λS=>by unfold zax;rfl
 have cb:(PyData.bool true).canLay0=true:=by unfold PyData.canLay0;rfl
 have e3:=zvc (S:=S1++[.exc "NoText"]) (w:="refused") pb pb zvd cb cb (λl l' h1 h2=>by subst h1;subst h2;decide +kernel)
 refine ⟨S1++[.exc "NoText"],?_,g.push _⟩
 unfold zjc
 rw [zef (d:=.bl true) (l':=[‹way›,some (.int many),some x,some .non]) (S':=S1++[.exc "NoText"]) (by
  rw [zdt t]
  refine zek ?_
  unfold eOp
  rw [e1]
  simp only [Option.bind_some,e2]
  exact e3)]
 rfl
theorem yg0 {way:Nat}{many:Int}{x v w:D}{S S1:Sto}{z:Str}(hv:zel v=false) (h:rdM way [.int many,x] S=some (w,S1)) (g:Gr S S1) (hw:zev [w] S1=some (.str z,S1)) (hv1:zev [v] S1=some (.str z,S1)) (ok:PyData.strOk z=true):∃S',(zjc [‹way›,some (.int many),some x,some v] S).bind zet=some (.bl true,S')/\Gr S S':=by
 have t:tE (eOp dIs (eVar 3) (eC .non)) [‹way›,some (.int many),some x,some v] S=some (false,S):=by
  unfold tE eOp;rw [zak (d:=v) rfl]
  cases v <;> first|rfl|cases hv
 have e1:zac zey (zaa (eVar 0) (zaa (eVar 1) (zaa (eVar 2) (zab)))) [‹way›,some (.int many),some x,some v] S=some (.tup [.str "read",.str z],S1):=by
  rw [zbl (zkj (zak rfl) (zak rfl) (zak rfl))];exact ygy h hw
 have e2:zac zbo (zaa (eC (.str "read")) (zaa (zac zev (zaa (eVar 3) (zab))) (zab))) [‹way›,some (.int many),some x,some v] S1=some (.tup [.str "read",.str z],S1):=by
  rw [zbl (zds (x:=.str "read") (y:=.str z) (S1:=S1) (S2:=S1) rfl (by rw [zbl (zdf (zak rfl))];exact hv1))]
  show (if 2<=sizeLine then _ else _)=_
  rw [if_pos (by decide)]
 have pb:∀S,zax S 59 (.str z)=some (.str z):=λS=>by unfold zax;rfl
 have cb:(PyData.str z).canLay0=true:=by unfold PyData.canLay0;exact ok
 have e3:=zvc (S:=S1) (w:="read") pb pb zve cb cb (λl l' h1 h2=>by
  subst h1;subst h2
  refine PySem.SeqAt.eqv_refl _ ?_
  unfold PyData.canLay0
  rw [PyData.canLayAll0,PyData.canLayAll0,cb,PyData.canLayAll0]
  unfold PyData.canLay0
  rw [zve];rfl)
 refine ⟨S1,?_,g⟩
 unfold zjc
 rw [zbf (l':=[‹way›,some (.int many),some x,some v]) (S':=S) (by rw [zdy t];rfl),zf9]
 unfold eOp
 rw [e1]
 simp only [Option.bind_some,e2]
 exact e3
noncomputable def zih (way a:Nat) (z:Str):D:=if way=0 then vM (ze2 z) else if way=1 then vC (zdd z) else vR (ze1 a z)
theorem yg1 {way a:Nat}{z:Str}{S:Sto}(ha:a<=5) (hz:z.length+10<=sizeLine):∃S1,zez [.int (way:Int),.int (a:Int),.str z] S=(zjc [‹way›,‹a›,some (.str z),some (zih way a z)] S1).bind zet/\Gr S S1:=by
 obtain ⟨S1,e1,g1⟩:=ygo (a:=a) (z:=z) (S:=S) ha (by omega)
 have s1:zaj (zac ziz (zaa (eVar 1) (zaa (eVar 2) (zab)))) (gName3 3) [‹way›,‹a›,some (.str z),none] S=some (.nx,[‹way›,‹a›,some (.str z),some (vR (ze1 a z))],S1):=zdk (by rw [zbl (zds (zak rfl) (zak rfl))];exact e1)
 have t:∀(k:Int) (d:D) (S:Sto),tE (eOp dEq (eVar 0) (eC (.int k))) [‹way›,‹a›,some (.str z),some d] S=some (decide ((way:Int)=k),S):=λk d S=>eq_int (zak rfl)
 unfold zez zs8
 rw [zeu (l:=[‹way›,‹a›,some (.str z),none]) rfl,zbf s1]
 unfold zih
 by_cases h:way=0
 ·obtain ⟨S2,e2,g2⟩:=ygk (z:=z) (S:=S1) hz
  have s2:sIf (tE (eOp dEq (eVar 0) (eC (.int 0)))) (zaj (zac ziy (zaa (eVar 2) (zab))) (gName3 3)) (zat) [‹way›,‹a›,some (.str z),some (vR (ze1 a z))] S1=some (.nx,[‹way›,‹a›,some (.str z),some (vM (ze2 z))],S2):=by
   rw [zdt (S':=S1) (by rw [t 0,decide_eq_true (by omega)])]
   exact zdk (by rw [zbl (zdf (zak rfl))];exact e2)
  rw [zbf s2,zbf (l':=[‹way›,‹a›,some (.str z),some (vM (ze2 z))]) (S':=S2) (by rw [zdy (S':=S2) (by rw [t 1,decide_eq_false (by omega)])];rfl),if_pos h]
  exact ⟨S2,rfl,g1.trans g2⟩
 ·rw [zbf (l':=[‹way›,‹a›,some (.str z),some (vR (ze1 a z))]) (S':=S1) (by rw [zdy (S':=S1) (by rw [t 0,decide_eq_false (by omega)])];rfl),if_neg h]
  by_cases h1:way=1
  ·obtain ⟨S2,e2,g2⟩:=zuw (z:=z) (S:=S1) (by omega)
   have s2:sIf (tE (eOp dEq (eVar 0) (eC (.int 1)))) (zaj (zac zhh (zaa (eVar 2) (zab))) (gName3 3)) (zat) [‹way›,‹a›,some (.str z),some (vR (ze1 a z))] S1=some (.nx,[‹way›,‹a›,some (.str z),some (vC (zdd z))],S2):=by
    rw [zdt (S':=S1) (by rw [t 1,decide_eq_true (by omega)])]
    exact zdk (by rw [zbl (zdf (zak rfl))];exact e2)
   rw [zbf s2,if_pos h1]
   exact ⟨S2,rfl,g1.trans g2⟩
  ·rw [zbf (l':=[‹way›,‹a›,some (.str z),some (vR (ze1 a z))]) (S':=S1) (by rw [zdy (S':=S1) (by rw [t 1,decide_eq_false (by omega)])];rfl),if_neg h1]
   exact ⟨S1,rfl,g1⟩
theorem zox {way a:Nat}{z:Str}{S S1:Sto}{o:Option D}(hd:zih way a z=(match o with|none=>.non|some v=>v)) (hn:∀v,o=some v->zel v=false) (hr:Rs (rdM way [.int (a:Int),.str z]) (rdZ way [.int (a:Int),.str z]) S1 o) (hs:∀v,o=some v->∃z,PyData.strOk z=true/\∀S:Sto,zev [v] S=some (.str z,S)) (h:zez [.int (way:Int),.int (a:Int),.str z] S=(zjc [‹way›,‹a›,some (.str z),some (zih way a z)] S1).bind zet) (g:Gr S S1):∃S',zez [.int (way:Int),.int (a:Int),.str z] S=some (.bl true,S')/\Gr S S':=by
 rw [h,hd]
 cases o with
 | none =>
  obtain ⟨k1,S2,k2,g2⟩:=hr
  obtain ⟨S',k3,g3⟩:=ygz (way:=way) (many:=(a:Int)) (x:=.str z) k1 k2 g2
  exact ⟨S',k3,g.trans g3⟩
 | some v =>
  obtain ⟨S2,k1,g2,_⟩:=hr
  obtain ⟨w,hw,hv⟩:=hs v rfl
  obtain ⟨S',k3,g3⟩:=yg0 (way:=way) (many:=(a:Int)) (x:=.str z) (v:=v) (hn v rfl) k1 g2 (hv _) (hv _) hw
  exact ⟨S',k3,g.trans g3⟩
theorem yg2 {z:Str}{a:Nat}{rs:List (List Cl)}(h:ze2 z=some (a,rs)):OkM a rs:=by
 unfold ze2 at h
 cases h1:zdr 5 (Txt.partition z ": ").1 with
 | none=>rw [h1] at h;cases h
 | some k =>
  rw [h1] at h
  cases h2:zaz zd2 (Txt.split (Txt.partition z ": ").2.2 " | ") with
  | none=>rw [h2] at h;cases h
  | some qs =>
   rw [h2] at h
   have h:(if okM k qs=true then some (k,qs) else none)=some (a,rs):=h
   by_cases ho:okM k qs=true
   ·rw [if_pos ho] at h
    cases h
    refine ygu (zi5 h1).1 ho λcs hcs=>?_
    obtain ⟨u,_,e⟩:=zja h2 cs hcs
    exact (zoj e).1
   ·rw [if_neg ho] at h;cases h
theorem yg3 {a:Nat}{z:Str}{as:List Nat}(ha:a<=24) (h:ze1 a z=some as):(∀k∈as,k<24)/\as.length<=z.length:=by
 unfold ze1 at h
 by_cases h1:z = "-"
 ·rw [if_pos h1] at h;cases h;exact ⟨(λk hk=>by cases hk),Nat.zero_le _⟩
 ·rw [if_neg h1] at h
  by_cases h2:z = ""
  ·rw [if_pos h2] at h;cases h
  ·rw [if_neg h2] at h
   refine ⟨λk hk=>?_,?_⟩
   ·obtain ⟨c,_,e⟩:=zja h k hk
    have:=(zi5 e).1
    omega
   ·rw [zkl h,TX.len_eq];exact qlr _
theorem yg4 {way a:Nat}{z:Str}{S:Sto}(ha:a<=5) (hz:z.length<=20000):∃S',zez [.int (way:Int),.int (a:Int),.str z] S=some (.bl true,S')/\Gr S S':=by
 have hz10:z.length+10<=sizeLine:=Nat.le_trans (Nat.add_le_add_right hz 10) (by decide)
 obtain ⟨S1,e,g⟩:=yg1 (way:=way) (a:=a) (z:=z) (S:=S) ha hz10
 by_cases h:way=0
 ·have e1:rdM way [.int (a:Int),.str z]=zf7 [.str z]:=by funext S;rw [zks,if_pos h]
  have e2:rdZ way [.int (a:Int),.str z]=zgz [.str z]:=by funext S;rw [zkt,if_pos h]
  refine zox (o:=(ze2 z).map λm=>mD m.1 m.2) ?_ (λv hv=>?_) (by rw [e1,e2];exact yfm hz10) (λv hv=>?_) e g
  ·unfold zih;rw [if_pos h];cases ze2 z <;> rfl
  ·cases hm:ze2 z with
   | none=>rw [hm] at hv;cases hv
   | some m=>rw [hm] at hv;cases hv;rfl
  ·cases hm:ze2 z with
   | none=>rw [hm] at hv;cases hv
   | some m=>rw [hm] at hv;cases hv;exact ygv (yg2 (a:=m.1) (rs:=m.2) hm)
 ·by_cases h1:way=1
  ·have e1:rdM way [.int (a:Int),.str z]=zd1 [.str z]:=by funext S;rw [zks,if_neg h,if_pos h1]
   have e2:rdZ way [.int (a:Int),.str z]=zep [.str z]:=by funext S;rw [zkt,if_neg h,if_pos h1]
   refine zox (o:=(zdd z).map cD) ?_ (λv hv=>?_) (by rw [e1,e2];exact zuj (by omega)) (λv hv=>?_) e g
   ·unfold zih;rw [if_neg h,if_pos h1];cases zdd z <;> rfl
   ·cases hm:zdd z with
    | none=>rw [hm] at hv;cases hv
    | some m=>rw [hm] at hv;cases hv;rfl
   ·cases hm:zdd z with
    | none=>rw [hm] at hv;cases hv
    | some m=>rw [hm] at hv;cases hv;exact ygt (zof hm)
  ·have e1:rdM way [.int (a:Int),.str z]=zf8 [.int (a:Int),.str z]:=by funext S;rw [zks,if_neg h,if_neg h1]
   have e2:rdZ way [.int (a:Int),.str z]=zg0 [.int (a:Int),.str z]:=by funext S;rw [zkt,if_neg h,if_neg h1]
   refine zox (o:=(ze1 a z).map wD) ?_ (λv hv=>?_) (by rw [e1,e2];exact yfc (by omega) (by omega)) (λv hv=>?_) e g
   ·unfold zih;rw [if_neg h,if_neg h1];cases ze1 a z <;> rfl
   ·cases hm:ze1 a z with
    | none=>rw [hm] at hv;cases hv
    | some m=>rw [hm] at hv;cases hv;rfl
   ·cases hm:ze1 a z with
    | none=>rw [hm] at hv;cases hv
    | some m =>
     rw [hm] at hv;cases hv
     have:=yg3 (by omega) hm
     exact ygw this.1 (by omega)
theorem zvf {e f:EM}{l:Lo}{S:Sto}{x y:Str}(he:e l S=some (.str x,S)) (hf:f l S=some (.str y,S)) (hz:x.length+y.length<=sizeLine):eOp dPlusA e f l S=some (.str (x++y),S):=by
 unfold eOp
 rw [he]
 simp only [Option.bind_some,hf]
 show (match zho (.str x) (.str y) S with|some v=>some v|none=>zlh (.str x) (.str y) S)=_
 have:zho (.str x) (.str y) S=some (.str (x++y),S):=by unfold zho;simp only [hz,if_true]
 rw [this]
theorem yg5 (z:Str) (a b:Option Int):(Txt.slice z a b).length<=z.length:=PyProof.Txt.length_slice_le z a b
noncomputable def few:Str:="0123456789-/:|; +"
theorem yg6:few.length=17:=by decide +kernel
theorem yg7 (S:Sto):∃w,zif [] S=some (.str w,S)/\1<=w.length/\w.length<=200:=by
 have l1:(" !\"#$&'()*+,-./0123456789:;<=>?@ABCDEFGHIJKLMNOPQRSTUVWXYZ[\\]^_`":Str).length=64:=by decide +kernel
 have l2:("abcdefghijklmnopqrstuvwxyz{|}~\n":Str).length=31:=by decide +kernel
 refine ⟨(" !\"#$&'()*+,-./0123456789:;<=>?@ABCDEFGHIJKLMNOPQRSTUVWXYZ[\\]^_`" : Str) ++ "abcdefghijklmnopqrstuvwxyz{|}~\n",?_,?_,?_⟩
 ·unfold zif zta
  rw [zeu (l:=[none]) rfl,zbf (zdk (i:=0) (S':=S) rfl),zf9]
  exact zvf (zak rfl) rfl (by rw [l1,l2];decide)
 ·rw [Str.length_append,l1,l2];decide
 ·rw [Str.length_append,l1,l2];decide
theorem zkw {n:Nat}{m:Int}{l:Lo}{S:Sto}{e:EM}(h:PQ n S) (h1:0<m) (h2:m<1073741824) (hl:l[0]? = some (some (.ref n))) (he:e l S=some (.int m,S)):∃(d:Nat) (S':Sto),zac zco (zaa (eVar 0) (zaa e (zab))) l S=some (.int (d:Int),S')/\(d:Int)<m/\PQ n S'/\Fn n S S':=by
 obtain ⟨v,S',e1,⟨d,rfl,hd⟩,p,f⟩:=zej n m S h h1 h2
 exact ⟨d,S',by rw [zbl (zds (zak hl) he)];exact e1,hd,p,f⟩
theorem zoy {e f:EM}{l:Lo}{S S1 S2:Sto}{i j:Int}(he:e l S=some (.int i,S1)) (hf:f l S1=some (.int j,S2)):eOp dPlusA e f l S=some (.int (i+j),S2):=by
 unfold eOp
 rw [he]
 simp only [Option.bind_some,hf]
 rfl
def TxL (B:Nat) (d:D):Prop:=∃w:Str,d=.str w/\w.length<=B
theorem zg3 {e f:EM}{l:Lo}{S:Sto}{A B:Nat}(he:∃d,e l S=some (d,S)/\TxL A d) (hf:∃d,f l S=some (d,S)/\TxL B d) (hz:A+B<=sizeLine):∃d,eOp dPlusA e f l S=some (d,S)/\TxL (A+B) d:=by
 obtain ⟨_,e1,x,rfl,hx⟩:=he
 obtain ⟨_,e2,y,rfl,hy⟩:=hf
 exact ⟨_,zvf e1 e2 (by omega),_,rfl,by rw [Str.length_append];omega⟩
theorem zfi {lo hi:OM}{l:Lo}{S:Sto}{z:Str}{a b:Option Int}(hl:l[1]? = some (some (.str z))) (h1:lo l S=some (a,S)) (h2:hi l S=some (b,S)) (hz:z.length<=sizeLine):∃d,zbu (eVar 1) lo hi l S=some (d,S)/\TxL z.length d:=⟨_,zkq (zak hl) h1 h2 hz,_,rfl,yg5 _ _ _⟩
theorem zmh {l:Lo}{S:Sto}{i B:Nat}{d:D}(hl:l[i]? = some (some d)) (h:TxL B d):∃d,eVar i l S=some (d,S)/\TxL B d:=⟨d,zak hl,h⟩
noncomputable def zvg:SM:=zag (sIf (tE (eOp dEq (eVar 2) (eC (.int 0)))) (sRet (eOp dPlusA (eOp dPlusA (zbu (eVar 1) (zda) (zbb (eVar 6))) (eVar 5)) (zbu (eVar 1) (zbb (eVar 6)) (zda)))) (zat)) (zag (sIf (tE (eOp dEq (eVar 2) (eC (.int 1)))) (sRet (eOp dPlusA (zbu (eVar 1) (zda) (zbb (eVar 6))) (zbu (eVar 1) (zbb (eOp dPlusA (eVar 6) (eC (.int 1)))) (zda)))) (zat)) (zag (sIf (tE (eOp dEq (eVar 2) (eC (.int 2)))) (sRet (eOp dPlusA (eOp dPlusA (zbu (eVar 1) (zda) (zbb (eVar 6))) (eVar 5)) (zbu (eVar 1) (zbb (eOp dPlusA (eVar 6) (eC (.int 1)))) (zda)))) (zat)) (zag (sIf (tE (eOp dEq (eVar 2) (eC (.int 3)))) (zag (zaj (zbu (eVar 1) (zbb (eVar 6)) (zbb (eOp dPlusA (eVar 6) (eC (.int 1))))) (gName3 7)) (zag (zaj (zbu (eVar 1) (zbb (eOp dPlusA (eVar 6) (eC (.int 1)))) (zbb (eOp dPlusA (eVar 6) (eC (.int 2))))) (gName3 8)) (sRet (eOp dPlusA (eOp dPlusA (eOp dPlusA (zbu (eVar 1) (zda) (zbb (eVar 6))) (eVar 8)) (eVar 7)) (zbu (eVar 1) (zbb (eOp dPlusA (eVar 6) (eC (.int 2)))) (zda)))))) (zat)) (zag (zaj (eOp dPlusA (eVar 6) (zac zco (zaa (eVar 0) (zaa (eC (.int 6)) (zab))))) (gName3 9)) (zag (zaj (eOp dPlusA (zbu (eVar 1) (zda) (zbb (eVar 9))) (zbu (eVar 1) (zbb (eVar 6)) (zda))) (gName3 10)) (zag (zaj (eOp dPlusA (zbu (eVar 1) (zda) (zbb (eVar 6))) (zbu (eVar 1) (zbb (eVar 9)) (zda))) (gName3 11)) (sRet (eOp zam (zac za6 (zaa (eVar 10) (zaa (eVar 11) (zab)))) (eOp zjj (eVar 2) (eC (.int 4)))))))))))
theorem yg8 {n way at':Nat}{z:Str}{d3 d4 d5:D}{S:Sto}(p:PQ n S) (hw:way<6) (h5:TxL 1 d5) (hz:z.length<=4000):∃d S',(zvg [~~~n,some (.str z),‹way›,some d3,some d4,some d5,‹at'›,none,none,none,none,none] S).bind zet=some (d,S')/\TxL (4*z.length+1) d/\PQ n S'/\Fn n S S':=by
 have sz:20000<=sizeLine:=by decide
 have no:∀(k:Int) (l:Lo) (S:Sto),l[2]? = some (some (.int (way:Int)))->(way:Int)≠k->tE (eOp dEq (eVar 2) (eC (.int k))) l S=some (false,S):=λk l S h ne=>by
  rw [eq_int (zak h),decide_eq_false ne]
 have ye:∀(k:Int) (l:Lo) (S:Sto),l[2]? = some (some (.int (way:Int)))->(way:Int)=k->tE (eOp dEq (eVar 2) (eC (.int k))) l S=some (true,S):=λk l S h ne=>by
  rw [eq_int (zak h),decide_eq_true ne]
 have oa:∀(l:Lo) (S:Sto),l[6]? = some (some (.int (at':Int)))->zbb (eVar 6) l S=some (some (at':Int),S):=λl S h=>zhx (zak h)
 have op:∀(j:Int) (l:Lo) (S:Sto),l[6]? = some (some (.int (at':Int)))->zbb (eOp dPlusA (eVar 6) (eC (.int j))) l S=some (some ((at':Int)+j),S):=λj l S h=>zhx (zoy (zak h) rfl)
 have on:∀(l:Lo) (S:Sto),zda l S=some (none,S):=λ_ _=>rfl
 have fin:∀{e:EM} {b:SM} {t:TM} {l:Lo} {B:Nat},t l S=some (true,S)->(∃d,e l S=some (d,S)/\TxL B d)->B<=4*z.length+1->∃d S',((zag (sIf t (sRet e) (zat)) b) l S).bind zet=some (d,S')/\TxL (4*z.length+1) d/\PQ n S'/\Fn n S S':=λ{e b t l B} h he hB=>by
  obtain ⟨d,e1,w,rfl,hl⟩:=he
  refine ⟨.str w,S,?_,⟨w,rfl,by omega⟩,p,Fn.refl _ _⟩
  rw [zef (by rw [zdt h];exact zek e1)];rfl
 have skip:∀{a b:SM} {t:TM} {l:Lo},t l S=some (false,S)->zag (sIf t a (zat)) b l S=b l S:=λ{a b t l} h=>zbf (by rw [zdy h];rfl)
 generalize hL:([~~~n,some (.str z),‹way›,some d3,some d4,some d5,‹at'›,none,none,none,none,none]:Lo)=L
 have L0:L[0]? = some (some (.ref n)):=by rw [<-hL];rfl
 have L1:L[1]? = some (some (.str z)):=by rw [<-hL];rfl
 have L2:L[2]? = some (some (.int (way:Int))):=by rw [<-hL];rfl
 have L5:L[5]? = some (some d5):=by rw [<-hL];rfl
 have L6:L[6]? = some (some (.int (at':Int))):=by rw [<-hL];rfl
 unfold zvg
 by_cases w0:way=0
 ·exact fin (ye 0 L S L2 (by omega)) (zg3 (zg3 (zfi L1 (on _ _) (oa _ _ L6) (by omega)) (zmh L5 h5) (by omega)) (zfi L1 (oa _ _ L6) (on _ _) (by omega)) (by omega)) (by omega)
 rw [skip (no 0 L S L2 (by omega))]
 by_cases w1:way=1
 ·exact fin (ye 1 L S L2 (by omega)) (zg3 (zfi L1 (on _ _) (oa _ _ L6) (by omega)) (zfi L1 (op 1 _ _ L6) (on _ _) (by omega)) (by omega)) (by omega)
 rw [skip (no 1 L S L2 (by omega))]
 by_cases w2:way=2
 ·exact fin (ye 2 L S L2 (by omega)) (zg3 (zg3 (zfi L1 (on _ _) (oa _ _ L6) (by omega)) (zmh L5 h5) (by omega)) (zfi L1 (op 1 _ _ L6) (on _ _) (by omega)) (by omega)) (by omega)
 rw [skip (no 2 L S L2 (by omega))]
 by_cases w3:way=3
 ·obtain ⟨d7,e7,t7⟩:=zfi (S:=S) L1 (oa _ _ L6) (op 1 _ _ L6) (by omega)
  obtain ⟨d8,e8,t8⟩:=zfi (l:=L.set 7 (some d7)) (S:=S) (by rw [<-hL];rfl) (op 1 _ _ (by rw [<-hL];rfl)) (op 2 _ _ (by rw [<-hL];rfl)) (by omega)
  obtain ⟨d9,e9,t9⟩:=zg3 (zg3 (zg3 (zfi (l:=(L.set 7 (some d7)).set 8 (some d8)) (S:=S) (by rw [<-hL];rfl) (on _ _) (oa _ _ (by rw [<-hL];rfl)) (show z.length<=sizeLine by omega)) (zmh (i:=8) (by rw [<-hL];rfl) t8) (by omega)) (zmh (i:=7) (by rw [<-hL];rfl) t7) (by omega)) (zfi (by rw [<-hL];rfl) (op 2 _ _ (by rw [<-hL];rfl)) (on _ _) (by omega)) (by omega)
  refine ⟨d9,S,?_,?_,p,Fn.refl _ _⟩
  ·rw [zef (d:=d9) (by rw [zdt (ye 3 L S L2 (by omega)),zbf (zdk (i:=7) e7),zbf (zdk (i:=8) e8)];exact zek e9)];rfl
  ·obtain ⟨w,rfl,hl⟩:=t9
   exact ⟨w,rfl,by omega⟩
 rw [skip (no 3 L S L2 (by omega))]
 obtain ⟨dd,S1,e9,hd,p1,f1⟩:=zkw (n:=n) (m:=6) (l:=L) (S:=S) (e:=eC (.int 6)) p (by decide) (by decide) L0 rfl
 have s9:zaj (eOp dPlusA (eVar 6) (zac zco (zaa (eVar 0) (zaa (eC (.int 6)) (zab))))) (gName3 9) L S=some (.nx,L.set 9 (some (.int ((at':Int)+(dd:Int)))),S1):=zdk (zoy (zak L6) e9)
 rw [zbf s9]
 have oe:∀(l:Lo) (S:Sto),l[9]? = some (some (.int ((at':Int)+(dd:Int))))->zbb (eVar 9) l S=some (some ((at':Int)+(dd:Int)),S):=λl S h=>zhx (zak h)
 obtain ⟨d10,e10,t10⟩:=zg3 (zfi (l:=L.set 9 (some (.int ((at':Int)+(dd:Int))))) (S:=S1) (by rw [<-hL];rfl) (on _ _) (oe _ _ (by rw [<-hL];rfl)) (show z.length<=sizeLine by omega)) (zfi (by rw [<-hL];rfl) (oa _ _ (by rw [<-hL];rfl)) (on _ _) (by omega)) (by omega)
 rw [zbf (zdk (i:=10) e10)]
 obtain ⟨d11,e11,t11⟩:=zg3 (zfi (l:=(L.set 9 (some (.int ((at':Int)+(dd:Int))))).set 10 (some d10)) (S:=S1) (by rw [<-hL];rfl) (on _ _) (oa _ _ (by rw [<-hL];rfl)) (show z.length<=sizeLine by omega)) (zfi (by rw [<-hL];rfl) (oe _ _ (by rw [<-hL];rfl)) (on _ _) (by omega)) (by omega)
 rw [zbf (zdk (i:=11) e11),zf9]
 have q10:(((L.set 9 (some (.int ((at':Int)+(dd:Int))))).set 10 (some d10)).set 11 (some d11))[10]? = some (some d10):=by rw [<-hL];rfl
 have q11:(((L.set 9 (some (.int ((at':Int)+(dd:Int))))).set 10 (some d10)).set 11 (some d11))[11]? = some (some d11):=by rw [<-hL];rfl
 have q2:(((L.set 9 (some (.int ((at':Int)+(dd:Int))))).set 10 (some d10)).set 11 (some d11))[2]? = some (some (.int (way:Int))):=by rw [<-hL];rfl
 generalize ((L.set 9 (some (.int ((at':Int)+(dd:Int))))).set 10 (some d10)).set 11 (some d11)=L' at *
 have el:zac za6 (zaa (eVar 10) (zaa (eVar 11) (zab))) L' S1=some (.ref S1.length,S1++[.lst [d10,d11]]):=by
  rw [zbl (zds (zak q10) (zak q11))]
  show (if 2<=sizeLine then _ else _)=_
  rw [if_pos (by decide)]
 have es:eOp zjj (eVar 2) (eC (.int 4)) L' (S1++[.lst [d10,d11]])=some (.int ((way:Int)-4),S1++[.lst [d10,d11]]):=by
  unfold eOp;rw [zak q2];rfl
 have hx:∃d,zam (.ref S1.length) (.int ((way:Int)-4)) (S1++[.lst [d10,d11]])=some (d,S1++[.lst [d10,d11]])/\TxL (4*z.length+1) d:=by
  have key:∀(j:Nat) (d:D),(way:Int)-4=(j:Int)->[d10,d11][j]? = some d->zam (.ref S1.length) (.int ((way:Int)-4)) (S1++[.lst [d10,d11]])=some (d,S1++[.lst [d10,d11]]):=λj d h1 h2=>by
   obtain ⟨v,S',e1,rfl,rfl⟩:Wo (zam (.ref S1.length) (.int ((way:Int)-4)) (S1++[.lst [d10,d11]])) λv S'=>v=d/\S' = S1++[.lst [d10,d11]]:=by
    rw [zbh]
    exact ⟨_,za1,d,by rw [h1];exact atI_get h2,rfl,rfl⟩
   exact e1
  by_cases w4:way=4
  ·obtain ⟨w,rfl,hl⟩:=t10
   exact ⟨_,key 0 _ (by omega) rfl,w,rfl,by omega⟩
  ·obtain ⟨w,rfl,hl⟩:=t11
   exact ⟨_,key 1 _ (by omega) rfl,w,rfl,by omega⟩
 obtain ⟨d,ed,td⟩:=hx
 refine ⟨d,S1++[.lst [d10,d11]],?_,td,p1.gr ⟨_,rfl⟩,f1.trans (Fn.gr ⟨_,rfl⟩)⟩
 unfold eOp at es ⊢
 rw [el]
 simp only [Option.bind_some]
 rw [es]
 exact ed
theorem zvh {n:Nat}{z:Str}{S:Sto}(h:PQ n S) (hz:z.length<=4000):∃w S',zhr [.ref n,.str z] S=some (.str w,S')/\w.length<=4*z.length+1/\PQ n S'/\Fn n S S':=by
 have sz:20000<=sizeLine:=by decide
 obtain ⟨way,S1,e1,hw,p1,f1⟩:=zkw (n:=n) (m:=6) (l:=[~~~n,some (.str z),none,none,none,none,none,none,none,none,none,none]) (S:=S) (e:=eC (.int 6)) h (by decide) (by decide) rfl rfl
 obtain ⟨sg1,es,sl1,sl2⟩:=yg7 S1
 have el:zac za6 (zaa (zac zif (zab)) (zaa (eVar 3) (zab))) [~~~n,some (.str z),‹way›,some (.str few),none,none,none,none,none,none,none,none] S1=some (.ref S1.length,S1++[.lst [.str sg1,.str few]]):=by
  rw [zbl (zds (S1:=S1) (x:=.str sg1) es (zak rfl))]
  show (if 2<=sizeLine then _ else _)=_
  rw [if_pos (by decide)]
 obtain ⟨d2,S2,e2,hd2,p2,f2⟩:=zkw (n:=n) (m:=2) (l:=[~~~n,some (.str z),‹way›,some (.str few),none,none,none,none,none,none,none,none]) (S:=S1++[.lst [.str sg1,.str few]]) (e:=eC (.int 2)) (p1.gr ⟨_,rfl⟩) (by decide) (by decide) rfl rfl
 have hn:=p1.lt
 have l2:lstOf S2 S1.length=some [.str sg1,.str few]:=f2.lst (by omega) za1
 obtain ⟨sg2,hx2,b1,b2⟩:∃sg2:Str,[D.str sg1,.str few][d2]? = some (.str sg2)/\1<=sg2.length/\sg2.length<=200:=by
  have fl:=yg6
  have:d2=0\/d2=1:=by omega
  rcases this with rfl|rfl
  ·exact ⟨sg1,rfl,sl1,sl2⟩
  ·exact ⟨few,rfl,by omega,by omega⟩
 have s3:zaj (eOp zam (zac za6 (zaa (zac zif (zab)) (zaa (eVar 3) (zab)))) (zac zco (zaa (eVar 0) (zaa (eC (.int 2)) (zab))))) (gName3 4) [~~~n,some (.str z),‹way›,some (.str few),none,none,none,none,none,none,none,none] S1=some (.nx,[~~~n,some (.str z),‹way›,some (.str few),some (.str sg2),none,none,none,none,none,none,none],S2):=by
  refine zdk ?_
  obtain ⟨v,S',e3,rfl,rfl⟩:Wo (zam (.ref S1.length) (.int (d2:Int)) S2) λv S'=>v=.str sg2/\S' = S2:=by
   rw [zbh]
   exact ⟨_,l2,_,atI_get hx2,rfl,rfl⟩
  unfold eOp
  rw [el]
  simp only [Option.bind_some,e2]
  exact e3
 have ln:=len_str (e:=eVar 4) (l:=[~~~n,some (.str z),‹way›,some (.str few),some (.str sg2),none,none,none,none,none,none,none]) (S:=S2) (z:=sg2) (zak rfl) (by omega)
 obtain ⟨d3,S3,e4,hd3,p3,f3⟩:=zkw (n:=n) (m:=(sg2.length:Int)) (S:=S2) p2 (by omega) (by omega) rfl ln
 have lc:sg2.length=sg2.cps.toList.length:=by simp [Str.length]
 have s4:∃c,zaj (eOp zam (eVar 4) (zac zco (zaa (eVar 0) (zaa (zac za8 (zaa (eVar 4) (zab))) (zab))))) (gName3 5) [~~~n,some (.str z),‹way›,some (.str few),some (.str sg2),none,none,none,none,none,none,none] S2=some (.nx,[~~~n,some (.str z),‹way›,some (.str few),some (.str sg2),some (.str ⟨#[c]⟩),none,none,none,none,none,none],S3):=by
  refine ⟨sg2.cps.toList[d3]'(by omega),zdk ?_⟩
  obtain ⟨v,S',e5,rfl,rfl⟩:Wo (zam (.str sg2) (.int (d3:Int)) S3) λv S'=>v=.str ⟨#[sg2.cps.toList[d3]'(by omega)]⟩/\S' = S3:=by
   rw [zb9]
   exact ⟨by omega,_,atI_get (qge (by omega)),rfl,rfl⟩
  unfold eOp
  rw [zak (d:=.str sg2) rfl]
  simp only [Option.bind_some,e4]
  exact e5
 obtain ⟨c,s4⟩:=s4
 have ln5:=zoy (len_str (e:=eVar 1) (l:=[~~~n,some (.str z),‹way›,some (.str few),some (.str sg2),some (.str ⟨#[c]⟩),none,none,none,none,none,none]) (S:=S3) (z:=z) (zak rfl) (by omega)) (f:=eC (.int 1)) rfl
 obtain ⟨d5,S5,e6,hd5,p5,f5⟩:=zkw (n:=n) (m:=(z.length:Int)+1) (S:=S3) p3 (by omega) (by omega) rfl ln5
 obtain ⟨d,S',k1,⟨w,rfl,kw⟩,k2,k3⟩:=yg8 (n:=n) (way:=way) (at':=d5) (z:=z) (d3:=.str few) (d4:=.str sg2) (d5:=.str ⟨#[c]⟩) (S:=S5) p5 (by omega) ⟨⟨#[c]⟩,rfl,by show 1<=1;decide⟩ hz
 refine ⟨w,S',?_,kw,k2,f1.trans ((Fn.gr ⟨_,rfl⟩).trans (f2.trans (f3.trans (f5.trans k3))))⟩
 unfold zhr ztb
 rw [zeu (l:=[~~~n,some (.str z),none,none,none,none,none,none,none,none,none,none]) rfl,zbf (zdk (i:=2) e1),zbf (zdk (i:=3) (d:=.str few) (S':=S1) rfl)]
 show ((zag _ _) [~~~n,some (.str z),‹way›,some (.str few),none,none,none,none,none,none,none,none] S1).bind zet=_
 rw [zbf s3,zbf s4,zbf (zdk (i:=6) e6)]
 exact k1
theorem yg9 {S:Sto}{n k:Nat}{xs:List D}{Q:D->Sto->Prop}(h:S[n]? = some (.lst xs)) (hk:k<=100) (hx:xs.length<=1):Wo (zhc (.ref n) (.int (k:Int)) S) Q=Q (.ref S.length) (S++[.lst (List.replicate k xs).flatten]):=by
 have sz:1000<=sizeLine:=by decide
 have hm:xs.length*k<=1*100:=Nat.mul_le_mul hx hk
 have:zhc (.ref n) (.int (k:Int)) S=some (.ref S.length,S++[.lst (List.replicate k xs).flatten]):=by
  unfold zhc;simp only [h]
  rw [if_pos ⟨by omega,by omega,by rw [Int.toNat_natCast];omega⟩,Int.toNat_natCast]
 rw [this];exact zc6
theorem yha {k:Nat}{z:Str}:(List.replicate k [D.str z]).flatten=(List.replicate k z).map D.str:=by
 induction k with
 | zero=>rfl
 | succ k ih=>rw [List.replicate_succ,List.flatten_cons,ih,List.replicate_succ,List.map_cons];rfl
theorem zvi {sep z:Str}{i k:Nat}{l:Lo}{S:Sto}(hk:k<=50) (hz:z.length<=4) (hs:sep.length<=3) (hi:l[i]? = some (some (.int (k:Int)))) :
  We (zc7 zgm (eC (.str sep)) (zaa (eOp zhc (zac za6 (zaa (eC (.str z)) (zab))) (eVar i)) zab)) l S λv S'=>Gr S S'/\∃w:Str,v=.str w/\w.length<=1000:=by
 have sz1:1<=sizeLine:=by decide
 rw [zbx,zay]
 refine ⟨rfl,?_⟩
 simp only [zar,zap,za0,zau,zay,zaq,hi,zas,zbr,List.length_cons,List.length_nil,Nat.reduceAdd,sz1,true_and]
 rw [yg9 (zdh _ _) (by omega) (by simp),yha]
 simp only [zlu,za1,za5,zlx]
 have h1:=zkh (B:=4) (List.replicate k z) λt ht=>by rw [(List.mem_replicate.mp ht).2];exact hz
 rw [List.length_replicate] at h1
 have h2:k*sep.length<=k*3:=Nat.mul_le_mul (qlr _) hs
 have h3:((List.replicate k z).map (·.length)).sum+(List.replicate k z).length*sep.length<=1000:=by rw [List.length_replicate];omega
 exact ⟨Nat.le_trans h3 (by decide),((Gr.refl S).push _).push _,_,rfl,Nat.le_trans (StrLaws.join_length_le _ _) h3⟩
def Ed (S0:Sto) (K:Nat) (l:Lo) (S:Sto):Prop:=Gr S0 S/\∃(m:Nat) (ts:List Str) (y1 y2:Option D),l=[~~~m,y1,y2]/\S0.length<=m/\S[m]? = some (.lst (ts.map D.str))/\ts.length<=K/\∀t∈ts,t.length<=2000
theorem zvj {S0:Sto}{m K:Nat}{ts:List Str}{y1 y2:Option D}{e:EM}{S:Sto}(g:Gr S0 S) (hm:S0.length<=m) (h:S[m]? = some (.lst (ts.map D.str))) (hl:ts.length<=K) (hK:K<=100) (ht:∀t∈ts,t.length<=2000)
  (he:We e [~~~m,y1,y2] S λv S'=>Gr S S'/\∃w:Str,v=.str w/\w.length<=2000):Ws (zdz (zfr zfq (eVar 0) (zaa e zab))) [~~~m,y1,y2] S λf l S'=>f=.nx/\Ed S0 (K+1) l S':=by
 rw [zb4,zb3,zaq]
 simp only [qg0,zas]
 refine ⟨⟨_,zei h⟩,?_⟩
 rw [zar]
 refine Wo.mono he ?_
 rintro v S1 ⟨g1,w,rfl,hw⟩
 rw [zap,znf]
 refine ⟨_,g1.get h,by rw [qlm];exact Nat.lt_of_le_of_lt (show ts.length<=100 by omega) (by decide),nofun,(g.trans g1).set hm _,m,ts++[w],_,_,rfl,hm,?_,by simp;omega,λt hq=>?_⟩
 ·rw [zi3 (g1.get h),List.map_append];rfl
 ·rcases List.mem_append.mp hq with q|q
  ·exact ht t q
  ·rw [List.mem_singleton.mp q];exact hw
theorem zvk {S0:Sto}{K:Nat}{us:List Str}{as:AM}{l:Lo}{S:Sto}(h:Ed S0 K l S) (hK:K<=100) (ha:∀S,as l S=some (us.map D.str,S)) (hu:us.length<=20) (hus:∀t∈us,t.length<=2000):∃(S':Sto) (r:Nat) (ts:List Str),eOp dPlusA (eVar 0) (zac za6 as) l S=some (.ref r,S')/\Gr S0 S'/\S0.length<=r/\S'[r]? = some (.lst (ts.map D.str))/\ts.length<=K+us.length/\us.length<=ts.length/\∀t∈ts,t.length<=2000:=by
 obtain ⟨g,m,ts,y1,y2,rfl,hm,h,hl,ht⟩:=h
 have el:=zgb (ha S) (by rw [qlm];omega)
 have g1:Gr S (S++[.lst (us.map D.str)]):=⟨_,rfl⟩
 have q1:(S++[Ob.lst (us.map D.str)])[S.length]? = some (.lst (us.map D.str)):=zdh _ _
 generalize S++[Ob.lst (us.map D.str)]=S1 at el g1 q1
 obtain ⟨v,S',e,rfl,rfl⟩:Wo (dPlusA (.ref m) (.ref S.length) S1) λv S'=>v=.ref S1.length/\S' = S1++[.lst (ts.map D.str++us.map D.str)]:=by
  rw [znw (g1.get h) q1];exact ⟨ze8 (by rw [qlm,qlm];omega),rfl,rfl⟩
 refine ⟨S1++[.lst (ts.map D.str++us.map D.str)],S1.length,ts++us,?_,(g.trans g1).push _,(g.trans g1).len,?_,by simp;omega,by simp,λt hq=>?_⟩
 ·unfold eOp
  rw [zak rfl]
  simp only [Option.bind_some]
  rw [el];exact e
 ·rw [zdh,List.map_append]
 ·rcases List.mem_append.mp hq with q|q
  ·exact ht t q
  ·exact hus t q
theorem zoz {S0:Sto}{K:Nat}{us:List Str}{as:AM}{l:Lo}{S:Sto}(h:Ed S0 K l S) (hK:K<=100) (ha:∀S,as l S=some (us.map D.str,S)) (hu:us.length<=20) (hus:∀t∈us,t.length<=2000):Ws (zaj (eOp dPlusA (eVar 0) (zac za6 as)) (gName3 0)) l S λf l S'=>f=.nx/\Ed S0 (K+us.length) l S':=by
 obtain ⟨S',r,ts,e,g,hr,q,h1,_,h2⟩:=zvk h hK ha hu hus
 obtain ⟨_,m,_,y1,y2,rfl,_⟩:=h
 exact ⟨.nx,_,S',zdk (i:=0) e,rfl,g,r,ts,y1,y2,rfl,hr,q,h1,h2⟩
theorem zo0 {l:Lo}(zs:List Str) (S:Sto):aTx zs l S=some (zs.map D.str,S):=by
 have:Wa (aTx zs) l S λxs S1=>xs=zs.map D.str/\S1=S:=by rw [ydb];exact ⟨rfl,rfl⟩
 obtain ⟨_,_,e,rfl,hS⟩:=this
 rw [hS] at e;exact e
theorem edges_ok {S:Sto}:Wo (zkg [] S) λv S'=>Gr S S'/\∃(r:Nat) (ts:List Str),v=.ref r/\S.length<=r/\S'[r]? = some (.lst (ts.map D.str))/\1<=ts.length/\ts.length<=100/\∀t∈ts,t.length<=2000:=by
 have sz0:0<=sizeLine:=by decide
 have sz2:2<=sizeLine:=by decide
 unfold zkg ztj
 dsimp! only [zbe]
 refine zc8 (λl S'=>Ed S 0 l S') ?_ ?_
 ·simp only [zbe,zbm,zbd,zbj,za0,zcq,zaq,zay,za7,zbs,zb4,zbk,zav,zch,zce,zcf,zcg,zau,zb3,zbx,zar,zap,zcd,zcr,zcs,zct,zcu,zcv,zbq,zb5,zcc,zc1,zci,zcj,zbw,zbh,zb9,zck,zcl,zcn,zb1,zc2,zby,zbr,zb6,zbz,zc3,zc4,zcw,zcx,zb2,zca,zc5,zcb,List.map_cons,List.map_nil,List.length_cons,List.length_nil,Nat.reduceAdd,Nat.reduceSub,List.replicate,List.cons_append,List.nil_append,qg0,qg1,qs0,qs1,zas,za5,zbg,zcm,zcz,zc0,zb7,zb8,za1,decide_eq_true_eq,sz0,true_and]
  refine ⟨⟨_,rfl⟩,S.length,[],_,_,rfl,qlr _,zdh _ _,qlr _,λt h=>by cases h⟩
 rintro l S1 h1
 refine zc8 (λl S'=>Ed S 2 l S') ?_ ?_
 ·have e:zac zbo (zaa (eC (.int 24)) (zaa (eC (.int 25)) (zab))) l S1=some (.tup [.int 24,.int 25],S1):=by
   rw [zbl (zds (x:=.int 24) (y:=.int 25) (S1:=S1) (S2:=S1) rfl rfl)]
   show (if 2<=sizeLine then _ else _)=_
   rw [if_pos sz2]
  refine yc6 [.int 24,.int 25] (λi l S'=>Ed S i l S'/\i<=2) (λ_ _=>False) e ⟨h1,by decide⟩ ?_ (λl S' q=>⟨rfl,q.1⟩) (λ_ _ _ q=>q.elim)
  rintro i x l S2 hx ⟨⟨g,m,ts,y1,y2,rfl,hm,h,hl,ht⟩,hi⟩
  have hi2:i<2:=by have:=(qme hx).1;simpa using this
  obtain ⟨k,rfl,hk⟩:∃k:Nat,x=.int (k:Int)/\k<=50:=by
   rcases List.mem_cons.mp (qmg hx) with rfl|q
   ·exact ⟨24,rfl,by decide⟩
   ·exact ⟨25,List.mem_singleton.mp q,by decide⟩
  simp only [zav,qs0,qs1]
  refine (zvj g hm h hl (by omega) ht ?_).mono ?_
  ·rw [za0,zay]
   refine Wo.mono (zvi (sep:=" | ") (z:="23/7") (k:=k) hk (by decide +kernel) (by decide +kernel) rfl) ?_
   rintro v S3 ⟨g3,w,rfl,hw⟩
   have l3:("1: ":Str).length=3:=by decide +kernel
   rw [zj4]
   exact ⟨ze8 (by omega),g3,_,rfl,by rw [Str.length_append];omega⟩
  ·rintro f l S3 ⟨rfl,h3⟩
   exact .inl ⟨.inl rfl,h3,by omega⟩
 rintro l S2 h2
 refine zc8 (λl S'=>Ed S 8 l S') ?_ ?_
 ·refine zlw (n:=6) (λi l S'=>Ed S (2+i) l S') (λ_ _=>False) (as1 rfl) (by decide) h2 ?_ (λl S' q=>⟨rfl,q⟩) (λ_ _ _ q=>q.elim)
  rintro i l S3 hi ⟨g,m,ts,y1,y2,rfl,hm,h,hl,ht⟩
  simp only [zav,qs0,qs1]
  refine (zvj g hm h hl (by omega) ht ?_).mono ?_
  ·have lg:((i:Nat):Int).natAbs.log2<1920:=zgx (by omega)
   have ln:=zl1 (k:=i) (by omega)
   have e:(toString ((i:Nat):Int):Str)=nt i:=rfl
   rw [za0,za0,zau]
   simp only [zar,zap,zaq,qg0,qg1,zas,zb2,lg,true_and,e,zay,zj4]
   refine ⟨ze8 (by rw [zi4];omega),?_⟩
   refine Wo.mono (zvi (sep:=" ") (z:="0/0") (k:=i) (by omega) (by decide +kernel) (by decide +kernel) rfl) ?_
   rintro v S4 ⟨g4,w,rfl,hw⟩
   rw [zj4]
   exact ⟨ze8 (by rw [Str.length_append,zi4];omega),g4,_,rfl,by rw [Str.length_append,Str.length_append,zi4];omega⟩
  ·rintro f l S4 ⟨rfl,h4⟩
   exact .inl ⟨.inl rfl,h4⟩
 rintro l S3 h3
 refine zc8 (λl S'=>Ed S 16 l S') (zoz h3 (by decide) (λS=>zo0 _ S) (by decide) (by decide +kernel)) ?_
 rintro l S4 h4
 refine zc8 (λl S'=>Ed S 17 l S') (zoz (us:=["1:  0/0"]) h4 (by decide) (λS=>rfl) (by decide) (by decide +kernel)) ?_
 rintro l S5 h5
 refine zc8 (λl S'=>Ed S 24 l S') (zoz h5 (by decide) (λS=>zo0 _ S) (by decide) (by decide +kernel)) ?_
 rintro l S6 h6
 obtain ⟨S',r,ts,e,g,hr,q,h1,h2,h3⟩:=zvk (us:=["1: ","1:","-"]) (as:=zaa (eC (.str "1: ")) (zaa (eC (.str "1:")) (zaa (eC (.str "-")) (zab)))) h6 (by decide) (λS=>rfl) (by decide) (by decide +kernel)
 rw [zbs]
 exact ⟨_,S',e,g,r,ts,rfl,hr,q,Nat.le_trans (by decide) h2,Nat.le_trans h1 (by decide),h3⟩
theorem zvl {x:D}{S:Sto}{T:String}(h:tyD S x=some T) (hT:isI T "str" = false):zf7 [x] S=none/\zgz [x] S=some (("NoText":Str),S):=by
 obtain ⟨h1,h2⟩:=zoe h hT
 constructor
 ·unfold zf7 zn3
  rw [zeu (l:=[some x,none,none,none,none,none,none]) rfl,zht (by unfold zdz;rw [zbl (zdf (zak rfl)),h1];rfl)];rfl
 ·show zka [some x,none,none,none,none,none,none] S=_
  unfold zka
  rw [zhv (c:=("NoText",S)) (by rw [ze0 (zdf (zak rfl)),h2])]
theorem zvm {x:D}{S:Sto}{T:String}(h:tyD S x=some T) (hT:isI T "str" = false):zd1 [x] S=none/\zep [x] S=some (("NoText":Str),S):=by
 obtain ⟨h1,h2⟩:=zoe h hT
 constructor
 ·unfold zd1 zn2
  rw [zeu (l:=[some x,none]) rfl,zht (by unfold zdz;rw [zbl (zdf (zak rfl)),h1];rfl)];rfl
 ·show zj9 [some x,none] S=_
  unfold zj9
  rw [zhv (c:=("NoText",S)) (by rw [ze0 (zdf (zak rfl)),h2])]
theorem zvn {x a:D}{S:Sto}{T:String}(h:tyD S x=some T) (hT:isI T "str" = false):zf8 [a,x] S=none/\zg0 [a,x] S=some (("NoText":Str),S):=by
 obtain ⟨h1,h2⟩:=zoe h hT
 constructor
 ·unfold zf8 zn4
  rw [zeu (l:=[some a,some x]) rfl,zht (by unfold zdz;rw [zbl (zdf (zak rfl)),h1];rfl)];rfl
 ·show zkb [some a,some x] S=_
  unfold zkb
  rw [zhv (c:=("NoText",S)) (by rw [ze0 (zdf (zak rfl)),h2])]
theorem yhb {l:Lo}{S:Sto}{Q:D->Sto->Prop}:We zlm l S Q=Q (.ref S.length) (S++[.dct []]):=zc6
def Bad (S:Sto) (x:D):Prop:=∃T,tyD S x=some T/\isI T "str" = false
theorem yhc {S:Sto}{n:Nat}{xs:List D}(h:S[n]? = some (.lst xs)):Bad S (.ref n):=⟨"list",by unfold tyD;simp only [h],by decide⟩
theorem yhd {S:Sto}{n:Nat}(h:S[n]? = some (.dct [])):Bad S (.ref n):=⟨"dict",by unfold tyD;simp only [h],by decide⟩
theorem yhe {way:Nat}{x a:D}{S:Sto}(h:Bad S x):zey [.int (way:Int),a,x] S=some (.tup [.str "refused",.bl true],S++[.exc "NoText"]):=by
 obtain ⟨T,h1,h2⟩:=h
 refine zvb (way:=way) (many:=a) ?_ ?_
 ·rw [zks]
  by_cases hw:way=0
  ·rw [if_pos hw];exact (zvl h1 h2).1
  ·rw [if_neg hw]
   by_cases hw1:way=1
   ·rw [if_pos hw1];exact (zvm h1 h2).1
   ·rw [if_neg hw1];exact (zvn h1 h2).1
 ·rw [zkt]
  by_cases hw:way=0
  ·rw [if_pos hw];exact (zvl h1 h2).2
  ·rw [if_neg hw]
   by_cases hw1:way=1
   ·rw [if_pos hw1];exact (zvm h1 h2).2
   ·rw [if_neg hw1];exact (zvn h1 h2).2
theorem zvo (S:Sto):zax S 60 (.tup [.str "refused",.bl true])=some (.tuple [.str "refused",.bool true]):=by simp [zax,pyAll]
theorem yhf:(PyData.tuple [.str "refused",.bool true]).canLay0=true:=by
 unfold PyData.canLay0
 rw [PyData.canLayAll0,PyData.canLayAll0,PyData.canLayAll0]
 unfold PyData.canLay0
 rw [zvd];rfl
theorem yhg {S:Sto}{x y:D}{p:PyData}{Q:D->Sto->Prop}(h1:zax S 60 x=some p) (h2:zax S 60 y=some p) (c1:p.canLay0=true):Wo (zh9 x y S) Q=Q (.bl false) S:=by
 have:zh9 x y S=some (.bl false,S):=by
  unfold zh9;rw [h1];show (zax S 60 y).bind _=_;rw [h2];show (if _ then _ else _)=_;rw [if_pos ⟨c1,c1⟩,PySem.SeqAt.eqv_refl p c1];rfl
 rw [this];exact zc6
theorem yhh {x y:Str}(i:Nat) (hi:(i:Int)<2):∃z:Str,L2.atI [D.str x,.str y] (i:Int)=some (.str z)/\(z=x\/z=y):=by
 have:i=0\/i=1:=by omega
 rcases this with rfl|rfl
 ·exact ⟨x,rfl,.inl rfl⟩
 ·exact ⟨y,rfl,.inr rfl⟩
theorem yhi {g:GM}{b:SM}(P:Nat->Lo->Sto->Prop) (O:D->Sto->Prop) {as:AM}{l:Lo}{S:Sto}{QS:Fl->Lo->Sto->Prop}(h:Wa as l S λxs S1=>∃n:Nat,xs=[.int (n:Int)]/\n<1000/\P 0 l S1)
  (step:∀(i:Nat) l S,i<1000->P i l S->Wg (g (.int i) l S) λl1 S1=>Ws b l1 S1 λf l2 S2=>((f=.nx\/f=.ct)/\P (i+1) l2 S2)\/∃d,f=.rt d/\O d S2)
  (fin:∀i l' S',P i l' S'->QS .nx l' S') (out:∀d l' S',O d S'->QS (.rt d) l' S'):Ws (zgj (zeg as) g b) l S QS:=by
 obtain ⟨xs,S1,e,n,rfl,hn,p⟩:=h
 exact zlw P O e (by omega) p (λi l S hi hp=>step i l S (by omega) hp) (λl S hp=>fin n l S hp) out
theorem yhj {i j:Int}{S:Sto}{Q:D->Sto->Prop}:Wo (zjo [.int i,.int j] S) Q=Q (.int (if j<i then j else i)) S:=zc6
theorem yhk {i j:Int}{S:Sto}{Q:D->Sto->Prop}:Wo (zjp [.int i,.int j] S) Q=Q (.int (if j > i then j else i)) S:=zc6
theorem nr {e1 e2 e3:EM}{way a:Nat}{l:Lo}{S S0:Sto}{z:Str}(he:zaa e1 (zaa e2 (zaa e3 (zab))) l S=some ([.int (way:Int),.int (a:Int),.str z],S0)) (ha:a<=5) (hz:z.length<=20000):∃S',zdi (tE (zac zez (zaa e1 (zaa e2 (zaa e3 (zab)))))) l S=some (false,S')/\Gr S0 S':=by
 obtain ⟨S',k,g⟩:=yg4 (way:=way) (a:=a) (z:=z) (S:=S0) ha hz
 refine ⟨S',?_,g⟩
 unfold zdi tE
 rw [zbl he,k]
 rfl
structure Tn (ns:List Int) (n r:Nat) (ts:List Str) (S:Sto):Prop where
 h0:lstOf S 0=some (ns.map D.int)
 p:PQ n S
 hr:S[r]? = some (.lst (ts.map D.str))
theorem Tn.gr {ns:List Int}{n r:Nat}{ts:List Str}{S S':Sto}(h:Tn ns n r ts S) (g:Gr S S'):Tn ns n r ts S':=⟨g.lst h.h0,h.p.gr g,g.get h.hr⟩
theorem Tn.fn {ns:List Int}{n r:Nat}{ts:List Str}{S S':Sto}(h:Tn ns n r ts S) (h0:0≠n) (hr:r≠n) (f:Fn n S S') (p:PQ n S'):Tn ns n r ts S':=⟨f.lst h0 h.h0,p,f r _ hr h.hr⟩
noncomputable def loc (r k n way a:Nat) (m:D) (y7 y8 y9 y10:Option D):Lo:=[~~~0,~~~r,‹k›,~~~n,‹way›,‹a›,some m,y7,y8,y9,y10]
noncomputable def bT2:SM:=zag (zaj (zac zhr (zaa (eVar 3) (zaa (eVar 7) (zab)))) (gName3 8)) (zag (sIf (tE (eOp dEq (zac zco (zaa (eVar 3) (zaa (eC (.int 3)) (zab)))) (eC (.int 0)))) (zaj (zac zhr (zaa (eVar 3) (zaa (eVar 8) (zab)))) (gName3 8)) (zat)) (zag (sIf (zdu (zdi (tE (zac zez (zaa (eVar 4) (zaa (eVar 5) (zaa (eVar 8) (zab))))))) (zdi (tE (zac zez (zaa (eVar 4) (zaa (eVar 5) (zaa (eVar 7) (zab)))))))) (sRet (eC (.bl false))) (zat)) (zag (sIf (zdi (tE (zac zez (zaa (eC (.int 0)) (zaa (eVar 5) (zaa (eOp zam (eVar 1) (zac zco (zaa (eVar 3) (zaa (zac za8 (zaa (eVar 1) (zab))) (zab))))) (zab))))))) (sRet (eC (.bl false))) (zat)) (zag (zaj (eOp zam (zac za6 (zaa (eC .non) (zaa (eC (.bl true)) (zaa (eC (.int 0)) (zaa (zac zbo (zab)) (zaa (zac za6 (zaa (eVar 7) (zab))) (zaa (zac zbo (zaa (eVar 7) (zab))) (zaa (zlm) (zaa (eVar 6) (zab)))))))))) (zac zco (zaa (eVar 3) (zaa (eC (.int 8)) (zab))))) (gName3 9)) (sIf (tE (eOp zh9 (zac zey (zaa (eVar 4) (zaa (eVar 5) (zaa (eVar 9) (zab))))) (zac zbo (zaa (eC (.str "refused")) (zaa (eC (.bl true)) (zab)))))) (sRet (eC (.bl false))) (zat))))))
theorem zvp {t:TM}{a:SM}{l:Lo}{S S':Sto}(h:t l S=some (false,S')):sIf t a (zat) l S=some (.nx,l,S'):=by rw [zdy h];rfl
theorem yhl {ns:List Int}{r k n way a:Nat}{ts:List Str}{xs:List D}{w:Str}{y8 y9 y10:Option D}{S:Sto}(t:Tn ns n r ts S) (h0n:0≠n) (hrn:r≠n) (ha1:1<=a) (ha:a<=4) (h1:1<=ts.length) (h100:ts.length<=100) (hts:∀t∈ts,t.length<=2000) (hw:w.length<=800) :
  Ws bT2 (loc r k n way a (.tup xs) (some (.str w)) y8 y9 y10) S λf l S'=>f=.nx/\l.length=11/\l[0]? = some (some (.ref 0))/\l[1]? = some (some (.ref r))/\lstOf S' 0=some (ns.map D.int)/\S'[r]? = some (.lst (ts.map D.str)):=by
 have sz0:0<=sizeLine:=by decide
 have sz1:1<=sizeLine:=by decide
 have sz2:2<=sizeLine:=by decide
 have sz8:8<=sizeLine:=by decide
 unfold bT2
 refine zc8 (λl S'=>Tn ns n r ts S'/\∃u:Str,u.length<=3300/\l=loc r k n way a (.tup xs) (some (.str w)) (some (.str u)) y9 y10) ?_ ?_
 ·unfold loc
  obtain ⟨u,S4,e4,hw4,p4,f4⟩:=zvh (z:=w) t.p (by omega)
  simp only [za7,zau,zar,zap,zaq,qg0,qg1,zas,e4,zc6,zav,qs0,qs1]
  exact ⟨nofun,t.fn h0n hrn f4 p4,u,by omega,rfl⟩
 rintro l S2 ⟨t2,u,hu2,rfl⟩
 refine zc8 (λl S'=>Tn ns n r ts S'/\∃u:Str,u.length<=15000/\l=loc r k n way a (.tup xs) (some (.str w)) (some (.str u)) y9 y10) ?_ ?_
 ·rw [zbd]
  unfold loc
  simp only [zbj,za0,zau,zar,zap,zaq,zay,qg0,qg1,zas]
  refine (zej n 3 S2 t2.p (by decide) (by decide)).mono ?_
  rintro x S3 ⟨⟨d,rfl,hd⟩,p3,f3⟩
  have t3:=t2.fn h0n hrn f3 p3
  simp only [zbz,zbg]
  by_cases d0:(d:Int)=0
  ·obtain ⟨u',S4,e4,hw4,p4,f4⟩:=zvh (z:=u) t3.p (by omega)
   simp only [d0,decide_true,if_true,za7,zau,zar,zap,zaq,qg0,qg1,zas,e4,zc6,zav,qs0,qs1]
   exact ⟨nofun,t3.fn h0n hrn f4 p4,u',by omega,rfl⟩
  ·simp only [d0,decide_false,qbf,if_false,zbk]
   exact ⟨nofun,t3,u,by omega,rfl⟩
 rintro l S3 ⟨t3,u,hu3,rfl⟩
 refine zc8 (λl S'=>Tn ns n r ts S'/\l=loc r k n way a (.tup xs) (some (.str w)) (some (.str u)) y9 y10) ?_ ?_
 ·obtain ⟨S4,e4,g4⟩:=nr (e1:=eVar 4) (e2:=eVar 5) (e3:=eVar 8) (way:=way) (a:=a) (l:=loc r k n way a (.tup xs) (some (.str w)) (some (.str u)) y9 y10) (S:=S3) (S0:=S3) (z:=u) (zkj (zak rfl) (zak rfl) (zak rfl)) (by omega) (by omega)
  obtain ⟨S5,e5,g5⟩:=nr (e1:=eVar 4) (e2:=eVar 5) (e3:=eVar 7) (way:=way) (a:=a) (l:=loc r k n way a (.tup xs) (some (.str w)) (some (.str u)) y9 y10) (S:=S4) (S0:=S4) (z:=w) (zkj (zak rfl) (zak rfl) (zak rfl)) (by omega) (by omega)
  exact ⟨.nx,_,S5,zvp (by rw [zoq e4];exact e5),rfl,t3.gr (g4.trans g5),rfl⟩
 rintro l S4 ⟨t4,rfl⟩
 refine zc8 (λl S'=>Tn ns n r ts S'/\l=loc r k n way a (.tup xs) (some (.str w)) (some (.str u)) y9 y10) ?_ ?_
 ·have el:=zi8 (e:=eVar 1) (l:=loc r k n way a (.tup xs) (some (.str w)) (some (.str u)) y9 y10) (S:=S4) (S1:=S4) (n:=r) (zak rfl) (zei t4.hr)
  rw [qlm] at el
  obtain ⟨v,S5,e5,⟨d,rfl,hd⟩,p5,f5⟩:=zej n (ts.length:Int) S4 t4.p (by omega) (by omega)
  have t5:=t4.fn h0n hrn f5 p5
  obtain ⟨z,hz⟩:∃z,ts[d]? = some z:=⟨_,qge (by omega)⟩
  have ed:zac zco (zaa (eVar 3) (zaa (zac za8 (zaa (eVar 1) (zab))) (zab))) (loc r k n way a (.tup xs) (some (.str w)) (some (.str u)) y9 y10) S4=some (.int (d:Int),S5):=by
   rw [zbl (zds (zak (d:=.ref n) rfl) el)];exact e5
  have ex:eOp zam (eVar 1) (zac zco (zaa (eVar 3) (zaa (zac za8 (zaa (eVar 1) (zab))) (zab)))) (loc r k n way a (.tup xs) (some (.str w)) (some (.str u)) y9 y10) S4=some (.str z,S5):=by
   obtain ⟨v,S',e,rfl,hS⟩:Wo (zam (.ref r) (.int (d:Int)) S5) λv S'=>v=.str z/\S' = S5:=by
    rw [zbh]
    exact ⟨_,zei t5.hr,_,atI_get (by rw [qgm,hz];rfl),rfl,rfl⟩
   rw [hS] at e
   unfold eOp at *
   rw [zak (d:=.ref r) rfl]
   simp only [Option.bind_some]
   rw [ed];exact e
  obtain ⟨S6,e6,g6⟩:=nr (e1:=eC (.int 0)) (e2:=eVar 5) (e3:=eOp zam (eVar 1) (zac zco (zaa (eVar 3) (zaa (zac za8 (zaa (eVar 1) (zab))) (zab))))) (way:=0) (a:=a) (l:=loc r k n way a (.tup xs) (some (.str w)) (some (.str u)) y9 y10) (S:=S4) (S0:=S5) (z:=z) (zkj (S1:=S4) (S2:=S4) rfl (zak rfl) ex) (by omega) (by have:=hts z (qmg hz);omega)
  exact ⟨.nx,_,S6,zvp e6,rfl,t5.gr g6,rfl⟩
 rintro l S5 ⟨t5,rfl⟩
 refine zc8 (λl S'=>Tn ns n r ts S'/\∃x,Bad S' x/\l=loc r k n way a (.tup xs) (some (.str w)) (some (.str u)) (some x) y10) ?_ ?_
 ·unfold loc
  simp only [za7,za0,zau,zar,zap,zaq,zay,yhb,qg0,qg1,zas,zbr,zby,List.length_cons,List.length_nil,Nat.reduceAdd,sz0,sz1,sz8,true_and]
  have g1:Gr S5 (S5++[.lst [.str w]]):=⟨_,rfl⟩
  have b1:(S5++[Ob.lst [.str w]])[S5.length]? = some (.lst [.str w]):=zdh _ _
  generalize S5++[Ob.lst [.str w]]=S6 at g1 b1
  have g2:Gr S6 (S6++[.dct []]):=⟨_,rfl⟩
  have b2:(S6++[Ob.dct []])[S6.length]? = some (.dct []):=zdh _ _
  generalize S6++[Ob.dct []]=S7 at g2 b2
  have g3:=(Gr.refl S7).push (.lst [.non,.bl true,.int 0,.tup [],.ref S5.length,.tup [.str w],.ref S6.length,.tup xs])
  have b3:lstOf (S7++[Ob.lst [.non,.bl true,.int 0,.tup [],.ref S5.length,.tup [.str w],.ref S6.length,.tup xs]]) S7.length=some [.non,.bl true,.int 0,.tup [],.ref S5.length,.tup [.str w],.ref S6.length,.tup xs]:=za1
  generalize S7++[Ob.lst [.non,.bl true,.int 0,.tup [],.ref S5.length,.tup [.str w],.ref S6.length,.tup xs]]=S8 at g3 b3
  have t8:=t5.gr (g1.trans (g2.trans g3))
  have n5:=t5.p.lt
  have n6:=(t5.p.gr g1).lt
  have n7:=(t5.p.gr (g1.trans g2)).lt
  refine (zej n 8 S8 t8.p (by decide) (by decide)).mono ?_
  rintro x S9 ⟨⟨d,rfl,hd⟩,p9,f9⟩
  have t9:=t8.fn h0n hrn f9 p9
  have b19:=f9 _ _ (by omega) (g3.get (g2.get b1))
  have b29:=f9 _ _ (by omega) (g3.get b2)
  have b39:=f9.lst (by omega) b3
  obtain ⟨x,hx1,hx2⟩:=zlt [D.non,.bl true,.int 0,.tup [],.ref S5.length,.tup [.str w],.ref S6.length,.tup xs] (d:Int) (by omega) (by simp;omega)
  have bx:Bad S9 x:=by
   simp only [List.mem_cons,List.not_mem_nil,or_false] at hx2
   rcases hx2 with rfl|rfl|rfl|rfl|rfl|rfl|rfl|rfl
   ·exact ⟨"NoneType",rfl,by decide⟩
   ·exact ⟨"bool",rfl,by decide⟩
   ·exact ⟨"int",rfl,by decide⟩
   ·exact ⟨"tuple",rfl,by decide⟩
   ·exact yhc b19
   ·exact ⟨"tuple",rfl,by decide⟩
   ·exact yhd b29
   ·exact ⟨"tuple",rfl,by decide⟩
  simp only [zbh,b39,za5,hx1,zav,qs0,qs1]
  exact ⟨t9,x,bx,rfl⟩
 rintro l S6 ⟨t6,x,bx,rfl⟩
 rw [zbd]
 unfold loc
 simp only [zbj,za0,zau,zar,zap,zaq,zay,qg0,qg1,zas,yhe bx,zc6,zby,List.length_cons,List.length_nil,Nat.reduceAdd,sz2,true_and]
 rw [yhg (zvo _) (zvo _) yhf]
 simp only [zbg,qbf,if_false,zbk]
 have t7:=t6.gr ((Gr.refl S6).push (.exc "NoText"))
 exact ⟨nofun,nofun,nofun,nofun,t7.h0,t7.hr⟩
theorem zvq {m:Nat}:∀(vs:List D),(∀v∈vs,∃a:Nat,v=.int (a:Int)/\a<m)->∃as:List Nat,vs=(as.map λa=>.int ((a:Nat):Int))/\∀a∈as,a<m
 | [],_=>⟨[],rfl,λt h=>by cases h⟩
 | v :: vs,h=>by
  obtain ⟨c,rfl,hc⟩:=h v List.mem_cons_self
  obtain ⟨cs,h1,h2⟩:=zvq vs λu hu=>h u (List.mem_cons_of_mem _ hu)
  refine ⟨c :: cs,by rw [h1];rfl,λt ht=>?_⟩
  rcases List.mem_cons.mp ht with rfl|ht
  ·exact hc
  ·exact h2 t ht
theorem yhm (i:Nat) (hi:(i:Int)<4):∃m:Nat,L2.atI [D.int 4,.int 4,.int 4,.int 24] (i:Int)=some (.int m)/\1<=m/\m<=24:=by
 have:i=0\/i=1\/i=2\/i=3:=by omega
 rcases this with rfl|rfl|rfl|rfl
 ·exact ⟨4,rfl,by decide,by decide⟩
 ·exact ⟨4,rfl,by decide,by decide⟩
 ·exact ⟨4,rfl,by decide,by decide⟩
 ·exact ⟨24,rfl,by decide,by decide⟩
theorem yhn {asks:Nat}{as:List Nat}(h:OkW asks as):(wtx as).length<=700:=by
 unfold wtx
 split
 ·decide +kernel
 ·exact ye0 h
noncomputable def cells1:List Str:=["23/7","24/7","23/8","/","0/","/0","-/","0/0/0","0","00/0","0/-1"]
noncomputable def cells2:List Str:=["+1/0","1 /0","1_0/0","100/0"]
theorem yho:∀z∈cells1++cells2,z.length<=10:=by decide +kernel
noncomputable def zvr:SM:=zag (zaj (zac za6 (aTx ["23/7","24/7","23/8","/","0/","/0","-/","0/0/0","0","00/0","0/-1"])) (gName3 10)) (zag (zaj (eOp dPlusA (eVar 10) (zac za6 (zaa (eC (.str "+1/0")) (zaa (eC (.str "1 /0")) (zaa (eC (.str "1_0/0")) (zaa (eC (.str "100/0")) (zab))))))) (gName3 10)) (sRet (eOp ziv (zbv (zdj (eVar 10)) [none] (gName3 0) (zdi (tE (zac zez (zaa (eC (.int 1)) (zaa (eC (.int 1)) (zaa (eVar 0) (zab))))))) (eVar 0)) (zac za6 (zab)))))
theorem yhp {l:Lo}{S:Sto}(hl:l.length=11):Ws zvr l S λf l' S'=>f=.rt (.bl true):=by
 have sz0:0<=sizeLine:=by decide
 have el:zac za6 (aTx cells1) l S=some (.ref S.length,S++[.lst (cells1.map D.str)]):=zgb (zo0 cells1 S) (by decide)
 unfold zvr
 refine zc8 (λl' S'=>S' = S++[.lst (cells1.map D.str)]/\l' = l.set 10 (some (.ref S.length))) ⟨.nx,_,_,zdk (i:=10) el,rfl,rfl,rfl⟩ ?_
 rintro l' S1 ⟨rfl,rfl⟩
 have h1:(S++[Ob.lst (cells1.map D.str)])[S.length]? = some (.lst (cells1.map D.str)):=zdh _ _
 generalize S++[Ob.lst (cells1.map D.str)]=S1 at h1
 have l1:(l.set 10 (some (.ref S.length))).length=11:=by rw [List.length_set];exact hl
 have v1:(l.set 10 (some (.ref S.length)))[10]? = some (some (D.ref S.length)):=by rw [List.getElem?_set_self (by omega)]
 generalize l.set 10 (some (.ref S.length))=l1' at l1 v1
 have e2:zac za6 (zaa (eC (.str "+1/0")) (zaa (eC (.str "1 /0")) (zaa (eC (.str "1_0/0")) (zaa (eC (.str "100/0")) (zab))))) l1' S1=some (.ref S1.length,S1++[.lst (cells2.map D.str)]):=zgb (xs:=cells2.map D.str) (S1:=S1) rfl (by decide)
 have h2:(S1++[Ob.lst (cells2.map D.str)])[S1.length]? = some (.lst (cells2.map D.str)):=zdh _ _
 have h12:(S1++[Ob.lst (cells2.map D.str)])[S.length]? = some (.lst (cells1.map D.str)):=Gr.get ⟨_,rfl⟩ h1
 generalize S1++[Ob.lst (cells2.map D.str)]=S2 at e2 h2 h12
 obtain ⟨v,S',e3,rfl,hS⟩:Wo (dPlusA (.ref S.length) (.ref S1.length) S2) λv S'=>v=.ref S2.length/\S' = S2++[.lst ((cells1++cells2).map D.str)]:=by
  rw [znw h12 h2];exact ⟨by decide,rfl,by rw [List.map_append]⟩
 have e4:eOp dPlusA (eVar 10) (zac za6 (zaa (eC (.str "+1/0")) (zaa (eC (.str "1 /0")) (zaa (eC (.str "1_0/0")) (zaa (eC (.str "100/0")) (zab)))))) l1' S1=some (.ref S2.length,S2++[.lst ((cells1++cells2).map D.str)]):=by
  unfold eOp
  rw [zak v1]
  simp only [Option.bind_some]
  rw [e2,<-hS];exact e3
 refine zc8 (λl' S'=>S' = S2++[.lst ((cells1++cells2).map D.str)]/\l' = l1'.set 10 (some (.ref S2.length))) ⟨.nx,_,_,zdk (i:=10) e4,rfl,rfl,rfl⟩ ?_
 rintro l' S3 ⟨rfl,rfl⟩
 have hs:lstOf (S2++[Ob.lst ((cells1++cells2).map D.str)]) S2.length=some ((cells1++cells2).map D.str):=za1
 generalize S2++[Ob.lst ((cells1++cells2).map D.str)]=S3 at hs
 have v2:(l1'.set 10 (some (.ref S2.length)))[10]? = some (some (D.ref S2.length)):=by rw [List.getElem?_set_self (by omega)]
 rw [zbs,za0]
 refine znu ((cells1++cells2).map D.str) (λ_=>none) (λS'=>Gr S3 S') (λl=>∃y,l=[y]) (zsq (zak v2) hs) (Gr.refl _) ⟨_,rfl⟩ (λi S g=>zlv (g.lst hs)) (by decide) ?_ ?_
 ·rintro x l S4 hx ⟨y,rfl⟩ g4
  obtain ⟨z,hz,rfl⟩:=List.mem_map.mp hx
  have lz:=yho z hz
  simp only [zav,qs0]
  refine ⟨⟨_,rfl⟩,?_⟩
  obtain ⟨S5,e5,g5⟩:=nr (e1:=eC (.int 1)) (e2:=eC (.int 1)) (e3:=eVar 0) (way:=1) (a:=1) (l:=[some (.str z)]) (S:=S4) (S0:=S4) (z:=z) rfl (by decide) (by omega)
  exact ⟨false,S5,e5,g4.trans g5,λ_=>nofun,λh=>by cases h⟩
 ·intro S4 g4
  have e0:((cells1++cells2).map D.str).filterMap (λ_=>(none:Option D))=[]:=by simp
  rw [e0]
  simp only [zau,zap,zbr,List.length_nil,sz0,true_and]
  rw [yc3 (Gr.get ⟨_,rfl⟩ (zdh _ _)) (zdh _ _)]
  rfl
theorem law_true (ns:List Int) (hl:ns.length<=63):∃S',zhs [.ref 0] [.flst (ns.map D.int)]=some (.bl true,S'):=by
 have sz2:2<=sizeLine:=by decide
 have sz4:4<=sizeLine:=by decide
 have key:Wo (zhs [.ref 0] [.flst (ns.map D.int)]) λv _=>v=.bl true:=by
  unfold zhs ztk
  dsimp! only [zbe]
  refine zc8 (λl S=>∃(r:Nat) (ts:List Str),lstOf S 0=some (ns.map D.int)/\r≠0/\S[r]? = some (.lst (ts.map D.str))/\1<=ts.length/\ts.length<=100/\(∀t∈ts,t.length<=2000)/\l=[~~~0,~~~r,none,none,none,none,none,none,none,none,none]) ?_ ?_
  ·have h0:lstOf [.flst (ns.map D.int)] 0=some (ns.map D.int):=rfl
   simp only [za7,zau,zap]
   refine edges_ok.mono ?_
   rintro v S1 ⟨g1,r,ts,rfl,hr,h1,h2,h3,h4⟩
   simp only [zav,qs0,qs1]
   exact ⟨nofun,r,ts,g1.lst h0,by simp at hr;omega,h1,h2,h3,h4,rfl⟩
  rintro l S1 ⟨r,ts,h01,hr0,hr1,t1,t100,tl,rfl⟩
  rw [zbm]
  refine yhi (λ_ l S=>lstOf S 0=some (ns.map D.int)/\S[r]? = some (.lst (ts.map D.str))/\l.length=11/\l[0]? = some (some (.ref 0))/\l[1]? = some (some (.ref r))) (λ_ _=>False) ?_ ?_ ?_ (λd l S h=>h.elim)
  ·simp only [zar,zap,zau,zaq,zay,qg0,zas,zb1,h01,za5,qlm,yhj,yhk]
   refine ⟨(if (if (20:Int)<(ns.length:Int) then 20 else (ns.length:Int)) > 3 then (if (20:Int)<(ns.length:Int) then 20 else (ns.length:Int)) else 3).toNat,?_,?_,nofun,hr1,nofun,nofun,nofun⟩
   ·rw [Int.toNat_of_nonneg (by split <;> split <;> omega)]
   ·split <;> split <;> omega
  ·rintro k l S0 hk ⟨h0,hr,hl11,hl0,hl1⟩
   obtain ⟨y2,y3,y4,y5,y6,y7,y8,y9,y10,rfl⟩:∃y2 y3 y4 y5 y6 y7 y8 y9 y10,l=[~~~0,~~~r,y2,y3,y4,y5,y6,y7,y8,y9,y10]:=by
    match l,hl11,hl0,hl1 with
    | [_,_,y2,y3,y4,y5,y6,y7,y8,y9,y10],_,h,h'=>cases h;cases h';exact ⟨y2,y3,y4,y5,y6,y7,y8,y9,y10,rfl⟩
   simp only [zav,qs0,qs1]
   refine zc8 (λl S=>∃n,Tn ns n r ts S/\0≠n/\r≠n/\l=[~~~0,~~~r,‹k›,~~~n,y4,y5,y6,y7,y8,y9,y10]) ?_ ?_
   ·simp only [za7,zau,zar,zap,zaq,qg0,qg1,zas]
    refine (yek ns k S0 h0 (by omega)).mono ?_
    rintro v S1 ⟨rfl,p1,g1⟩
    simp only [zav,qs0,qs1]
    have hlt:=(qme hr).1
    exact ⟨nofun,S0.length,⟨g1.lst h0,p1,g1.get hr⟩,by omega,by omega,rfl⟩
   rintro l S1 ⟨n,t1',hn,hrn,rfl⟩
   refine zc8 (λl S=>Tn ns n r ts S/\∃way:Nat,way<3/\l=[~~~0,~~~r,‹k›,~~~n,‹way›,y5,y6,y7,y8,y9,y10]) ?_ ?_
   ·simp only [za7,za0,zau,zar,zap,zaq,zay,qg0,qg1,zas]
    refine (zej n 3 S1 t1'.p (by decide) (by decide)).mono ?_
    rintro x S2 ⟨⟨d,rfl,hd⟩,p2,f2⟩
    simp only [zav,qs0,qs1]
    exact ⟨nofun,t1'.fn hn hrn f2 p2,d,by omega,rfl⟩
   rintro l S2 ⟨t2,way,hw,rfl⟩
   refine zc8 (λl S=>Tn ns n r ts S/\∃a:Nat,1<=a/\a<=4/\l=[~~~0,~~~r,‹k›,~~~n,‹way›,‹a›,y6,y7,y8,y9,y10]) ?_ ?_
   ·simp only [za7,za0,zau,zar,zap,zaq,zay,qg0,qg1,zas]
    refine (zej n 4 S2 t2.p (by decide) (by decide)).mono ?_
    rintro x S3 ⟨⟨d,rfl,hd⟩,p3,f3⟩
    have e:(1:Int)+(d:Int)=((1+d:Nat):Int):=by push_cast;rfl
    simp only [zcc,e,zav,qs0,qs1]
    exact ⟨nofun,t2.fn hn hrn f3 p3,1+d,by omega,by omega,rfl⟩
   rintro l S3 ⟨t3,a,a1,a4,rfl⟩
   refine zc8 (λl S=>Tn ns n r ts S/\∃rs:List (List Cl),OkM a rs/\l=[~~~0,~~~r,‹k›,~~~n,‹way›,‹a›,some (mD a rs),y7,y8,y9,y10]) ?_ ?_
   ·simp only [za7,za0,zau,zar,zap,zaq,zay,qg0,qg1,zas,zbr,List.length_cons,List.length_nil,Nat.reduceAdd,sz4,true_and]
    have g:Gr S3 (S3++[.lst [.int 4,.int 4,.int 4,.int 24]]):=⟨_,rfl⟩
    refine (zej n 4 _ (t3.p.gr g) (by decide) (by decide)).mono ?_
    rintro x S4 ⟨⟨d,rfl,hd⟩,p4,f4⟩
    obtain ⟨q,hq,q1,q24⟩:=yhm d hd
    have hl:=f4.lst (by have:=t3.p.lt;omega) za1
    simp only [zbh,hl,za5,hq]
    have t4:=(t3.gr g).fn hn hrn f4 p4
    refine (yep n a q S4 p4 a1 a4 q1 q24).mono ?_
    rintro v S5 ⟨⟨rs,rfl,ok⟩,p5,f5⟩
    simp only [zav,qs0,qs1]
    exact ⟨t4.fn hn hrn f5 p5,rs,ok,rfl⟩
   rintro l S4 ⟨t4,rs,ok,rfl⟩
   refine zc8 (λl S=>Tn ns n r ts S/\∃w:Str,w.length<=800/\l=[~~~0,~~~r,‹k›,~~~n,‹way›,‹a›,some (mD a rs),some (.str w),y8,y9,y10]) ?_ ?_
   ·obtain ⟨cs,rs',rfl⟩:∃cs rs',rs=cs :: rs':=by
     have:=ok.r1
     cases rs with
     | nil=>simp at this
     | cons cs rs'=>exact ⟨cs,rs',rfl⟩
    have okr:=ok.ok cs List.mem_cons_self
    obtain ⟨c,cs',rfl⟩:∃c cs',cs=c :: cs':=by
     have:=okr.1
     cases cs with
     | nil=>simp at this;omega
     | cons c cs'=>exact ⟨c,cs',rfl⟩
    have okc:=okr.2 c List.mem_cons_self
    have f2:(0:Int)<2:=by decide
    have x0:L2.atI ((((c :: cs') :: rs').map rD)) 0=some (rD (c :: cs')):=atI_get (i:=0) rfl
    have x1:L2.atI ((c :: cs').map cD) 0=some (cD c):=atI_get (i:=0) rfl
    simp only [za7,za0,zau,zar,zap,zaq,zay,qg0,qg1,zas]
    refine (yey ok).mono ?_
    rintro x S5 ⟨rfl,g5⟩
    simp only [mD,zbw,zb8,za5,x0]
    unfold rD
    simp only [zbw,x1,za5,zt5 okc ok.r24,zc6,zbr,List.length_cons,List.length_nil,Nat.reduceAdd,sz2,true_and]
    obtain ⟨z,hz,hz'⟩:=yhh (x:=mt a ((c :: cs') :: rs')) (y:=ct c) (way % 2) (by omega)
    have em:(way:Int) % 2=((way % 2:Nat):Int):=by omega
    have lz:z.length<=800:=by
     rcases hz' with rfl|rfl
     ·have:=yev ok;omega
     ·have:=zt0 okc ok.r24;omega
    simp only [zb5,f2,decide_true,true_and,em,zbh,za1,za5,hz,zav,qs0,qs1]
    have t5:=t4.gr (g5.push (.lst [.str (mt a ((c :: cs') :: rs')),.str (ct c)]))
    exact ⟨t5,z,lz,rfl⟩
   rintro l S5 ⟨t5,w,hw5,rfl⟩
   refine zc8 (λl S=>Tn ns n r ts S/\∃w:Str,w.length<=800/\l=[~~~0,~~~r,‹k›,~~~n,‹way›,‹a›,some (mD a rs),some (.str w),y8,y9,y10]) ?_ ?_
   ·rw [zbd]
    simp only [zbj,za0,zaq,zay,qg0,qg1,zas,zbz,zbg]
    by_cases w2:(way:Int)=2
    ·simp only [w2,decide_true,if_true]
     obtain ⟨d,S6,e6,hd,p6,f6⟩:∃(d:Nat) (S':Sto),zac zco (zaa (eVar 3) (zaa (eC (.int 9)) (zab))) [~~~0,~~~r,‹k›,~~~n,some (.int 2),‹a›,some (mD a rs),some (.str w),y8,y9,y10] S5=some (.int (d:Int),S')/\(d:Int)<9/\PQ n S'/\Fn n S5 S':=by
      obtain ⟨v,S',e,⟨d,rfl,hd⟩,p,f⟩:=zej n 9 S5 t5.p (by decide) (by decide)
      exact ⟨d,S',by rw [zbl (zds (x:=.ref n) (y:=.int 9) (S1:=S5) (S2:=S5) (zak rfl) rfl)];exact e,hd,p,f⟩
     have t6:=t5.fn hn hrn f6 p6
     rw [za7,zau,zar,zau,zar]
     refine zso (zd8 0 d) (λv=>∃q:Nat,v=.int (q:Int)/\q<a) (λ_ S'=>Tn ns n r ts S') (λl=>∃y0,l=[y0,~~~n,‹a›]) (zsp (zdf e6) (by omega)) t6 ⟨_,rfl⟩ (λi S _=>rfl) (by rw [zir];exact ze8 (by omega)) ?_ ?_
     ·rintro j x l S7 hx ⟨y0,rfl⟩ t7
      simp only [zav,qs0]
      refine ⟨⟨_,rfl⟩,?_⟩
      simp only [zau,zar,zap,zaq,qg0,qg1,zas]
      refine (zej n (a:Int) S7 t7.p (by omega) (by omega)).mono ?_
      rintro v S8 ⟨⟨q,rfl,hq⟩,p8,f8⟩
      exact ⟨⟨q,rfl,by omega⟩,t7.fn hn hrn f8 p8⟩
     ·rintro vs S7 hlen hv t7
      obtain ⟨as,rfl,has⟩:=zvq vs hv
      rw [zir,qlm] at hlen
      have okw:OkW a as:=⟨by omega,has,a4⟩
      simp only [zap,zb6,za1,za5]
      have t8:=t7.gr ((Gr.refl S7).push (.lst (as.map λa=>.int ((a:Nat):Int))))
      refine (ye1 okw).mono ?_
      rintro v S8 ⟨rfl,g8⟩
      simp only [zav,qs0,qs1]
      have:=yhn okw
      exact ⟨nofun,t8.gr g8,_,by omega,rfl⟩
    ·simp only [w2,decide_false,qbf,if_false,zbk]
     exact ⟨nofun,t5,w,hw5,rfl⟩
   rintro l S6 ⟨t6,w,hw6,rfl⟩
   refine (yhl (k:=k) (way:=way) (xs:=[.int (a:Int),.tup (rs.map rD)]) (y8:=y8) (y9:=y9) (y10:=y10) t6 hn hrn a1 a4 t1 t100 tl hw6).mono ?_
   rintro f l S8 ⟨rfl,q1,q2,q3,q4,q5⟩
   exact .inl ⟨.inl rfl,q4,q5,q1,q2,q3⟩
  ·rintro i l S2 ⟨_,_,hl11,_,_⟩
   refine (yhp hl11).mono ?_
   rintro f l S5 rfl
   first|rfl|exact nofun
 obtain ⟨v,S',e,rfl⟩:=key
 exact ⟨S',e⟩
end M
end
namespace PySem.W.Fast
def tw10107911794733354455:Nat:=0
def tw16337156730809518636:Nat:=0
def tw10342054154561854811:Nat:=0
def tw7295290997930581713:Nat:=0
def tw9633793930856170381:Nat:=0
def tw2375362905273354996:Nat:=0
def tw2986587612043967086:Nat:=0
def tw9746133499095562878:Nat:=0
def tw7354314662815256236:Nat:=0
def tw12006173946416744324:Nat:=0
def tw7597121466099252603:Nat:=0
def tw17406117154084972322:Nat:=0
def tw13381450946801149528:Nat:=0
def tw10117339350235023809:Nat:=0
def tw13547574943967335239:Nat:=0
def tw8396215334138478862:Nat:=0
def tw1944057634828844142:Nat:=0
def tw782348187778508209:Nat:=0
def tw13472264293675068545:Nat:=0
def tw7289625765149297032:Nat:=0
end PySem.W.Fast
open PySem PySem.W PyProof.Rows
theorem PySem.Challenge.cw_opencells_k62_no_machines_written_holds : PySem.Challenge.rw_opencells_k62_no_machines_written.Holds := by
 w_on;o_law;k_head;(case hw=>w_witness2)
 k_fill
 refine G.walk (l:=PySem.Challenge.rw_opencells_k62_no_machines_written) rfl rfl (λw h Y=>PySem.W.kIn_of Y) ?F (λns hl=>M.law_true ns hl)
 case F =>
  intro w mg fa h KX GN hmg
  refine' G.all_mk KX GN hmg ?_ ?_ ?_ ?_ ?_ ?_ ?_ ?_ ?_ ?_ ?_ ?_ ?_ ?_ ?_ ?_ ?_ ?_ ?_ ?_ ?_ ?_ ?_ ?_ ?_ ?_ ?_ ?_ ?_ ?_ ?_ ?_ ?_ ?_ ?_ ?_ ?_ ?_ ?_ ?_ ?_ ?_ ?_ ?_ ?_ ?_ ?_ ?_ ?_ ?_ ?_ ?_ ?_ ?_ ?_ ?_ ?_ ?_ ?_ ?_ ?_ ?_ ?_ ?_ ?_ ?_ ?_ ?_ ?_
  all_goals try first|(refine' G.FI.mk ?a ?l ?c ?k;(case a=>k_is);(case l=>k_is);(case c=>k_is);(case k=>k_is))|k_is|kernel_rfl
#print axioms PySem.Challenge.cw_opencells_k62_no_machines_written_holds