import PyProof.Rows.All
import Wide.All
import OpenK.AllK
import Wide.FinOn
import Lean
import PyProof.EqAt
import PyProof.EqKinds
import PyProof.TupleCall
import PyProof.ReprLen
import PyProof.ReprRoads
import PyProof.P3Eq
import PyProof.SetRoads
import PyProof.IsRules
import PyProof.ListRange
import PyProof.ConsumeWalk
import PyProof.NeKinds
import PyProof.DictTable
import PyProof.Draws
import PyProof.EnumMake
import KE.BitLaws
import KE.KIntText
import KE.KRevIter
import PyProof.Rows.SumAny
import PyProof.StrLawsRepr
import PyProof.Rows.SortStrRead
import PyProof.DictCompW
import PyProof.StrOps2
import PyProof.DictWalks
import OpenK.KOwn
import PyProof.NsDelKeeps
import PyProof.RulesAs
import KE.KIsAll
import PyProof.ExcArgsOwn
import PyProof.ExcAttrAll.ValueError
import PyProof.TupleKey
import PyProof.DictRoadsH
import KE.KSortTup
import KE.KDictSum
import PyProof.Rows.TupDisplay
import PyProof.ZipIter
import PyProof.FactsAll.tuple_1
import PyProof.Dict
import PyProof.FactsAll.tuple_2
import PyProof.FactsAll.tuple_3
import PyProof.MeetsSeq
import PyProof.Rows.FStr
import PyProof.Rows.RuleM_int
import PyProof.Rows.SetFrom
import PyProof.Rows.StrFirst
import PyProof.Rows.StrItems
import PyProof.Rows.StrNews2
import PyProof.StrLawsTight
import PyProof.StrWalks
import PyProof.WalksMore
import PySem.Challenge.RW_opencells_k63_sheets_and_nets_written
set_option Elab.async false
set_option maxHeartbeats 4000000
set_option maxRecDepth 100000
set_option linter.unusedSimpArgs false
set_option linter.unusedVariables false
noncomputable section
theorem qwb {α β:Type}{M:PySem.Model}{A:PySem.Around}{E:PySem.Value->PySem.Shared->Prop}{s:PySem.Shared}{m:PySem.Sem α}{f:α->PySem.Sem β}{Q:β->PySem.Shared->Prop}(h:PySem.wpAny M A m (λa s'=>PySem.wpAny M A (f a) Q E s') E s):PySem.wpAny M A (m >>= f) Q E s:=PySem.wpAny_bind h
theorem qwp {α:Type}{M:PySem.Model}{A:PySem.Around}{E:PySem.Value->PySem.Shared->Prop}{s:PySem.Shared}{a:α}{Q:α->PySem.Shared->Prop}(h:Q a s):PySem.wpAny M A (pure a) Q E s:=PySem.wpAny_pure h
theorem qbf:(false=true)=False:=Bool.false_eq_true
theorem qme {α:Type _}{l:List α}{i:Nat}{a:α}(h:l[i]? = some a):∃h:i<l.length,l[i]=a:=List.getElem?_eq_some_iff.mp h
theorem qge {α:Type _}{l:List α}{i:Nat}(h:i<l.length):l[i]? = some l[i]:=List.getElem?_eq_getElem h
abbrev QFg:=PySem.W.Frag
theorem qps {h:PySem.Heap}{a:PySem.Addr}{o1:PySem.Obj}(o:PySem.Obj) (e:h.get? a=some o1):(h.push o).get? a=some o1:=PySem.Heap.get?_push_of_some o e
theorem qlm {α β:Type _}{as:List α}(f:α->β):(as.map f).length=as.length:=List.length_map f
theorem qgm {α β:Type _}{f:α->β}{l:List α}{i:Nat}:(l.map f)[i]? = l[i]?.map f:=List.getElem?_map
theorem qoi {α:Type _}{a b:α}(h:some a=some b):a=b:=Option.some.inj h
theorem qmg {α:Type _}{l:List α}{i:Nat}{a:α}(e:l[i]? = some a):a∈l:=List.mem_of_getElem? e
theorem qlr (n:Nat):n<=n:=Nat.le_refl n
theorem qla {α:Type _}{as bs:List α}:(as++bs).length=as.length+bs.length:=List.length_append
namespace TS
open PySem PySem.SetTable
noncomputable def F:Nat->Nat->Nat
 | 0,x=>x
 | n+1,x=>5*F n x+1
noncomputable def adv (mask:Nat) (p:Probe):Probe :=
 if p.more > 0 then { p with j:=p.j+1,more:=p.more-1 } else
 let (i,perturb):=leap mask p.i p.perturb
 { p with j:=i,more:=runEnd mask i-i,i,perturb }
noncomputable def st0 (mask:Nat) (h:Int):Probe:={ j:=bits h % (mask+1),more:=runEnd mask (bits h % (mask+1))-bits h % (mask+1),i:=bits h % (mask+1),perturb:=bits h,dummy:=none }
noncomputable def pn (mask:Nat) (h:Int):Nat->Probe
 | 0=>st0 mask h
 | n+1=>adv mask (pn mask h n)
noncomputable def bl (mask:Nat) (h:Int):Nat->Nat × Nat
 | 0=>(bits h % (mask+1),bits h)
 | n+1=>leap mask (bl mask h n).1 (bl mask h n).2
def Ris (xs:Array Nat):Prop:=∀i j,i<j->j<xs.size->xs.getD i 0<xs.getD j 0
def In (t:SetTable) (j:Nat):Prop:=∃i:Nat,t.place[i]? = some j
structure TOk (t:SetTable) (es:Array (Int × Value)):Prop where
 dm:t.dummies = #[]
 sz:t.place.size=es.size
 pw:∃k,t.mask+1=2 ^ k/\3<=k
 ris:Ris t.place
 le:∀j,In t j->j<=t.mask
 ro:es.size*5<t.mask*3
 sm:t.mask<8192
 pr:∀(i:Nat) (h:Int) (v:Value),es[i]? = some (h,v)->∃n,t.place[i]? = some (pn t.mask h n).j/\∀m,m<n->In t (pn t.mask h m).j
def Occ (ow:Array (Option Nat)) (j:Nat):Prop:=∃i,ow[j]? = some (some i)
instance (ow:Array (Option Nat)):DecidablePred (Occ ow):=λj=>match h:ow[j]? with
 | some (some i)=>.isTrue ⟨i,h⟩
 | some none=>.isFalse λhx1_=>by obtain ⟨i,z⟩:=hx1_;rw [h] at z;cases z
 | none=>.isFalse λhx2_=>by obtain ⟨i,z⟩:=hx2_;rw [h] at z;cases z
noncomputable def zot (ks:List Int):Int:=reduceHash (Builtin.Tuple.tupleHashOf (ks.map hashInt))
section
variable {prog:Program}{w:World}{A:Around}{E:Value->Shared->Prop}{s:Shared}
structure Els (es:Array (Int × Value)) (xs:List (List Int × Addr)):Prop where
 sub:∀e∈es.toList,∃p∈xs,e=(zot p.1,.ref p.2)
 sup:∀p∈xs,(zot p.1,Value.ref p.2)∈es.toList
 len:es.size=xs.length
end
def zvy (o:Obj) (xs:List (List Int × Addr)):Prop:=o.ExactSet/\∃es ep t,o.data=.set es ep t/\TOk t es/\Els es xs
def TSet (a:Addr) (xs:List (List Int × Addr)) (h:Heap):Prop:=∃o,h.get? a=some o/\zvy o xs
section
variable {prog:Program}{w:World}{A:Around}{E:Value->Shared->Prop}{s:Shared}{a x:Addr}{k:List Int}{xs:List (List Int × Addr)}
end
end TS
namespace BF
def lx:List Nat->List Nat->Prop
 | a :: u,b :: v=>a<b\/(a=b/\lx u v)
 | _,_=>False
def sl (u v:List Nat):Prop:=u.length<v.length\/(u.length=v.length/\lx u v)
def le (u v:List Nat):Prop:=sl u v\/u=v
abbrev P:=Nat × Nat
section
variable (A:Nat) (step:P->Nat->Option P) (fail:P->Nat->Bool)
noncomputable def walk:P->List Nat->Option P
 | p,[]=>some p
 | p,a :: w=>(step p a).bind λq=>walk q w
def zvz (p:P) (w:List Nat):Prop:=∃u b q,w=u++[b]/\b<A/\(∀a∈u,a<A)/\walk step p u=some q/\fail q b=true
end
section
variable {A:Nat}{step:P->Nat->Option P}{fail:P->Nat->Bool}
section
variable {p0 q q':P}{ps:List P}{ws:List (List Nat)}{w:List Nat}{i c:Nat}
end
def Fn (A:Nat) (step:P->Nat->Option P) (fail:P->Nat->Bool) (n:Nat) (p:P):Prop:=∃w,zvz A step fail p w/\w.length=n
end
end BF
namespace SP
open PySem PySem.W PyProof.Rows
inductive Ok (lt:Nat->Nat->Bool) (n:Nat) {α:Type} (G:α->Prop):KasT α->Prop where
 | ret {a:α} (h:G a):Ok lt n G (.ret a)
 | ask {i j:Nat} {k:Bool->KasT α} (hi:i<n) (hj:j<n) (h:Ok lt n G (k (lt i j))):Ok lt n G (.ask i j k)
section
variable {r:Nat->Int}{n:Nat}
noncomputable def lt (r:Nat->Int) (i j:Nat):Bool:=decide (r i<r j)
noncomputable def at' (r:Nat->Int) (p:Array Nat) (k:Nat):Int:=r (p.getD k 0)
end
open PySem.Calls
abbrev Pr:=Int × Int
inductive TR (R:Value->Pr->Prop):List Value->List Pr->Prop where
 | nil:TR R [] []
 | cons {v:Value} {p:Pr} {vs:List Value} {ps:List Pr}:R v p->TR R vs ps->TR R (v :: vs) (p :: ps)
section
variable {prog:Program}{w:World}{A:Around}{E:Value->Shared->Prop}{s:Shared}
end
section
variable {prog:Program}{w:World}{A:Around}{E:Value->Shared->Prop}{s:Shared}
end
end SP
namespace L2
open PySem PySem.Spec PyProof.Rows
abbrev Key:=Sum Int Str
noncomputable def zou:Key->Value->Bool
 | .inl k,v=>Value.isInt k v
 | .inr x,v=>Value.isStrOf x v
noncomputable def zv0 (w:World):Key->Int
 | .inl k=>hashInt k
 | .inr x=>hashStr w x
theorem zg0:∀{k:Key}{v:Value},zou k v=true->(∃i t,k=Sum.inl i/\v=Value.int i t)\/(∃x t,k=Sum.inr x/\v=Value.str x t)
 | .inl i,v,h=>by
  obtain ⟨t,e⟩:=Value.isInt_shape (k:=i) (v:=v) h
  exact .inl ⟨i,t,rfl,e⟩
 | .inr x,v,h=>by
  obtain ⟨t,e⟩:=Value.isStrOf_shape (x:=x) (v:=v) h
  exact .inr ⟨x,t,rfl,e⟩
theorem zv1 (a b:Int):decide ((Sum.inl a:Key)=Sum.inl b)=(a == b):=by
 by_cases e:a=b
 ·subst e;simp
 ·have h:¬(Sum.inl a:Key)=Sum.inl b:=λq=>e (Sum.inl.inj q)
  rw [decide_eq_false h]
  exact (beq_eq_false_iff_ne.mpr e).symm
theorem zv2 (a b:Str):decide ((Sum.inr a:Key)=Sum.inr b)=decide (a=b):=by
 by_cases e:a=b
 ·subst e;simp
 ·have h:¬(Sum.inr a:Key)=Sum.inr b:=λq=>e (Sum.inr.inj q)
  rw [decide_eq_false h,decide_eq_false e]
theorem zv3 (a:Int) (b:Str):decide ((Sum.inl a:Key)=Sum.inr b)=false:=decide_eq_false (λq=>nomatch q)
theorem zv4 (a:Str) (b:Int):decide ((Sum.inr a:Key)=Sum.inl b)=false:=decide_eq_false (λq=>nomatch q)
noncomputable def zov (prog:Program) (w:World):PySem.KeyKind prog w Key where
 is:=zou
 hash:=zv0 w
 inj:=λv a b ha hb=>by
  rcases zg0 ha with ⟨i,t,rfl,rfl⟩|⟨x,t,rfl,rfl⟩
  ·rcases zg0 hb with ⟨j,u,rfl,e⟩|⟨y,u,rfl,e⟩
   ·injection e with e1 _;rw [e1]
   ·exact nomatch e
  ·rcases zg0 hb with ⟨j,u,rfl,e⟩|⟨y,u,rfl,e⟩
   ·exact nomatch e
   ·injection e with e1 _;rw [e1]
 byValue:=λk v h=>by
  rcases zg0 h with ⟨i,t,rfl,rfl⟩|⟨x,t,rfl,rfl⟩ <;> rfl
 pyHash:=λhv h=>by
  rcases zg0 hv with ⟨i,t,rfl,rfl⟩|⟨x,t,rfl,rfl⟩
  ·exact wpAny_pyHash_int h
  ·exact wpAny_pyHash_str h
 eqBool:=λhu hv h=>by
  rcases zg0 hu with ⟨i,t,rfl,rfl⟩|⟨x,t,rfl,rfl⟩
  ·rcases zg0 hv with ⟨j,u,rfl,rfl⟩|⟨y,u,rfl,rfl⟩
   ·rw [zv1] at h;exact wpAny_eqBool_int h
   ·rw [zv3] at h;exact SeqAt.EqAt.int_str i t y u _ _ _ _ h
  ·rcases zg0 hv with ⟨j,u,rfl,rfl⟩|⟨y,u,rfl,rfl⟩
   ·rw [zv4] at h;exact SeqAt.EqAt.str_int x t j u _ _ _ _ h
   ·rw [zv2] at h;exact wpAny_eqBool_str h
 «strs»:=λk x t v h=>by
  rcases zg0 h with ⟨i,u,rfl,e⟩|⟨y,u,rfl,e⟩
  ·exact nomatch e
  ·injection e with e1 _
   subst e1
   cases v <;> rfl
inductive V where
 | non|bl (b:Bool)|int (i:Int)|str (x:Str)|byt (b:Array UInt8)|flt (b:UInt64)|ref (a:Addr)|ty (n:String)
 deriving DecidableEq
def RelV:V->Value->Prop
 | .non,u=>u=Value.none
 | .bl b,u=>u=Value.bool b
 | .int i,u=>∃t,u=Value.int i t
 | .str x,u=>∃t,u=Value.str x t
 | .byt b,u=>∃t,u=Value.bytes b t
 | .flt b,u=>∃t,u=Value.float b t
 | .ref a,u=>u=Value.ref a
 | .ty n,u=>u=Value.type n
abbrev Vals:List V->List Value->Prop:=Paired RelV
theorem Vals.length {xs:List V}{us:List Value}(r:Vals xs us):xs.length=us.length:=Paired.length r
theorem Vals.get:∀{xs:List V}{us:List Value}{i:Nat}{x:V},Vals xs us->xs[i]? = some x->∃u,us[i]? = some u/\RelV x u
 | _,_,_,_,.nil,e=>by simp at e
 | _,_,0,_,.cons r _,e=>by simp at e;subst e;exact ⟨_,rfl,r⟩
 | _,_,i+1,x,.cons _ t,e=>by
  obtain ⟨u,h1,h2⟩:=Vals.get (i:=i) (x:=x) t (by simpa using e)
  exact ⟨u,by simpa using h1,h2⟩
theorem Vals.set {x:V}{u:Value}(r:RelV x u):∀{xs:List V}{us:List Value}(i:Nat),Vals xs us->Vals (xs.set i x) (us.set i u)
 | _,_,_,.nil=>.nil
 | _,_,0,.cons _ t=>.cons r t
 | _,_,i+1,.cons q t=>.cons q (Vals.set r i t)
theorem Vals.append:∀{xs ys:List V}{us ws:List Value},Vals xs us->Vals ys ws->Vals (xs++ys) (us++ws)
 | _,_,_,_,.nil,s=>s
 | _,_,_,_,.cons r t,s=>.cons r (Vals.append t s)
theorem Vals.take:∀{xs:List V}{us:List Value}(n:Nat),Vals xs us->Vals (xs.take n) (us.take n)
 | _,_,0,_=>.nil
 | _,_,_+1,.nil=>.nil
 | _,_,n+1,.cons r t=>.cons r (Vals.take n t)
theorem Vals.drop:∀{xs:List V}{us:List Value}(n:Nat),Vals xs us->Vals (xs.drop n) (us.drop n)
 | _,_,0,r=>r
 | _,_,_+1,.nil=>.nil
 | _,_,n+1,.cons _ t=>Vals.drop n t
def zmb:Option V->Option Value->Prop
 | some v,some u=>RelV v u
 | none,none=>True
 | _,_=>False
def KV {κ:Type}:List (κ × V)->List (κ × Value)->Prop:=Paired λ(p:κ × V) (q:κ × Value)=>p.1=q.1/\RelV p.2 q.2
noncomputable def kV:Key->V
 | .inl i=>.int i
 | .inr x=>.str x
inductive HO where
 | lst (xs:List V)
 | tup (xs:List V)
 | dK (kvs:List (Key × V))|dT (kvs:List (List Key × V))
 | set (S:Int->Bool) (n:Nat)
 | ins (C dx:Addr) (fs:List (Str × V))
 | own (x:Addr)
 | xd (fs:List (Str × V))
 | met (f x:Addr)
 | rng (lo hi:Int)
 | frz (o:Obj) (u:HO)
 | tbl (ps:Array Value)
 | ext (φ:Heap->Prop)
abbrev Hp:=Addr->Option HO
noncomputable def upd (H:Hp) (a:Addr) (o:HO):Hp:=λb=>if b=a then some o else H b
theorem zfe {H:Hp}{a:Addr}{o:HO}:upd H a o a=some o:=by unfold upd;rw [if_pos rfl]
theorem za2 {H:Hp}{a b:Addr}{o:HO}(h:b≠a):upd H a o b=H b:=by unfold upd;rw [if_neg h]
theorem zhy {H:Hp}{a b:Addr}{o u:HO}(h:H a=some o) (h':H b=some u) (d:o≠u):a≠b:=by
 intro e;subst e;rw [h] at h';exact d (qoi h')
theorem zci {H:Hp}{a b:Addr}{o:HO}(h:H a=some o) (h':H b=none):a≠b:=by
 intro e;subst e;rw [h] at h';cases h'
def IsTD (h:Heap) (a:Addr) (items:Array Value):Prop:=∃o,h.get? a=some o/\o.cls=.type "tuple"/\∃n,o.data=.seq items n/\o.dict=none
theorem IsTD.tup {h:Heap}{a:Addr}{items:Array Value}(x:IsTD h a items):IsTup h a items:=by
 obtain ⟨o,e,c,n,d,_⟩:=x
 exact ⟨o,e,c,n,d⟩
theorem IsTD.new (h:Heap) (items:Array Value):IsTD (h.push { cls:=.type "tuple",data:=.seq items }) h.objs.size items:=⟨_,Heap.get?_push_size _ rfl,rfl,_,rfl,rfl⟩
section
variable (P:Program) (w:World)
def ObjOk (H:Hp) (h:Heap) (a:Addr):HO->Prop
 | .lst xs=>xs.length<=sizeLine/\∃(its:List Value) (n:Nat),Vals xs its/\h.get? a=some { cls:=.type "list",data:=.seq its.toArray n }
 | .tup xs=>xs.length<=sizeLine/\∃its:List Value,Vals xs its/\IsTD h a its.toArray
 | .dK kvs=>kvs.length<=sizeLine/\(a == sysModules)=false/\∃vs,KV kvs vs/\h.DictOf (zov P w) a vs
 | .dT kvs=>kvs.length<=sizeLine/\(a == sysModules)=false/\∃xs:List (List Key × Addr × Value),
   Paired (λ(p:List Key × V) (q:List Key × Addr × Value)=>p.1=q.1/\H q.2.1=some (.tup (p.1.map kV))/\RelV p.2 q.2.2) kvs xs /\
   ∃o es ep,h.get? a=some o/\o.ExactDict/\o.data=.dict es ep/\es.toList=xs.map (entryOfKey (tupleKind (zov P w)))/\(xs.map (·.1)).Nodup
 | .set S n=>h.SetOf (intKind P w) a S n
 | .ins C dx fs=>H dx=some (.own a)/\fs.length<=1000/\dx≠a/\h.get? a=some (PySem.W.instObj C dx) /\
   ∃mA,h.Ns1 dx mA/\(∀f,zmb (fs.lookup f) (mA f))/\PySem.Within mA (fs.map (·.1))
 | .own _=>∃o,h.get? a=some o
 | .xd fs=>∃mA,h.Ns1 a mA/\∀f,zmb (fs.lookup f) (mA f)
 | .rng lo hi=>∃t u v,h.get? a=some { cls:=.type "range",data:=.fields #[.int lo t,.int hi u,.int 1 v] }
 | .frz o u=>h.get? a=some o/\ObjOk H h a u
 | .tbl ps=>h.get? a=some { cls:=.none,data:=.fields ps }
 | .met f x=>h.get? a=some (PySem.W.methodObj (.ref f) (.ref x))
 | .ext φ=>φ h/\(∃o,h.get? a=some o)/\∀h1 h2:Heap,φ h1->(∀o,h1.get? a=some o->h2.get? a=some o)->φ h2
def HOk (H:Hp) (h:Heap):Prop:=∀a o,H a=some o->ObjOk P w H h a o
end
section
variable {P:Program}{w:World}{H H':Hp}{h h':Heap}{a:Addr}{o:HO}
theorem ObjOk.lt (x:ObjOk P w H h a o):a<h.objs.size:=by
 cases o with
 | lst xs=>obtain ⟨_,_,_,_,e⟩:=x;exact Heap.lt_size e
 | tup xs=>obtain ⟨_,_,_,p⟩:=x;exact p.tup.lt
 | dK kvs=>obtain ⟨_,_,_,_,o,_,_,e,_⟩:=x;exact Heap.lt_size e
 | dT kvs=>obtain ⟨_,_,_,_,o,_,_,e,_⟩:=x;exact Heap.lt_size e
 | set S n=>obtain ⟨o,_,_,_,e,_⟩:=x;exact Heap.lt_size e
 | ins C dx fs=>obtain ⟨_,_,_,e,_⟩:=x;exact Heap.lt_size e
 | own y=>obtain ⟨_,e⟩:=x;exact Heap.lt_size e
 | xd fs=>obtain ⟨_,⟨_,_,_,e,_⟩,_⟩:=x;exact Heap.lt_size e
 | rng lo hi=>obtain ⟨_,_,_,e⟩:=x;exact Heap.lt_size e
 | frz ob u=>obtain ⟨e,_⟩:=x;exact Heap.lt_size e
 | tbl ps=>exact Heap.lt_size (show h.get? a=some _ from x)
 | met f y=>exact Heap.lt_size (show h.get? a=some _ from x)
 | ext φ=>obtain ⟨_,⟨_,e⟩,_⟩:=x;exact Heap.lt_size e
theorem Paired.mapP {α β:Type}{F G:α->β->Prop}:∀{l₁:List α}{l₂:List β},Paired F l₁ l₂->(∀a b,F a b->G a b)->Paired G l₁ l₂
 | _,_,.nil,_=>.nil
 | _,_,.cons r t,f=>.cons (f _ _ r) (Paired.mapP t f)
theorem ObjOk.stay (x:ObjOk P w H h a o) (k:∀b u,(b=a\/H b=some (.own a))->h.get? b=some u->h'.get? b=some u)
  (ho:∀b,H b=some (.own a)->H' b=some (.own a)) (ht:∀b xs,H b=some (.tup xs)->H' b=some (.tup xs)):ObjOk P w H' h' a o:=by
 induction o with
 | lst xs=>obtain ⟨z,its,n,r,e⟩:=x;exact ⟨z,its,n,r,k _ _ (.inl rfl) e⟩
 | tup xs=>obtain ⟨z,its,r,ob,e,c⟩:=x;exact ⟨z,its,r,ob,k _ _ (.inl rfl) e,c⟩
 | dK kvs=>obtain ⟨z,y,vs,r,ob,es,ep,e,c⟩:=x;exact ⟨z,y,vs,r,ob,es,ep,k _ _ (.inl rfl) e,c⟩
 | dT kvs =>
  obtain ⟨z,y,xs,r,ob,es,ep,e,c⟩:=x
  exact ⟨z,y,xs,Paired.mapP r λp q z=>⟨z.1,ht _ _ z.2.1,z.2.2⟩,ob,es,ep,k _ _ (.inl rfl) e,c⟩
 | set S n=>obtain ⟨ob,es,ep,t,e,c⟩:=x;exact ⟨ob,es,ep,t,k _ _ (.inl rfl) e,c⟩
 | ins C dx fs =>
  obtain ⟨d,z,ne,e,mA,⟨od,es,ep,e2,c⟩,r⟩:=x
  exact ⟨ho _ d,z,ne,k _ _ (.inl rfl) e,mA,⟨od,es,ep,k _ _ (.inr d) e2,c⟩,r⟩
 | own y=>obtain ⟨ob,e⟩:=x;exact ⟨ob,k _ _ (.inl rfl) e⟩
 | xd fs=>obtain ⟨mA,⟨od,es,ep,e,c⟩,r⟩:=x;exact ⟨mA,⟨od,es,ep,k _ _ (.inl rfl) e,c⟩,r⟩
 | rng lo hi=>obtain ⟨t,u,v,e⟩:=x;exact ⟨t,u,v,k _ _ (.inl rfl) e⟩
 | frz ob u ih=>obtain ⟨e,q⟩:=x;exact ⟨k _ _ (.inl rfl) e,ih q⟩
 | tbl ps =>
  have e:h.get? a=some { cls:=.none,data:=.fields ps }:=x
  show h'.get? a=some { cls:=.none,data:=.fields ps }
  exact k a _ (.inl rfl) e
 | met f y =>
  have e:h.get? a=some (PySem.W.methodObj (.ref f) (.ref y)):=x
  show h'.get? a=some (PySem.W.methodObj (.ref f) (.ref y))
  exact k a _ (.inl rfl) e
 | ext φ=>obtain ⟨p,⟨o,e⟩,st⟩:=x;exact ⟨st _ _ p λo q=>k _ _ (.inl rfl) q,⟨o,k _ _ (.inl rfl) e⟩,st⟩
theorem HOk.lt (x:HOk P w H h) (e:H a=some o):a<h.objs.size:=(x a o e).lt
theorem HOk.fresh (x:HOk P w H h) (e:h.objs.size<=a):H a=none:=by
 cases q:H a with
 | none=>rfl
 | some u=>exact absurd (Nat.lt_of_lt_of_le (x.lt q) e) (Nat.lt_irrefl _)
theorem HOk.kept (x:HOk P w H h) (k:∀b u,h.get? b=some u->h'.get? b=some u):HOk P w H h':=λa o e =>
 (x a o e).stay (λb u _ q=>k b u q) (λ_ q=>q) λ_ _ q=>q
theorem HOk.laid (x:HOk P w H h) (k:∀b u,h.get? b=some u->h'.get? b=some u) (hp:h.objs.size<=a) (new:ObjOk P w (upd H a o) h' a o):HOk P w (upd H a o) h':=λb u e=>by
 have hn:=x.fresh hp
 by_cases hb:b=a
 ·subst hb;rw [zfe] at e;cases e;exact new
 ·rw [za2 hb] at e
  exact (x b u e).stay (λc v _ q=>k c v q) (λc q=>by rw [za2 (zci q hn)];exact q) λc xs q=>by rw [za2 (zci q hn)];exact q
end
def Rd (H:Hp) (a:Addr) (u:HO):Prop:=H a=some u\/∃o,H a=some (.frz o u)
theorem Rd.ok {P:Program}{w:World}{H:Hp}{h:Heap}{a:Addr}{u:HO}(r:Rd H a u) (x:HOk P w H h):ObjOk P w H h a u:=by
 rcases r with r|⟨o,r⟩
 ·exact x a u r
 ·obtain ⟨_,q⟩:=x a _ r
  exact q
def Mut:Option HO->Prop
 | some (.lst _)=>True
 | some (.dK _)=>True
 | some (.dT _)=>True
 | some (.set _ _)=>True
 | some (.ins _ _ _)=>True
 | some (.ext _)=>True
 | _=>False
section
variable {P:Program}{w:World}{H:Hp}{h h':Heap}{x e:Addr}{o':HO}
theorem HOk.write (ok:HOk P w H h) (mu:Mut (H x)) (he:e=x\/H e=some (.own x)) (k:∀b u,b≠e->h.get? b=some u->h'.get? b=some u) (heo:∃u,h'.get? e=some u)
  (new:ObjOk P w (upd H x o') h' x o'):HOk P w (upd H x o') h':=λb u q=>by
 have nown:∀c y,H c=some (.own y)->c≠x:=λc y r z=>by subst z;rw [r] at mu;exact mu
 have ntup:∀c xs,H c=some (.tup xs)->c≠x:=λc xs r z=>by subst z;rw [r] at mu;exact mu
 by_cases hb:b=x
 ·subst hb;rw [zfe] at q;cases q;exact new
 ·rw [za2 hb] at q
  by_cases hbe:b=e
  ·have q':H b=some (.own x):=by
    rcases he with z|z
    ·exact absurd (hbe.trans z) hb
    ·rw [hbe];exact z
   rw [q] at q';cases q'
   obtain ⟨v,hv⟩:=heo
   exact ⟨v,by rw [hbe];exact hv⟩
  ·refine (ok b u q).stay (λc v hc r=>k c v ?_ r) (λc r=>by rw [za2 (nown c b r)];exact r) λc xs r=>by rw [za2 (ntup c xs r)];exact r
   rcases hc with rfl|hc
   ·exact hbe
   ·rintro rfl
    rcases he with z|z
    ·exact nown c b hc z
    ·rw [hc] at z;cases z;exact hb rfl
end
structure Un (fs ex:List Addr) (H H':Hp) (h h':Heap):Prop where
 keep:∀b o,h.get? b=some o->H b=none->b ∉ fs->b ∉ ex->h'.get? b=some o
 slot:∀b o,h.get? b=some o->H b=none->b∈fs->b ∉ ex->∃sl,h'.get? b=some { o with slots:=sl }
 free:∀b o,h.get? b=some o->H b=none->b ∉ ex->H' b=none
 there:∀b o,h.get? b=some o->b ∉ ex->∃o',h'.get? b=some o'
 tups:∀b xs,H b=some (.tup xs)->H' b=some (.tup xs)
 frzs:∀b o u,H b=some (.frz o u)->H' b=some (.frz o u)
 tbls:∀b ps,H b=some (.tbl ps)->∃more,H' b=some (.tbl (ps++more))
section
variable {fs fs' ex ex':List Addr}{H H1 H2:Hp}{h h1 h2 h':Heap}{a x e:Addr}{o:HO}
theorem Un.any (u:Un fs ex H H1 h h1) {b:Addr}{ob:Obj}(q:h.get? b=some ob) (n:H b=none) (hx:b ∉ ex):∃sl,h1.get? b=some { ob with slots:=sl }:=by
 by_cases hb:b∈fs
 ·exact u.slot b ob q n hb hx
 ·exact ⟨ob.slots,u.keep b ob q n hb hx⟩
theorem Un.kept (k:∀b u,h.get? b=some u->h'.get? b=some u):Un fs ex H H h h' :=
 ⟨λb ob q _ _ _=>k b ob q,λb ob q _ _ _=>⟨ob.slots,k b ob q⟩,λ_ _ _ n _=>n,λb ob q _=>⟨ob,k b ob q⟩,λ_ _ q=>q,λ_ _ _ q=>q,λ_ ps q=>⟨#[],by rw [q];simp⟩⟩
theorem Un.refl:Un fs ex H H h h:=Un.kept λ_ _ q=>q
theorem Un.laid (k:∀b u,h.get? b=some u->h'.get? b=some u) (hp:h.objs.size<=a) (hn:H a=none):Un fs ex H (upd H a o) h h' where
 keep:=λb u q _ _ _=>k b u q
 slot:=λb u q _ _ _=>⟨u.slots,k b u q⟩
 free:=λb u q n _=>by rw [za2 (Nat.ne_of_lt (Nat.lt_of_lt_of_le (Heap.lt_size q) hp))];exact n
 there:=λb u q _=>⟨u,k b u q⟩
 tups:=λb xs q=>by rw [za2 (zci q hn)];exact q
 frzs:=λb u xs q=>by rw [za2 (zci q hn)];exact q
 tbls:=λb ps q=>⟨#[],by rw [za2 (zci q hn),q];simp⟩
theorem Un.write (mu:Mut (H x)) (he:e=x\/H e=some (.own x)) (k:∀b u,b≠e->h.get? b=some u->h'.get? b=some u) (heo:∃u,h'.get? e=some u):Un fs ex H (upd H x o) h h':=by
 have hx:∀b,H b=none->b≠x:=λb n z=>by subst z;rw [n] at mu;exact mu
 have hb:∀b,H b=none->b≠e:=λb n z=>by
  subst z
  rcases he with r|r
  ·exact hx b n r
  ·rw [n] at r;cases r
 have hm:∀b u,H b=some u->¬Mut (some u)->b≠x:=λb u q nm z=>by subst z;rw [q] at mu;exact nm mu
 refine ⟨λb u q n _ _=>k b u (hb b n) q,λb u q n _ _=>⟨u.slots,k b u (hb b n) q⟩,λb u q n _=>by rw [za2 (hx b n)];exact n,λb u q _=>?_,
  λb xs q=>by rw [za2 (hm b _ q λz=>z)];exact q,λb u xs q=>by rw [za2 (hm b _ q λz=>z)];exact q,λb ps q=>⟨#[],by rw [za2 (hm b _ q λz=>z),q];simp⟩⟩
 by_cases hbe:b=e
 ·subst hbe;exact heo
 ·exact ⟨u,k b u hbe q⟩
end
noncomputable def trk (h:Heap) (H:Hp):List Addr:=(List.range h.objs.size).filter λa=>(H a).isSome
noncomputable def zg1 (h:Heap) (H:Hp):Heap:=PySem.W.hideAll h (trk h H)
theorem zv5 (h:Heap) (H:Hp):(zg1 h H).objs.size=h.objs.size:=PySem.W.hideAll_size _ _
theorem zv6 {h:Heap}{H:Hp}{b:Addr}{o:Obj}(e:h.get? b=some o) (n:H b=none):(zg1 h H).get? b=some o :=
 PySem.W.hideAll_get _ e λhm=>by
  have q:(H b).isSome=true:=(List.mem_filter.mp hm).2
  rw [n] at q;simp at q
theorem zv7 {h:Heap}{H:Hp}{b:Addr}{o:Obj}(e:(zg1 h H).get? b=some o):h.get? b=some o/\H b=none:=by
 have e':h.get? b=some o:=PySem.W.of_hideAll (trk h H) e
 refine ⟨e',?_⟩
 cases q:H b with
 | none=>rfl
 | some x =>
  have hm:b∈trk h H:=List.mem_filter.mpr ⟨List.mem_range.mpr (Heap.lt_size e'),by simp [q]⟩
  have z:(zg1 h H).get? b=none:=PySem.W.hideAll_none (trk h H) hm
  rw [z] at e;cases e
noncomputable def zv8 (g h:Heap) (L:Addr):List (Addr × Obj):=(List.range h.objs.size).filterMap λa=>if a=L\/(g.get? a).isSome=true then none else (h.get? a).map λo=>(a,o)
noncomputable def rest (g h:Heap) (L d:Addr):List (Addr × Obj):=(zv8 g h L).filter λp=>decide (p.1≠d)
structure Mod (K:QFg) (mg:Str->Option Value) (base:Heap):Prop where
 kin:K.In base
 glob:base.Ns mainGlobals mg
 blt:∃mb,base.Ns builtinsNs mb/\∀x:Str,x≠"__name__"->mb x=bootBuiltins x
 nolimit:base.NoLimit
structure Cx where
 prog:Program
 w:World
 K:QFg
 mg:Str->Option Value
 base:Heap
 A:Around
 N:List Str
 s₀:Shared
 H₀:Hp
 env:Env
 outer:List Env
 stack:List Env
 ex:List Addr
 fn:Str->Bool
 calm:Bool
 pn:List (Addr × Obj)
 xe:Value->Shared->Prop
noncomputable def frs (l:List Env):List Addr:=l.filterMap (·.frame)
noncomputable abbrev Cx.fs (X:Cx):List Addr:=frs X.outer
def Vis (sc:Scope) (x:Str):Prop:=sc.names.lookup x=some .local\/sc.names.lookup x=some .cell\/sc.names.lookup x=some .free
def Loc (sc:Scope) (x:Str):Prop:=sc.names.lookup x=some .local\/sc.names.lookup x=some .cell
def zv9 (env:Env) (h:Heap) (m:Str->Option Value) (x:Str) (u:Value):Prop :=
 (env.kindOf x=some .local/\m x=some u)\/((env.kindOf x=some .cell\/env.kindOf x=some .free)/\∃c,env.cells.lookup x=some c/\h.IsCell c (some u))
structure Cx.Ok (X:Cx):Prop where
 mod:Mod X.K X.mg X.base
 kind:X.env.scope.kind=.function
 glob:X.env.globals=mainGlobals
 blt:X.env.builtins=builtinsNs
 above:X.s₀.heap.objs.size<=X.env.locals
 inj:∀x y c,X.env.cells.lookup x=some c->X.env.cells.lookup y=some c->x=y
 has:∀x,(X.env.kindOf x=some .cell\/X.env.kindOf x=some .free)->∃c,X.env.cells.lookup x=some c
 cab:∀x c,X.fn x=true->X.env.cells.lookup x=some c->X.s₀.heap.objs.size<=c
 hd:X.calm=true->X.A.handled=none
 frames:X.A.frames=some X.stack
 stk:X.stack=X.outer\/(X.stack=X.env :: X.outer/\X.env.frame=some X.env.locals)
 exf:∀b∈X.ex,b≠X.env.locals/\∀x c,X.env.cells.lookup x=some c->c≠b
 bs:∀b o,X.base.get? b=some o->X.s₀.heap.get? b=some o/\X.H₀ b=none
 bsz:X.base.objs.size<=X.s₀.heap.objs.size
 noex:∀b o,X.base.get? b=some o->b ∉ X.ex
 exfs:∀b∈X.ex,b ∉ X.fs
 funs:X.s₀.heap.FunFrames X.base X.outer
 frf:∀b∈X.fs,X.H₀ b=none
structure Inv (X:Cx) (pins:List (Addr × Obj)) (σ:List (Option V)) (H:Hp) (s:Shared):Prop where
 ok:X.Ok
 os:s.os=X.s₀.os
 bare:AllBare s.gens
 base:Un X.fs X.ex X.H₀ H X.s₀.heap s.heap
 loc:∃m,s.heap.Ns X.env.locals m/\∀(i:Nat) (x:Str) (v:V),X.N[i]? = some x->σ[i]? = some (some v)->Vis X.env.scope x->∃u,RelV v u/\zv9 X.env s.heap m x u
 cell:∀x c,X.env.cells.lookup x=some c->∃v,s.heap.IsCell c v
 free:H X.env.locals=none
 freeC:∀x c,X.env.cells.lookup x=some c->H c=none
 pin:∀p∈X.pn++pins,s.heap.get? p.1=some p.2/\H p.1=none/\p.1≠X.env.locals/\p.1 ∉ X.fs/\∀v,p.2.data≠.cell v
 hok:HOk X.prog X.w H s.heap
 len:σ.length=X.N.length
section
variable {X:Cx}{pins:List (Addr × Obj)}{σ:List (Option V)}{H H':Hp}{s:Shared}{h':Heap}
theorem Cx.Ok.nofr (ok:X.Ok) {b:Addr}{o:Obj}(e:X.base.get? b=some o):b ∉ X.fs:=λhb=>by
 have:=(ok.funs.mem hb).1
 rw [e] at this;cases this
theorem Inv.bs (I:Inv X pins σ H s):∀b o,X.base.get? b=some o->s.heap.get? b=some o/\H b=none:=λb o e =>
 ⟨I.base.keep b o (I.ok.bs b o e).1 (I.ok.bs b o e).2 (I.ok.nofr e) (I.ok.noex b o e),I.base.free b o (I.ok.bs b o e).1 (I.ok.bs b o e).2 (I.ok.noex b o e)⟩
theorem Inv.bk (I:Inv X pins σ H s):∀b o,X.base.get? b=some o->s.heap.get? b=some o:=λb o e=>(I.bs b o e).1
theorem Inv.mod (I:Inv X pins σ H s):Mod X.K X.mg X.base:=I.ok.mod
theorem Inv.kIn (I:Inv X pins σ H s):X.K.In s.heap:=I.ok.mod.kin.keeps I.bk
theorem Inv.lt (I:Inv X pins σ H s):X.env.locals<s.heap.objs.size:=let ⟨_,hn,_⟩:=I.loc;hn.lt
theorem Inv.sz (I:Inv X pins σ H s):X.s₀.heap.objs.size<=s.heap.objs.size:=Nat.le_trans I.ok.above (Nat.le_of_lt I.lt)
theorem Inv.nofs (I:Inv X pins σ H s) {a:Addr}(h:s.heap.objs.size<=a):a ∉ X.fs:=λhb=>by
 obtain ⟨_,o,ho,_⟩:=I.ok.funs.mem hb
 exact absurd (Nat.lt_of_lt_of_le (Heap.lt_size ho) (Nat.le_trans I.sz h)) (Nat.lt_irrefl _)
theorem Inv.cne (I:Inv X pins σ H s):∀x c,X.env.cells.lookup x=some c->c≠X.env.locals:=λx c e z=>by
 obtain ⟨v,o,ho,hd⟩:=I.cell x c e
 obtain ⟨m,⟨o',es,ep,ho',hd',_⟩,_⟩:=I.loc
 rw [z,ho'] at ho;cases ho;rw [hd'] at hd;cases hd
theorem Inv.funs (I:Inv X pins σ H s):s.heap.FunFrames X.base X.outer:=by
 have all:∀(l:List Env),(∀b∈frs l,b∈X.fs)->X.s₀.heap.FunFrames X.base l->s.heap.FunFrames X.base l:=by
  intro l
  induction l with
  | nil=>intro _ _;trivial
  | cons env r ih =>
   intro hs hl
   obtain ⟨hk,⟨L,o,hf,hn,ho,hd⟩,hr⟩:=hl
   have hL:L∈X.fs:=hs L (by unfold frs;rw [List.filterMap_cons,hf];exact List.mem_cons_self)
   obtain ⟨sl,e⟩:=I.base.slot L o ho (I.ok.frf L hL) hL λz=>I.ok.exfs L z hL
   exact ⟨hk,⟨L,_,hf,hn,e,hd⟩,ih (λb hb=>hs b (by unfold frs;rw [List.filterMap_cons,hf];exact List.mem_cons_of_mem _ hb)) hr⟩
 exact all X.outer (λ_ hb=>hb) I.ok.funs
theorem Inv.stack (I:Inv X pins σ H s):s.heap.FunFrames X.base X.stack:=by
 rcases I.ok.stk with e|⟨e,hf⟩
 ·rw [e];exact I.funs
 ·rw [e]
  obtain ⟨m,hn,_⟩:=I.loc
  refine .cons (by rw [I.ok.kind];decide) hf hn ?_ I.funs
  exact Heap.get?_none_of_le (Nat.le_trans I.ok.bsz I.ok.above)
theorem Inv.stkSub (I:Inv X pins σ H s):∀b∈frs X.stack,b∈X.env.locals :: X.fs:=λb hb=>by
 rcases I.ok.stk with e|⟨e,hf⟩
 ·rw [e] at hb;exact List.mem_cons_of_mem _ hb
 ·rw [e] at hb
  unfold frs at hb
  rw [List.filterMap_cons,hf] at hb
  exact hb
theorem Inv.stkFree (I:Inv X pins σ H s):∀b∈frs X.stack,H b=none:=λb hb=>by
 rcases List.mem_cons.mp (I.stkSub b hb) with e|hb
 ·rw [e];exact I.free
 ·obtain ⟨_,o,ho,_⟩:=I.ok.funs.mem hb
  exact I.base.free b o ho (I.ok.frf b hb) λz=>I.ok.exfs b z hb
theorem Inv.step {g':Array GenState}{t':Nat}{d':Drawn}{ch:List Addr}(I:Inv X pins σ H s)
  (hch:∀b∈ch,(b∈X.ex\/X.s₀.heap.objs.size<=b)/\b≠X.env.locals/\(∀x c,X.env.cells.lookup x=some c->c≠b)/\∀p∈X.pn++pins,p.1≠b)
  (keep:∀b o,b≠X.env.locals->b ∉ X.fs->b ∉ ch->s.heap.get? b=some o->H b=none->h'.get? b=some o)
  (slot:∀b o,b≠X.env.locals->b∈X.fs->b ∉ ch->s.heap.get? b=some o->H b=none->∃sl,h'.get? b=some { o with slots:=sl }) (free:∀b o,b ∉ ch->s.heap.get? b=some o->H b=none->H' b=none)
  (there:∀b o,b ∉ ch->s.heap.get? b=some o->∃o',h'.get? b=some o')
  (tups:∀b xs,H b=some (.tup xs)->H' b=some (.tup xs)) (frzs:∀b o u,H b=some (.frz o u)->H' b=some (.frz o u)) (tbls:∀b ps,H b=some (.tbl ps)->∃more,H' b=some (.tbl (ps++more)))
  (ns:∀m,s.heap.Ns X.env.locals m->h'.Ns X.env.locals m) (hok:HOk X.prog X.w H' h') (hg:AllBare g') :
  Inv X pins σ H' { s with heap:=h',gens:=g',drawn:=d',toks:=t' }:=by
 have neL:∀b o,X.s₀.heap.get? b=some o->b≠X.env.locals:=λb o e=>Nat.ne_of_lt (Nat.lt_of_lt_of_le (Heap.lt_size e) I.ok.above)
 have neC:∀b o,X.s₀.heap.get? b=some o->b ∉ X.ex->b ∉ ch:=λb o e hx hb=>by
  rcases (hch b hb).1 with z|z
  ·exact hx z
  ·exact absurd (Nat.lt_of_lt_of_le (Heap.lt_size e) z) (Nat.lt_irrefl _)
 have cellK:∀x c,X.env.cells.lookup x=some c->∀v,s.heap.IsCell c v->h'.IsCell c v:=λx c e v hx1_=>by
  obtain ⟨o,ho,hd⟩:=hx1_
  have nch:c ∉ ch:=λz=>(hch c z).2.2.1 x c e rfl
  by_cases hc:c∈X.fs
  ·obtain ⟨sl,q⟩:=slot c o (I.cne x c e) hc nch ho (I.freeC x c e)
   exact ⟨_,q,hd⟩
  ·exact ⟨o,keep c o (I.cne x c e) hc nch ho (I.freeC x c e),hd⟩
 refine ⟨I.ok,I.os,hg,⟨λb o e n hb hx=>?_,λb o e n hb hx=>?_,λb o e n hx=>?_,λb o e hx=>?_,λb xs e=>tups b xs (I.base.tups b xs e),λb o xs e=>frzs b o xs (I.base.frzs b o xs e),λb ps e=>?_⟩,?_,λx c e=>?_,?_,λx c e=>?_,λp hp=>?_,hok,I.len⟩
 ·exact keep b o (neL b o e) hb (neC b o e hx) (I.base.keep b o e n hb hx) (I.base.free b o e n hx)
 ·obtain ⟨sl,e1⟩:=I.base.slot b o e n hb hx
  obtain ⟨sl',e2⟩:=slot b _ (neL b o e) hb (neC b o e hx) e1 (I.base.free b o e n hx)
  exact ⟨sl',e2⟩
 ·obtain ⟨o',e1⟩:=I.base.there b o e hx
  exact free b o' (neC b o e hx) e1 (I.base.free b o e n hx)
 ·obtain ⟨o',e1⟩:=I.base.there b o e hx
  exact there b o' (neC b o e hx) e1
 ·obtain ⟨m1,e1⟩:=I.base.tbls b ps e
  obtain ⟨m2,e2⟩:=tbls b _ e1
  exact ⟨m1++m2,by rw [e2,Array.append_assoc]⟩
 ·obtain ⟨m,hn,hl⟩:=I.loc
  refine ⟨m,ns m hn,λi x v e1 e2 e3=>?_⟩
  obtain ⟨u,r,l⟩:=hl i x v e1 e2 e3
  refine ⟨u,r,?_⟩
  rcases l with l|⟨k,c,e,z⟩
  ·exact .inl l
  ·exact .inr ⟨k,c,e,cellK x c e _ z⟩
 ·obtain ⟨v,z⟩:=I.cell x c e
  exact ⟨v,cellK x c e v z⟩
 ·obtain ⟨m,⟨o,_,_,ho,_⟩,_⟩:=I.loc
  exact free _ o (λz=>(hch _ z).2.1 rfl) ho I.free
 ·obtain ⟨v,o,ho,hd⟩:=I.cell x c e
  exact free c o (λz=>(hch c z).2.2.1 x c e rfl) ho (I.freeC x c e)
 ·obtain ⟨e,n,ne,nf,d⟩:=I.pin p hp
  have nch:p.1 ∉ ch:=λz=>(hch p.1 z).2.2.2 p hp rfl
  exact ⟨keep p.1 p.2 ne nf nch e n,free p.1 p.2 nch e n,ne,nf,d⟩
theorem Inv.un {t':Nat}(I:Inv X pins σ H s) (u:Un X.fs [] H H' s.heap h') (hok:HOk X.prog X.w H' h'):Inv X pins σ H' { s with heap:=h',toks:=t' }:=by
 obtain ⟨m,⟨o,es,ep,ho,r⟩,_⟩:=id I.loc
 obtain ⟨sl,hL⟩:=u.any ho I.free (by simp)
 exact I.step (g':=s.gens) (d':=s.drawn) (ch:=[]) (λ_ z=>nomatch z) (λb o _ hb _ e n=>u.keep b o e n hb (by simp)) (λb o _ hb _ e n=>u.slot b o e n hb (by simp)) (λb o _ e n=>u.free b o e n (by simp)) (λb o _ e=>u.there b o e (by simp)) u.tups u.frzs u.tbls (λm' hm=>by
  obtain ⟨o',es',ep',ho',r'⟩:=hm
  rw [ho] at ho';cases ho'
  exact ⟨_,es',ep',hL,r'⟩) hok I.bare
theorem Inv.call {g':Array GenState}{t':Nat}{d':Drawn}{ch:List Addr}(I:Inv X pins σ H s) (u:Un (frs X.stack) ch H H' s.heap h') (hok:HOk X.prog X.w H' h') (hg:AllBare g')
  (hch:∀b∈ch,(b∈X.ex\/X.s₀.heap.objs.size<=b)/\b≠X.env.locals/\(∀x c,X.env.cells.lookup x=some c->c≠b)/\∀p∈X.pn++pins,p.1≠b) :
  Inv X pins σ H' { s with heap:=h',gens:=g',drawn:=d',toks:=t' }:=by
 obtain ⟨m,⟨o,es,ep,ho,r⟩,_⟩:=id I.loc
 obtain ⟨sl,hL⟩:=u.any ho I.free λz=>(hch _ z).2.1 rfl
 exact I.step (ch:=ch) hch (λb o hL hb hc e n=>u.keep b o e n (λz=>(List.mem_cons.mp (I.stkSub b z)).elim hL hb) hc) (λb o _ _ hc e n=>u.any e n hc) (λb o hc e n=>u.free b o e n hc) (λb o hc e=>u.there b o e hc) u.tups u.frzs u.tbls (λm' hm=>by
  obtain ⟨o',es',ep',ho',r'⟩:=hm
  rw [ho] at ho';cases ho'
  exact ⟨_,es',ep',hL,r'⟩) hok hg
theorem Inv.turned {t':Nat}{it:Addr}(I:Inv X pins σ H s) (k:∀b o,b≠it->s.heap.get? b=some o->h'.get? b=some o) (hn:H it=none) (hL:it≠X.env.locals)
  (h1:it∈X.ex\/X.s₀.heap.objs.size<=it) (h2:∀x c,X.env.cells.lookup x=some c->c≠it) (h3:∀p∈X.pn++pins,p.1≠it):Inv X pins σ H { s with heap:=h',toks:=t' }:=by
 have nit:∀b u,H b=some u->b≠it:=λb u e z=>by rw [z,hn] at e;cases e
 refine I.step (g':=s.gens) (d':=s.drawn) (ch:=[it]) (λb hb=>?_) (λb o _ _ hc e _=>k b o (λz=>hc (by simp [z])) e) (λb o _ _ hc e _=>⟨o.slots,k b o (λz=>hc (by simp [z])) e⟩) (λ_ _ _ _ n=>n)
  (λb o hc e=>⟨o,k b o (λz=>hc (by simp [z])) e⟩) (λ_ _ e=>e) (λ_ _ _ e=>e) (λb ps e=>⟨#[],by rw [e];simp⟩) (λm hm=>?_) (λb u e=>?_) I.bare
 ·have e:b=it:=by simpa using hb
  subst e
  exact ⟨h1,hL,h2,h3⟩
 ·obtain ⟨o,es,ep,ho,r⟩:=hm
  exact ⟨o,es,ep,k _ o (Ne.symm hL) ho,r⟩
 ·refine (I.hok b u e).stay (λc v hc q=>k c v ?_ q) (λ_ q=>q) λ_ _ q=>q
  rcases hc with z|z
  ·rw [z];exact nit b u e
  ·exact nit c _ z
theorem Inv.tok (I:Inv X pins σ H s) (t:Nat):Inv X pins σ H { s with toks:=t }:=I.un (h':=s.heap) (t':=t) Un.refl I.hok
theorem Inv.kept {t':Nat}(I:Inv X pins σ H s) (k:∀b u,s.heap.get? b=some u->h'.get? b=some u):Inv X pins σ H { s with heap:=h',toks:=t' }:=I.un (Un.kept k) (I.hok.kept k)
theorem Inv.laid {a:Addr}{o:HO}{t':Nat}(I:Inv X pins σ H s) (k:∀b u,s.heap.get? b=some u->h'.get? b=some u) (hp:s.heap.objs.size<=a) (new:ObjOk X.prog X.w (upd H a o) h' a o) :
  Inv X pins σ (upd H a o) { s with heap:=h',toks:=t' }:=I.un (Un.laid k hp (I.hok.fresh hp)) (I.hok.laid k hp new)
theorem Inv.write {x e:Addr}{o:HO}{t':Nat}(I:Inv X pins σ H s) (mu:Mut (H x)) (he:e=x\/H e=some (.own x)) (k:∀b u,b≠e->s.heap.get? b=some u->h'.get? b=some u) (heo:∃u,h'.get? e=some u)
  (new:ObjOk X.prog X.w (upd H x o) h' x o):Inv X pins σ (upd H x o) { s with heap:=h',toks:=t' }:=I.un (Un.write mu he k heo) (I.hok.write mu he k heo new)
theorem Inv.pins_of {pins':List (Addr × Obj)}(I:Inv X pins σ H s) (h:∀p∈pins',s.heap.get? p.1=some p.2/\H p.1=none/\p.1≠X.env.locals/\p.1 ∉ X.fs/\∀v,p.2.data≠.cell v):Inv X pins' σ H s :=
 ⟨I.ok,I.os,I.bare,I.base,I.loc,I.cell,I.free,I.freeC,λp hp=>(List.mem_append.mp hp).elim (λz=>I.pin p (List.mem_append_left _ z)) (h p),I.hok,I.len⟩
theorem zmc {N:List Str}(hN:N.Nodup) {i j:Nat}{x:Str}(a:N[i]? = some x) (b:N[j]? = some x):i=j:=by
 obtain ⟨h1,e1⟩:=qme a
 obtain ⟨h2,e2⟩:=qme b
 exact (List.getElem_inj hN).mp (e1.trans e2.symm)
theorem zow {M:Model}{A:Around}{E:Value->Shared->Prop}{i:Nat}{x:Str}{v:V}{u:Value}{Q:Unit->Shared->Prop}(I:Inv X pins σ H s) (hN:X.N.Nodup) (hi:X.N[i]? = some x) (hx:Loc X.env.scope x) (r:RelV v u)
  (h:∀s',Inv X pins (σ.set i (some v)) H s'->(∃a,Heap.SameBut a s.heap s'.heap/\(a=X.env.locals\/X.env.cells.lookup x=some a))->Q () s') (hf:X.fn x=true\/X.env.scope.names.lookup x=some .local:=by first|exact .inl rfl|exact .inr rfl|assumption):wpAny M A (storeName X.env x u) Q E s:=by
 obtain ⟨m,hn,hl⟩:=id I.loc
 have hcls:(X.env.scope.kind == .class || (X.env.scope.kind == .module && X.env.locals != X.env.globals))=false:=by rw [I.ok.kind];rfl
 have hiσ:i<σ.length:=by rw [I.len];exact (qme hi).1
 have cne:=I.cne
 have tracked:∀{a:Addr} {h':Heap},(∃o,s.heap.get? a=some o/\H a=none)->Heap.SameBut a s.heap h'->HOk X.prog X.w H h':=λ{a h'} ha hs b ob e=>by
  obtain ⟨_,_,hfree⟩:=ha
  refine (I.hok b ob e).stay (λc w' hc q=>(hs.2 c ?_).trans q) (λ_ q=>q) λ_ _ q=>q
  rintro rfl
  rcases hc with rfl|hc
  ·rw [hfree] at e;cases e
  ·rw [hfree] at hc;cases hc
 rcases hx with hk|hk
 ·refine wpAny_storeName_local hk hn (λh' hn' hs=>?_) hcls
  obtain ⟨oL,_,_,hoL,_⟩:=id hn
  refine h _ ⟨I.ok,I.os,I.bare,⟨λb o e n hb hx=>?_,λb o e n hb hx=>?_,I.base.free,λb o e hx=>?_,I.base.tups,I.base.frzs,I.base.tbls⟩,⟨_,hn',λj y v' e1 e2 e3=>?_⟩,λy c e=>?_,I.free,I.freeC,λp hp=>?_,tracked ⟨oL,hoL,I.free⟩ hs,by simpa using I.len⟩ ⟨_,hs,.inl rfl⟩
  ·exact (hs.2 b (Nat.ne_of_lt (Nat.lt_of_lt_of_le (Heap.lt_size e) I.ok.above))).trans (I.base.keep b o e n hb hx)
  ·obtain ⟨sl,e1⟩:=I.base.slot b o e n hb hx
   exact ⟨sl,(hs.2 b (Nat.ne_of_lt (Nat.lt_of_lt_of_le (Heap.lt_size e) I.ok.above))).trans e1⟩
  ·obtain ⟨o',e1⟩:=I.base.there b o e hx
   exact ⟨o',(hs.2 b (Nat.ne_of_lt (Nat.lt_of_lt_of_le (Heap.lt_size e) I.ok.above))).trans e1⟩
  ·by_cases hj:j=i
   ·subst hj
    rw [hi] at e1;cases e1
    rw [List.getElem?_set_self hiσ] at e2
    cases e2
    exact ⟨u,r,.inl ⟨hk,by simp⟩⟩
   ·rw [List.getElem?_set_ne (Ne.symm hj)] at e2
    obtain ⟨u',r',q⟩:=hl j y v' e1 e2 e3
    refine ⟨u',r',?_⟩
    rcases q with ⟨k,e⟩|⟨k,c,e,z⟩
    ·refine .inl ⟨k,?_⟩
     have:y≠x:=λe=>hj (zmc hN e1 (e ▸ hi))
     simp [this,e]
    ·exact .inr ⟨k,c,e,z.sameBut hs (cne y c e)⟩
  ·obtain ⟨w',z⟩:=I.cell y c e
   exact ⟨w',z.sameBut hs (cne y c e)⟩
  ·obtain ⟨e,n,ne,nf,d⟩:=I.pin p hp
   exact ⟨(hs.2 p.1 ne).trans e,n,ne,nf,d⟩
 ·have hfn:X.fn x=true:=by
   rcases hf with z|z
   ·exact z
   ·rw [z] at hk;cases hk
  obtain ⟨c,hc⟩:=I.ok.has x (.inl hk)
  obtain ⟨w',z⟩:=I.cell x c hc
  refine wpAny_storeName_cell I.ok.kind hk hc z (λh' hc' hs=>?_)
  obtain ⟨oc,hoc,hocd⟩:=id z
  refine h { s with heap:=h' } ⟨I.ok,I.os,I.bare,⟨λb o e n hb hx=>?_,λb o e n hb hx=>?_,I.base.free,λb o e hx=>?_,I.base.tups,I.base.frzs,I.base.tbls⟩,⟨m,hn.sameBut hs (Ne.symm (cne x c hc)),λj y v' e1 e2 e3=>?_⟩,λy c' e=>?_,I.free,I.freeC,λp hp=>?_,tracked ⟨oc,hoc,I.freeC x c hc⟩ hs,by simpa using I.len⟩ ⟨c,hs,.inr hc⟩
  ·exact (hs.2 b (Nat.ne_of_lt (Nat.lt_of_lt_of_le (Heap.lt_size e) (I.ok.cab x c hfn hc)))).trans (I.base.keep b o e n hb hx)
  ·obtain ⟨sl,e1⟩:=I.base.slot b o e n hb hx
   exact ⟨sl,(hs.2 b (Nat.ne_of_lt (Nat.lt_of_lt_of_le (Heap.lt_size e) (I.ok.cab x c hfn hc)))).trans e1⟩
  ·obtain ⟨o',e1⟩:=I.base.there b o e hx
   exact ⟨o',(hs.2 b (Nat.ne_of_lt (Nat.lt_of_lt_of_le (Heap.lt_size e) (I.ok.cab x c hfn hc)))).trans e1⟩
  ·by_cases hj:j=i
   ·subst hj
    rw [hi] at e1;cases e1
    rw [List.getElem?_set_self hiσ] at e2
    cases e2
    exact ⟨u,r,.inr ⟨.inl hk,c,hc,hc'⟩⟩
   ·rw [List.getElem?_set_ne (Ne.symm hj)] at e2
    obtain ⟨u',r',q⟩:=hl j y v' e1 e2 e3
    refine ⟨u',r',?_⟩
    rcases q with q|⟨k,c',e,z'⟩
    ·exact .inl q
    ·refine .inr ⟨k,c',e,z'.sameBut hs ?_⟩
     rintro rfl
     exact hj (zmc hN e1 (I.ok.inj _ _ _ e hc ▸ hi))
  ·by_cases hcc:c' = c
   ·subst hcc;exact ⟨_,hc'⟩
   ·obtain ⟨w2,z2⟩:=I.cell y c' e
    exact ⟨w2,z2.sameBut hs hcc⟩
  ·obtain ⟨e,n,ne,nf,d⟩:=I.pin p hp
   refine ⟨(hs.2 p.1 ?_).trans e,n,ne,nf,d⟩
   intro q
   rw [q,hoc] at e
   have q':oc=p.2:=qoi e
   exact d w' (by rw [<-q'];exact hocd)
theorem zmd {M:Model}{A:Around}{E:Value->Shared->Prop}{i:Nat}{x:Str}{v:V}{u:Value}{Q:Unit->Shared->Prop}(I:Inv X pins σ H s) (hN:X.N.Nodup) (hi:X.N[i]? = some x) (hx:Loc X.env.scope x) (r:RelV v u)
  (h:∀s',Inv X pins (σ.set i (some v)) H s'->Q () s') (hf:X.fn x=true\/X.env.scope.names.lookup x=some .local:=by first|exact .inl rfl|exact .inr rfl|assumption):wpAny M A (storeName X.env x u) Q E s :=
 zow I hN hi hx r (λs' I' _=>h s' I') hf
theorem Inv.call' {s':Shared}{ch:List Addr}(I:Inv X pins σ H s) (ho:s'.os=s.os) (u:Un (frs X.stack) ch H H' s.heap s'.heap) (hok:HOk X.prog X.w H' s'.heap) (hg:AllBare s'.gens)
  (hch:∀b∈ch,(b∈X.ex\/X.s₀.heap.objs.size<=b)/\b≠X.env.locals/\(∀x c,X.env.cells.lookup x=some c->c≠b)/\∀p∈X.pn++pins,p.1≠b):Inv X pins σ H' s':=by
 obtain ⟨h',g',d',t',o'⟩:=s'
 have e:o' = s.os:=ho
 subst e
 exact I.call (g':=g') (t':=t') (d':=d') u hok hg hch
end
abbrev XK:=Value->Option Addr->Hp->Prop
abbrev St:=List (Option V)
abbrev VK:=V->Hp->Prop
abbrev TE:=St->Hp->VK->Prop
abbrev TT:=St->Hp->(Bool->Hp->Prop)->Prop
abbrev TA:=St->Hp->(List V->Hp->Prop)->Prop
structure Ends where
 nx:St->Hp->Prop
 rt:VK
 bk:St->Hp->Prop:=λ_ _=>False
 ct:St->Hp->Prop:=λ_ _=>False
abbrev TS:=Ends->St->Hp->Prop
def EP (X:Cx) (pins:List (Addr × Obj)) (σ:St) (Q:VK) (u:Value) (s':Shared):Prop:=∃v H',Inv X pins σ H' s'/\RelV v u/\Q v H'
def TP (X:Cx) (pins:List (Addr × Obj)) (σ:St) (Q:Bool->Hp->Prop) (b:Bool) (s':Shared):Prop:=∃H',Inv X pins σ H' s'/\Q b H'
def AP (X:Cx) (pins:List (Addr × Obj)) (σ:St) (Q:List V->Hp->Prop) (us:List Value) (s':Shared):Prop:=∃vs H',Inv X pins σ H' s'/\Vals vs us/\Q vs H'
def SP (X:Cx) (pins:List (Addr × Obj)) (D:Ends) (f:Flow) (s':Shared):Prop :=
 match f with
 | .next=>∃σ' H',Inv X pins σ' H' s'/\D.nx σ' H'
 | .brk=>∃σ' H',Inv X pins σ' H' s'/\D.bk σ' H'
 | .cont=>∃σ' H',Inv X pins σ' H' s'/\D.ct σ' H'
 | .ret u=>∃v σ' H',Inv X pins σ' H' s'/\RelV v u/\D.rt v H'
def PE (X:Cx) (e:Expr) (t:TE):Prop :=
 ∀(pins:List (Addr × Obj)) (s:Shared) (σ:St) (H:Hp) (Q:VK),Inv X pins σ H s->t σ H Q->wpAny (model X.prog X.w) X.A (eval e X.env) (EP X pins σ Q) X.xe s
def PT (X:Cx) (e:Expr) (t:TT):Prop :=
 ∀(pins:List (Addr × Obj)) (s:Shared) (σ:St) (H:Hp) (Q:Bool->Hp->Prop),Inv X pins σ H s->t σ H Q->wpAny (model X.prog X.w) X.A (isTrue e X.env (eval e X.env)) (TP X pins σ Q) X.xe s
def PW (X:Cx) (e:Expr) (t:TT):Prop :=
 ∀(whole:Sem Value) (pins:List (Addr × Obj)) (s:Shared) (σ:St) (H:Hp) (Q:Bool->Hp->Prop),Inv X pins σ H s->t σ H Q->wpAny (model X.prog X.w) X.A (isTrue e X.env whole) (TP X pins σ Q) X.xe s
theorem PW.pt {X:Cx}{e:Expr}{t:TT}(h:PW X e t):PT X e t:=h _
def PA (X:Cx) (es:List Expr) (t:TA):Prop :=
 ∀(pos:Pos) (pins:List (Addr × Obj)) (s:Shared) (σ:St) (H:Hp) (Q:List V->Hp->Prop),Inv X pins σ H s->t σ H Q->wpAny (model X.prog X.w) X.A (spliced (backTo pos (starEach es X.env))) (AP X pins σ Q) X.xe s
def PS (X:Cx) (st:Stmt) (t:TS):Prop :=
 ∀(pins:List (Addr × Obj)) (s:Shared) (σ:St) (H:Hp) (D:Ends),Inv X pins σ H s->t D σ H->wpAny (model X.prog X.w) X.A (exec st X.env) (SP X pins D) X.xe s
def PSs (X:Cx) (st:List Stmt) (t:TS):Prop :=
 ∀(pins:List (Addr × Obj)) (s:Shared) (σ:St) (H:Hp) (D:Ends),Inv X pins σ H s->t D σ H->wpAny (model X.prog X.w) X.A (execs st X.env) (SP X pins D) X.xe s
theorem thn {α:Type}{t:Sem α}{Q Q':α->Shared->Prop}{M:Model}{A:Around}{E:Value->Shared->Prop}{s:Shared}(h:wpAny M A t Q E s) (hQ:∀a s,Q a s->Q' a s):wpAny M A t Q' E s:=wpAny_mono h hQ λ_ _ x=>x
section
variable {X:Cx}
def zwa (i:Nat):TE:=λσ H Q=>∃v,σ[i]? = some (some v)/\Q v H
def tC (v:V):TE:=λ_ H Q=>Q v H
theorem zwb {i:Nat}{x:Str}{pos:Pos}(hN:X.N[i]? = some x) (hv:Vis X.env.scope x) (hd:(x == ("__debug__":Str))=false:=by decide) (hcd:(x == ("__classdict__":Str))=false:=by decide):PE X (.Name x pos) (zwa i):=by
 intro pins s σ H Q I h
 obtain ⟨v,e,h⟩:=h
 obtain ⟨m,hn,hl⟩:=I.loc
 obtain ⟨u,r,l⟩:=hl i x v hN e hv
 have fin:EP X pins σ Q u s:=⟨v,H,I,r,h⟩
 rcases l with ⟨hk,hm⟩|⟨hk,c,hc,hcell⟩
 ·exact wpAny_Name (wpAny_loadName_local I.ok.kind hk hn hm fin) hd
 ·rcases hk with hk|hk
  ·exact wpAny_Name (wpAny_loadName_cell I.ok.kind hk hc hcell fin) hd
  ·exact wpAny_Name (wpAny_loadName_free I.ok.kind hk hc hcell fin hcd) hd
theorem zwc {i j pos}:PE X (.Constant (.int i) j pos) (tC (.int i)):=λ_ _ _ H _ I h=>wpAny_Constant_int ⟨.int i,H,I.tok _,⟨_,rfl⟩,h⟩
theorem zwd {b j pos}:PE X (.Constant (.bool b) j pos) (tC (.bl b)):=λ_ _ _ H _ I h=>Constant_bool ⟨.bl b,H,I,rfl,h⟩
theorem zwe {j pos}:PE X (.Constant .none j pos) (tC .non):=λ_ _ _ H _ I h=>Constant_none ⟨.non,H,I,rfl,h⟩
theorem zox {x j pos}:PE X (.Constant (.str x) j pos) (tC (.str x)):=λ_ _ _ H _ I h=>Calls.Constant_str ⟨.str x,H,I.tok _,⟨_,rfl⟩,h⟩
def Gl (X:Cx) (x:Str):Prop:=X.env.kindOf x=some .globalImplicit
theorem zio {E:Value->Shared->Prop}{pins:List (Addr × Obj)}{s:Shared}{σ:St}{H:Hp}{x:Str}{u:Value}{pos:Pos}{Q:Value->Shared->Prop}(I:Inv X pins σ H s) (hg:Gl X x) (hm:X.mg x=some u) (h:Q u s)
  (hd:(x == ("__debug__":Str))=false:=by decide):wpAny (model X.prog X.w) X.A (eval (.Name x pos) X.env) Q E s :=
 Calls.Name_function_global I.ok.kind hg (Calls.loadGlobal_global (by rw [I.ok.glob];exact I.mod.glob.keeps I.bk) hm h) hd
theorem zkq {E:Value->Shared->Prop}{pins:List (Addr × Obj)}{s:Shared}{σ:St}{H:Hp}{x:Str}{u:Value}{pos:Pos}{Q:Value->Shared->Prop}(I:Inv X pins σ H s) (hg:Gl X x) (hm:X.mg x=none) (hv:bootBuiltins x=some u) (h:Q u s)
  (hn:x≠"__name__":=by decide) (hd:(x == ("__debug__":Str))=false:=by decide):wpAny (model X.prog X.w) X.A (eval (.Name x pos) X.env) Q E s:=by
 obtain ⟨mb,h1,h2⟩:=I.mod.blt
 exact Calls.Name_function_global I.ok.kind hg (Calls.loadGlobal_builtin (by rw [I.ok.glob];exact I.mod.glob.keeps I.bk) hm (by rw [I.ok.blt];exact h1.keeps I.bk) ((h2 x hn).trans hv) h) hd
theorem zwf {x:Str}{v:V}{u:Value}{pos:Pos}(hg:Gl X x) (hm:X.mg x=some u) (r:RelV v u) (hd:(x == ("__debug__":Str))=false:=by decide):PE X (.Name x pos) (tC v) :=
 λ_ _ _ H _ I h=>zio I hg hm ⟨v,H,I,r,h⟩ hd
theorem zoy {x:Str}{v:V}{u:Value}{pos:Pos}(hg:Gl X x) (hm:X.mg x=none) (hv:bootBuiltins x=some u) (r:RelV v u) (hn:x≠"__name__":=by decide) (hd:(x == ("__debug__":Str))=false:=by decide):PE X (.Name x pos) (tC v) :=
 λ_ _ _ H _ I h=>zkq I hg hm hv ⟨v,H,I,r,h⟩ hn hd
variable {a b:Expr}{ta tb:TE}{pos:Pos}
def tB (t:TE):TT:=λσ H Q=>t σ H λx H1=>∃c,x=.bl c/\Q c H1
theorem zwg {e:Expr}{t:TE}(h:PE X e t) (he:∀whole,isTrue e X.env whole=(do let v <-whole;standAt e.pos;holding [v] (truthy v)):=by intro _;rfl):PT X e (tB t):=by
 intro pins s σ H Q I hw
 refine isTrue_plain (thn (h pins s σ H _ I hw) λv s1 ⟨x,H1,I1,r1,q1⟩=>?_) (he _)
 obtain ⟨d,rfl,q⟩:=q1
 cases r1
 exact wpAny_truthy_bool ⟨H1,I1,q⟩
variable {tA tB':TT}{rest:List Expr}
def tAnd (t u:TT):TT:=λσ H Q=>t σ H λc H1=>if c=true then u σ H1 Q else Q false H1
def tOr (t u:TT):TT:=λσ H Q=>t σ H λc H1=>if c=true then Q true H1 else u σ H1 Q
def zwh (t:TT):TT:=λσ H Q=>t σ H λc H1=>Q (!c) H1
theorem zwi (ha:PT X a tA):PW X (.BoolOp .And [a] pos) tA:=by
 intro wh pins s σ H Q I h
 refine isTrue_and (thn (ha pins s σ H Q I h) λc s1 e=>?_)
 cases c with
 | true=>exact isTrue_and_nil e
 | false=>exact e
theorem zwj (ha:PT X a tA):PW X (.BoolOp .Or [a] pos) tA:=by
 intro wh pins s σ H Q I h
 refine isTrue_or (thn (ha pins s σ H Q I h) λc s1 e=>?_)
 cases c with
 | false=>exact isTrue_or_nil e
 | true=>exact e
theorem zwk (ha:PT X a tA) (hb:PW X (.BoolOp .And (b :: rest) pos) tB'):PW X (.BoolOp .And (a :: b :: rest) pos) (tAnd tA tB'):=by
 intro wh pins s σ H Q I h
 refine isTrue_and (thn (ha pins s σ H _ I h) λc s1 ⟨H1,I1,q1⟩=>?_)
 cases c with
 | true=>exact hb wh pins s1 σ H1 Q I1 q1
 | false=>exact ⟨H1,I1,q1⟩
theorem zwl (ha:PT X a tA) (hb:PW X (.BoolOp .Or (b :: rest) pos) tB'):PW X (.BoolOp .Or (a :: b :: rest) pos) (tOr tA tB'):=by
 intro wh pins s σ H Q I h
 refine isTrue_or (thn (ha pins s σ H _ I h) λc s1 ⟨H1,I1,q1⟩=>?_)
 cases c with
 | true=>exact ⟨H1,I1,q1⟩
 | false=>exact hb wh pins s1 σ H1 Q I1 q1
theorem zwm (ha:PT X a tA):PT X (.UnaryOp .Not a pos) (zwh tA):=by
 intro pins s σ H Q I h
 exact isTrue_not (ha pins s σ H (λc H1=>Q (!c) H1) I h)
def zwn (ta tb:TE):TE:=λσ H Q=>ta σ H λx H1=>∃c,x=.bl c/\if c=true then tb σ H1 Q else Q (.bl false) H1
def zwo (ta tb:TE):TE:=λσ H Q=>ta σ H λx H1=>∃c,x=.bl c/\if c=true then Q (.bl true) H1 else tb σ H1 Q
def zwp (ta:TE):TE:=λσ H Q=>ta σ H λx H1=>∃c,x=.bl c/\Q (.bl (!c)) H1
theorem zwq {op}{t:TE}(h:PE X a t):PE X (.BoolOp op [a] pos) t:=λpins s σ H Q I hw=>BoolOp_one (h pins s σ H Q I hw)
theorem zwr (ha:PE X a ta) (hb:PE X (.BoolOp .And (b :: rest) pos) tb):PE X (.BoolOp .And (a :: b :: rest) pos) (zwn ta tb):=by
 intro pins s σ H Q I h
 refine BoolOp_and (thn (ha pins s σ H _ I h) λv s1 ⟨x,H1,I1,r1,q1⟩=>?_)
 obtain ⟨c,rfl,q1⟩:=q1
 cases r1
 refine wpAny_truthy_bool ?_
 cases c with
 | true=>exact hb pins s1 σ H1 Q I1 q1
 | false=>exact ⟨.bl false,H1,I1,rfl,q1⟩
theorem zws (ha:PE X a ta) (hb:PE X (.BoolOp .Or (b :: rest) pos) tb):PE X (.BoolOp .Or (a :: b :: rest) pos) (zwo ta tb):=by
 intro pins s σ H Q I h
 refine BoolOp_or (thn (ha pins s σ H _ I h) λv s1 ⟨x,H1,I1,r1,q1⟩=>?_)
 obtain ⟨c,rfl,q1⟩:=q1
 cases r1
 refine wpAny_truthy_bool ?_
 cases c with
 | false=>exact hb pins s1 σ H1 Q I1 q1
 | true=>exact ⟨.bl true,H1,I1,rfl,q1⟩
theorem zwt (ha:PE X a ta):PE X (.UnaryOp .Not a pos) (zwp ta):=by
 intro pins s σ H Q I h
 refine UnaryOp_ (thn (ha pins s σ H _ I h) λv s1 ⟨x,H1,I1,r1,q1⟩=>?_)
 obtain ⟨c,rfl,q1⟩:=q1
 cases r1
 exact not_of (wpAny_truthy_bool ⟨.bl (!c),H1,I1,rfl,q1⟩)
def tIf (t:TT) (ta tb:TE):TE:=λσ H Q=>t σ H λc H1=>if c=true then ta σ H1 Q else tb σ H1 Q
theorem zoz {c:Expr}(hc:PT X c tA) (ha:PE X a ta) (hb:PE X b tb):PE X (.IfExp c a b pos) (tIf tA ta tb):=by
 intro pins s σ H Q I h
 refine wpAny_IfExp (thn (hc pins s σ H _ I h) λd s1 ⟨H1,I1,q1⟩=>?_)
 cases d with
 | true=>exact ha pins s1 σ H1 Q I1 q1
 | false=>exact hb pins s1 σ H1 Q I1 q1
end
def SqL (K:QFg) (H:Hp) (a:Addr) (xs:List V):Prop :=
 Rd H a (.lst xs) \/
  ∃(o:Obj) (its:Array Value) (n:Nat),K.lookup a=some o/\o.cls=.type "list"/\o.dict=none/\o.data=.seq its n/\its.size<=sizeLine/\Vals xs its.toList
def SqT (K:QFg) (H:Hp) (a:Addr) (xs:List V):Prop :=
 Rd H a (.tup xs) \/
  ∃(o:Obj) (its:Array Value) (n:Nat),K.lookup a=some o/\o.cls=.type "tuple"/\o.data=.seq its n/\its.size<=sizeLine/\Vals xs its.toList
noncomputable def zwu:Value->Option V
 | .none=>some .non
 | .bool b=>some (.bl b)
 | .int i _=>some (.int i)
 | .str x _=>some (.str x)
 | .bytes b _=>some (.byt b)
 | .float b _=>some (.flt b)
 | .ref a=>some (.ref a)
 | .type n=>some (.ty n)
 | _=>none
theorem RelV.abs {x:V}{u:Value}(r:RelV x u):zwu u=some x:=by
 cases x with
 | non=>cases r;rfl
 | bl _=>cases r;rfl
 | int _=>obtain ⟨t,rfl⟩:=r;rfl
 | str _=>obtain ⟨t,rfl⟩:=r;rfl
 | byt _=>obtain ⟨t,rfl⟩:=r;rfl
 | flt _=>obtain ⟨t,rfl⟩:=r;rfl
 | ref _=>cases r;rfl
 | ty _=>cases r;rfl
theorem RelV.inj {x y:V}{u:Value}(r:RelV x u) (q:RelV y u):x=y:=qoi (r.abs.symm.trans q.abs)
theorem Vals.inj:∀{xs ys:List V}{us:List Value},Vals xs us->Vals ys us->xs=ys
 | _,_,_,.nil,.nil=>rfl
 | _,_,_,.cons r t,.cons r' t'=>by rw [r.inj r',Vals.inj t t']
section
variable {X:Cx}{pins:List (Addr × Obj)}{σ:St}{H:Hp}{s:Shared}{a:Addr}{xs ys:List V}
theorem SqT.of {K:QFg}(h:H a=some (.tup xs)):SqT K H a xs:=.inl (.inl h)
theorem Inv.list (I:Inv X pins σ H s) (h:SqL X.K H a xs):∃its:List Value,Vals xs its/\PlainL s.heap a its.toArray/\xs.length<=sizeLine:=by
 rcases h with h|⟨o,its,n,hk,hc,hd,hs,hz,r⟩
 ·obtain ⟨z,its,n,r,e⟩:=h.ok I.hok
  exact ⟨its,r,⟨_,n,e,rfl,rfl,rfl⟩,z⟩
 ·refine ⟨its.toList,r,⟨o,n,I.kIn a o hk,hc,hd,by simpa using hs⟩,?_⟩
  have e:=r.length
  simp only [Array.length_toList] at e
  omega
theorem Inv.tuple (I:Inv X pins σ H s) (h:SqT X.K H a xs):∃its:List Value,Vals xs its/\IsTup s.heap a its.toArray/\xs.length<=sizeLine:=by
 rcases h with h|⟨o,its,n,hk,hc,hs,hz,r⟩
 ·obtain ⟨z,its,r,p⟩:=h.ok I.hok
  exact ⟨its,r,p.tup,z⟩
 ·refine ⟨its.toList,r,⟨o,I.kIn a o hk,hc,n,by simpa using hs⟩,?_⟩
  have e:=r.length
  simp only [Array.length_toList] at e
  omega
theorem Inv.list_inj (I:Inv X pins σ H s) (h:SqL X.K H a xs) (h':SqL X.K H a ys):xs=ys:=by
 obtain ⟨its,r,⟨o,n,e,_,_,d⟩,_⟩:=I.list h
 obtain ⟨its',r',⟨o',n',e',_,_,d'⟩,_⟩:=I.list h'
 rw [e] at e';cases e'
 rw [d] at d'
 injection d' with d1 _
 have:its=its':=by simpa using congrArg Array.toList d1
 subst this
 exact r.inj r'
theorem Inv.tuple_inj (I:Inv X pins σ H s) (h:SqT X.K H a xs) (h':SqT X.K H a ys):xs=ys:=by
 obtain ⟨its,r,⟨o,e,_,n,d⟩,_⟩:=I.tuple h
 obtain ⟨its',r',⟨o',e',_,n',d'⟩,_⟩:=I.tuple h'
 rw [e] at e';cases e'
 rw [d] at d'
 injection d' with d1 _
 have:its=its':=by simpa using congrArg Array.toList d1
 subst this
 exact r.inj r'
end
noncomputable abbrev Cx.wish (X:Cx) (E:Value->Shared->Prop):Cx:={ X with xe:=E }
noncomputable abbrev Cx.nox (X:Cx):Cx:=X.wish λ_ _=>False
theorem Cx.Ok.wish {X:Cx}(ok:X.Ok) (E:Value->Shared->Prop):(X.wish E).Ok :=
 ⟨ok.mod,ok.kind,ok.glob,ok.blt,ok.above,ok.inj,ok.has,ok.cab,ok.hd,ok.frames,ok.stk,ok.exf,ok.bs,ok.bsz,ok.noex,ok.exfs,ok.funs,ok.frf⟩
theorem Cx.Ok.unwish {X:Cx}{E:Value->Shared->Prop}(ok:(X.wish E).Ok):X.Ok :=
 ⟨ok.mod,ok.kind,ok.glob,ok.blt,ok.above,ok.inj,ok.has,ok.cab,ok.hd,ok.frames,ok.stk,ok.exf,ok.bs,ok.bsz,ok.noex,ok.exfs,ok.funs,ok.frf⟩
section
variable {X:Cx}{pins:List (Addr × Obj)}{σ:St}{H:Hp}{s:Shared}{E:Value->Shared->Prop}
theorem Inv.wish (I:Inv X pins σ H s) (E:Value->Shared->Prop):Inv (X.wish E) pins σ H s:=⟨I.ok.wish E,I.os,I.bare,I.base,I.loc,I.cell,I.free,I.freeC,I.pin,I.hok,I.len⟩
theorem Inv.unwish (I:Inv (X.wish E) pins σ H s):Inv X pins σ H s:=⟨I.ok.unwish,I.os,I.bare,I.base,I.loc,I.cell,I.free,I.freeC,I.pin,I.hok,I.len⟩
theorem SP.unwish {D:Ends}{f:Flow}{s':Shared}(h:SP (X.wish E) pins D f s'):SP X pins D f s':=by
 cases f with
 | next=>obtain ⟨σ',H',I,q⟩:=h;exact ⟨σ',H',I.unwish,q⟩
 | brk=>obtain ⟨σ',H',I,q⟩:=h;exact ⟨σ',H',I.unwish,q⟩
 | cont=>obtain ⟨σ',H',I,q⟩:=h;exact ⟨σ',H',I.unwish,q⟩
 | ret u=>obtain ⟨v,σ',H',I,r,q⟩:=h;exact ⟨v,σ',H',I.unwish,r,q⟩
theorem PSs.nox {st:List Stmt}{t:TS}(h:PSs X.nox st t):PSs X st t:=λpins s σ H D I hw =>
 wpAny_mono (h pins s σ H D (I.wish _) hw) (λ_ _ q=>q.unwish) λ_ _ z=>False.elim z
end
section
variable {X:Cx}{st:Stmt}{rest:List Stmt}{t u:TS}{e:Expr}{te:TE}{pos:Pos}
def zwv:TS:=λD σ H=>D.nx σ H
def zww (t u:TS):TS:=λD σ H=>t { D with nx:=u D } σ H
theorem zwx:PSs X [] zwv:=λ_ _ σ H _ I h=>wpAny_execs_nil ⟨σ,H,I,h⟩
theorem zme (h1:PS X st t) (h2:PSs X rest u):PSs X (st :: rest) (zww t u):=by
 intro pins s σ H D I h
 refine wpAny_execs_cons (thn (h1 pins s σ H { D with nx:=u D } I h) λf s1 q=>?_)
 cases f with
 | next =>
  obtain ⟨σ',H',I',q⟩:=q
  exact h2 pins s1 σ' H' D I' q
 | ret v=>exact q
 | brk=>exact q
 | cont=>exact q
theorem zwy (h1:PS X st t):PSs X [st] t:=by
 intro pins s σ H D I h
 refine wpAny_execs_cons (thn (h1 pins s σ H D I h) λf s1 q=>?_)
 cases f with
 | next=>exact wpAny_execs_nil q
 | ret v=>exact q
 | brk=>exact q
 | cont=>exact q
theorem Inv.quiet {pins:List (Addr × Obj)}{σ:St}{H:Hp}{s:Shared}(I:Inv X pins σ H s):interactive X.env=false:=by simp [interactive,I.ok.kind]
def zwz (te:TE):TS:=λD σ H=>te σ H λ_ H1=>D.nx σ H1
theorem zo0 (he:PE X e te) (hs:swapsWith e none pos.line X.env=pure false:=by rfl):PS X (.Expr e pos) (zwz te):=by
 intro pins s σ H D I h
 exact wpAny_Expr_any (thn (he pins s σ H _ I h) λv s1 ⟨x,H1,I1,r1,q1⟩=>⟨σ,H1,I1,q1⟩) I.quiet hs
def zw0 (te:TE):TS:=λD σ H=>te σ H D.rt
theorem zo1 (he:PE X e te):PS X (.Return (some e) pos) (zw0 te):=by
 intro pins s σ H D I h
 exact wpAny_Return_some (thn (he pins s σ H _ I h) λv s1 ⟨x,H1,I1,r1,q1⟩=>⟨x,σ,H1,I1,r1,q1⟩)
def zw1 (c:TT) (t u:TS):TS:=λD σ H=>c σ H λb H1=>if b=true then t D σ H1 else u D σ H1
theorem zo2 {c:Expr}{a b:List Stmt}{tc:TT}(hc:PT X c tc) (ha:PSs X a t) (hb:PSs X b u):PS X (.If c a b pos) (zw1 tc t u):=by
 intro pins s σ H D I h
 refine wpAny_If (thn (hc pins s σ H _ I h) λd s1 ⟨H1,I1,q1⟩=>?_)
 cases d with
 | true=>exact ha pins s1 σ H1 D I1 q1
 | false=>exact hb pins s1 σ H1 D I1 q1
def zw2:TS:=λ_ _ _=>False
theorem zw3:PS X st zw2:=λ_ _ _ _ _ _ h=>h.elim
end
abbrev TG:=V->St->Hp->(St->Hp->Prop)->Prop
abbrev TGs:=List V->St->Hp->(St->Hp->Prop)->Prop
def PG (X:Cx) (target:Expr) (t:TG):Prop :=
 ∀(pins:List (Addr × Obj)) (s:Shared) (σ:St) (H:Hp) (v:V) (u:Value) (Q:St->Hp->Prop),Inv X pins σ H s->RelV v u->t v σ H Q ->
  wpAny (model X.prog X.w) X.A (assign target X.env u) (λ_ s'=>∃σ' H',Inv X pins σ' H' s'/\Q σ' H') X.xe s
def PGs (X:Cx) (ts:List Expr) (t:TGs):Prop :=
 ∀(pins:List (Addr × Obj)) (s:Shared) (σ:St) (H:Hp) (vs:List V) (us:List Value) (Q:St->Hp->Prop),Inv X pins σ H s->Vals vs us->t vs σ H Q ->
  wpAny (model X.prog X.w) X.A (assignInOrder ((assignEach ts X.env).map (·.2)) us) (λ_ s'=>∃σ' H',Inv X pins σ' H' s'/\Q σ' H') X.xe s
abbrev TSet:=V->V->V->Hp->(Hp->Prop)->Prop
def zo3 (X:Cx) (t:TSet):Prop :=
 ∀(pins:List (Addr × Obj)) (s:Shared) (σ:St) (H:Hp) (o i v:V) (ov iv u:Value) (Q:Hp->Prop),Inv X pins σ H s->RelV o ov->RelV i iv->RelV v u->t o i v H Q ->
  wpAny (model X.prog X.w) X.A (setItem ov iv u) (λ_ s'=>∃H',Inv X pins σ H' s'/\Q H') X.xe s
section
variable {X:Cx}{pos:Pos}
def zmf (i:Nat):TG:=λv σ H Q=>Q (σ.set i (some v)) H
theorem zw4 {i:Nat}{x:Str}(hN:X.N.Nodup) (hi:X.N[i]? = some x) (hx:Loc X.env.scope x) (hf:X.fn x=true\/X.env.scope.names.lookup x=some .local:=by first|exact .inl rfl|exact .inr rfl|assumption):PG X (.Name x pos) (zmf i):=by
 intro pins s σ H v u Q I r h
 exact wpAny_assign_Name (zmd I hN hi hx r (λs' I'=>⟨_,H,I',h⟩) hf)
def zw5:TGs:=λvs σ H Q=>vs=[]/\Q σ H
def zw6 (t:TG) (u:TGs):TGs:=λvs σ H Q=>∃v r,vs=v :: r/\t v σ H λσ' H'=>u r σ' H' Q
theorem zw7:PGs X [] zw5:=by
 intro pins s σ H vs us Q I r h
 obtain ⟨e,h⟩:=h
 subst e
 cases r
 exact assignInOrder_nil ⟨σ,H,I,h⟩
theorem zw8 {e:Expr}{es:List Expr}{t:TG}{u:TGs}(h1:PG X e t) (h2:PGs X es u)
  (hs:(assignEach (e :: es) X.env).map (·.2)=assign e X.env :: (assignEach es X.env).map (·.2):=by rfl):PGs X (e :: es) (zw6 t u):=by
 intro pins s σ H vs us Q I r h
 obtain ⟨v,vr,e1,h⟩:=h
 subst e1
 cases r with
 | cons r rr =>
  rw [hs]
  refine assignInOrder_cons (thn (h1 pins s σ H _ _ _ I r h) λ_ s1 ⟨σ1,H1,I1,q1⟩=>?_)
  exact h2 pins s1 σ1 H1 _ _ Q I1 rr q1
def zw9 (K:QFg) (n:Nat) (t:TGs):TG:=λv σ H Q=>∃a xs,v=.ref a/\SqT K H a xs/\xs.length=n/\t xs σ H Q
theorem zxa {es:List Expr}{k:Nat}{t:TGs}{n:Nat}(hc:X.calm=true) (h:PGs X es t)
  (hn:(assignEach es X.env).length=n:=by rfl) (hst:(assignEach es X.env).findIdx? (·.1)=none:=by rfl):PG X (.Tuple es k pos) (zw9 X.K n t):=by
 intro pins s σ H v u Q I r hw
 obtain ⟨a,xs,e1,hq,hl,hw⟩:=hw
 subst e1
 cases r
 obtain ⟨its,rv,ht,hz⟩:=I.tuple hq
 refine assign_Tuple_tuple (I.ok.hd hc) ht (by simp [hn,<-hl,rv.length]) hst λh' hx=>?_
 have I1:Inv X pins σ H { s with heap:=h' }:=I.kept (t':=s.toks) λb o e=>hx b o (Nat.ne_of_lt (Heap.lt_size e)) e
 exact h pins _ σ H xs _ Q I1 (by simpa using rv) hw
def zxb (to ti:TE) (t:TSet):TG:=λv σ H Q=>to σ H λo H1=>ti σ H1 λi H2=>t o i v H2 λH3=>Q σ H3
theorem zxc {o i:Expr}{to ti:TE}{t:TSet}(ho:PE X o to) (hi:PE X i ti) (hs:zo3 X t)
  (ha:∀v,assign (.Subscript o i pos) X.env v=(do
   let ov <-holding [v] (eval o X.env)
   let iv <-holding [v,ov] (eval i X.env)
   standAt pos
   holding [v,ov,iv] (setItem ov iv v)
   release [v,ov,iv] []):=by intro _;rfl):PG X (.Subscript o i pos) (zxb to ti t):=by
 intro pins s σ H v u Q I r h
 rw [ha]
 refine qwb (wpAny_holding (thn (ho pins s σ H _ I h) λov s1 ⟨x,H1,I1,r1,q1⟩=>?_))
 refine qwb (wpAny_holding (thn (hi pins s1 σ H1 _ I1 q1) λiv s2 ⟨y,H2,I2,r2,q2⟩=>?_))
 refine qwb (wpAny_standAt (qwb (wpAny_holding (thn (hs pins s2 σ H2 x y v ov iv u _ I2 r1 r2 r q2) λ_ s3 ⟨H3,I3,q3⟩=>?_))))
 exact wpAny_release ⟨σ,H3,I3,q3⟩
def zmg (te:TE) (g:TG):TS:=λD σ H=>te σ H λx H1=>g x σ H1 D.nx
theorem zo4 {tg e:Expr}{te:TE}{g:TG}(he:PE X e te) (hg:PG X tg g) (hs:swapsWithSole [tg] e pos.line X.env=pure false:=by rfl) (hw:swappedStores [tg] e X.env=pure none:=by rfl)
  (h1:(assignEach [tg] X.env).map (·.2)=[assign tg X.env]:=by rfl):PS X (.Assign [tg] e pos) (zmg te g):=by
 intro pins s σ H D I h
 refine wpAny_Assign_stores (thn (he pins s σ H _ I h) λv s1 ⟨x,H1,I1,r1,q1⟩=>?_) hs hw
 rw [h1]
 exact thn (hg pins s1 σ H1 x v _ I1 r1 q1) λ_ s2 q=>q
theorem zxd {i:Nat}{x:Str}{e:Expr}{te:TE}{pos':Pos}(hN:X.N.Nodup) (hi:X.N[i]? = some x) (hx:Loc X.env.scope x) (he:PE X e te) (hs:swapsWith e (some (.Name x pos')) pos.line X.env=pure false:=by rfl) (hf:X.fn x=true\/X.env.scope.names.lookup x=some .local:=by first|exact .inl rfl|exact .inr rfl|assumption) :
  PS X (.Assign [.Name x pos'] e pos) (zmg te (zmf i)):=by
 intro pins s σ H D I h
 refine wpAny_Assign_Name (thn (he pins s σ H _ I h) λv s1 ⟨y,H1,I1,r1,q1⟩=>?_) hs
 exact zmd I1 hN hi hx r1 (λs2 I2=>⟨_,H1,I2,q1⟩) hf
end
section
variable {X:Cx}{pos:Pos}
end
structure It where
 go:Nat->Hp->Prop
 yld:Nat->Hp->V->Hp->Prop
 stop:Nat->Hp->Prop
def zfl (X:Cx) (pins:List (Addr × Obj)) (H:Hp) (b:Addr):Prop :=
 H b=none/\b≠X.env.locals/\b ∉ X.fs/\(b∈X.ex\/X.s₀.heap.objs.size<=b)/\(∀x c,X.env.cells.lookup x=some c->c≠b)/\∀p∈X.pn++pins,p.1≠b
theorem Inv.fpOk {X:Cx}{pins:List (Addr × Obj)}{σ:St}{H H':Hp}{s:Shared}{b:Addr}(I:Inv X pins σ H s) (hb:s.heap.objs.size<=b) (hn:H' b=none):zfl X pins H' b:=by
 refine ⟨hn,Nat.ne_of_gt (Nat.lt_of_lt_of_le I.lt hb),I.nofs hb,.inr (Nat.le_trans I.sz hb),λx c e z=>?_,λp hp z=>?_⟩
 ·obtain ⟨v,q⟩:=I.cell x c e
  exact absurd (Nat.lt_of_lt_of_le q.lt (by rw [z];exact hb)) (Nat.lt_irrefl _)
 ·exact absurd (Nat.lt_of_lt_of_le (Heap.lt_size (I.pin p hp).1) (by rw [z];exact hb)) (Nat.lt_irrefl _)
structure Turn (P:Program) (w:World) (K:QFg) (tg:Expr) (J:It) (fp:List Addr) (it:Addr) (tn:Nat->Heap->Prop):Prop where
 mem:it∈fp
 obj:∀i h,tn i h->∀b∈fp,∃o,h.get? b=some o/\∀v,o.data≠.cell v
 keep:∀i h h',tn i h->(∀b∈fp,∀o,h.get? b=some o->h'.get? b=some o)->tn i h'
 item:∀(X:Cx),X.prog=P->X.w=w->X.K=K->X.calm=true->∀(i:Nat) (pins:List (Addr × Obj)) (s:Shared) (σ:St) (H:Hp) (E:Value->Shared->Prop),Inv X pins σ H s->(∀b∈fp,zfl X pins H b)->tn i s.heap->J.go i H ->
  wpAny (model P w) X.A (pyNext (.ref it)) (λr s1=>∃u,r=some u /\
   wpAny (model P w) X.A (letOwnedTupleGo tg (.ref it) u) (λ_ s2=>∃x H',Inv X pins σ H' s2/\RelV x u/\J.yld i H x H'/\tn (i+1) s2.heap/\∀b∈fp,H' b=none) E s1) E s
 done:∀(X:Cx),X.prog=P->X.w=w->X.K=K->X.calm=true->∀(i:Nat) (pins:List (Addr × Obj)) (s:Shared) (σ:St) (H:Hp) (E:Value->Shared->Prop),Inv X pins σ H s->(∀b∈fp,zfl X pins H b)->tn i s.heap->J.stop i H ->
  wpAny (model P w) X.A (pyNext (.ref it)) (λr s1=>r=none/\Inv X pins σ H s1) E s
 self:∀(A:Around) (i:Nat) (s:Shared) (Q:Value->Shared->Prop) (E:Value->Shared->Prop),tn i s.heap->Q (.ref it) s->wpAny (model P w) A (pyIter (.ref it)) Q E s
abbrev TI:=St->Hp->(It->Hp->Prop)->Prop
def PIE (X:Cx) (pins:List (Addr × Obj)) (σ:St) (tg:Expr) (R:It->Hp->Prop) (itv:Value) (s2:Shared):Prop :=
 ∃(it:Addr) (fp:List Addr) (tn:Nat->Heap->Prop) (J:It) (H':Hp),itv=.ref it/\Inv X pins σ H' s2/\Turn X.prog X.w X.K tg J fp it tn/\tn 0 s2.heap/\(∀b∈fp,zfl X pins H' b)/\R J H'
def PI (X:Cx) (tg iter:Expr) (wi:TI):Prop :=
 ∀(pins:List (Addr × Obj)) (s:Shared) (σ:St) (H:Hp) (R:It->Hp->Prop),Inv X pins σ H s->wi σ H R ->
  wpAny (model X.prog X.w) X.A (eval iter X.env) (λv s1=>wpAny (model X.prog X.w) X.A (pyIter v) (PIE X pins σ tg R) X.xe s1) X.xe s
theorem zkr {M:Model}{A:Around}{E:Value->Shared->Prop}{s:Shared}{tg:Expr}{it:Addr}{u:Value}{o:Obj}{n:String}{vs:Array Value}{Q:Unit->Shared->Prop}(ho:s.heap.get? it=some o) (hc:o.cls=.type n) (hd:o.data=.fields vs)
  (hn:["enumerate","zip","dict_itemiterator","dict_reverseitemiterator","odict_iterator","itertools.zip_longest","itertools.pairwise"].contains n=false) (hQ:Q () s):wpAny M A (letOwnedTupleGo tg (.ref it) u) Q E s:=by
 unfold letOwnedTupleGo
 cases tg <;> first
  | exact qwp hQ
  | (cases u <;> first
    | exact qwp hQ
    | (refine qwb (wpAny_load ho ?_)
       rw [hc,hd]
       show wpAny M A (if (["enumerate","zip","dict_itemiterator","dict_reverseitemiterator","odict_iterator","itertools.zip_longest","itertools.pairwise"].contains n && vs[0]? == some (rawInt _))=true then _ else _) Q E s
       rw [if_neg (by intro h;rw [hn,Bool.false_and] at h;cases h)]
       exact qwp hQ))
noncomputable def Itl (K:QFg) (a:Addr):It :=
 ⟨λi H=>∃xs x,SqL K H a xs/\xs[i]? = some x,λi H x H'=>H' = H/\∀xs,SqL K H a xs->xs[i]? = some x,λi H=>∃xs,SqL K H a xs/\xs.length<=i⟩
noncomputable def Itt (K:QFg) (a:Addr):It :=
 ⟨λi H=>∃xs x,SqT K H a xs/\xs[i]? = some x,λi H x H'=>H' = H/\∀xs,SqT K H a xs->xs[i]? = some x,λi H=>∃xs,SqT K H a xs/\xs.length<=i⟩
noncomputable def Itr (lo:Int) (n:Nat):It:=⟨λi _=>i<n,λi H x H'=>H' = H/\x=.int (lo+i),λi _=>n<=i⟩
theorem zxe {P:Program}{w:World}{K:QFg}{tg:Expr}(a it:Addr):Turn P w K tg (Itl K a) [it] it (λi h=>h.IsListIter it a i) where
 mem:=by simp
 obj:=λi h st b hb=>by
  have e:b=it:=by simpa using hb
  subst e
  obtain ⟨o,e,c,d⟩:=st
  exact ⟨o,e,λv z=>by rw [d] at z;cases z⟩
 keep:=λi h h' st k=>st.at λo e=>k it (by simp) o e
 item:=by
  intro X hP hw hK hc i pins s σ H E I hf st hg
  subst hP hw hK
  obtain ⟨xs,x,hq,hx⟩:=hg
  obtain ⟨its,rv,p,hz⟩:=I.list hq
  obtain ⟨u,hu,ru⟩:=rv.get hx
  obtain ⟨f0,f1,f2,f3,f4,f5⟩:=hf it (by simp)
  refine wpAny_pyNext_list_item st p.isList (x:=u) (by simpa using hu) λh' st' sb=>?_
  have I1:Inv X pins σ H { s with heap:=h' }:=I.turned (t':=s.toks) (λb o hb e=>(sb.2 b hb).trans e) f0 f1 f3 f4 f5
  obtain ⟨o,e,c,d⟩:=id st'
  exact ⟨u,rfl,zkr (s:={ s with heap:=h' }) e c d (by decide) ⟨x,H,I1,ru,⟨rfl,λys hy=>by rw [I.list_inj hy hq];exact hx⟩,st',λb hb=>(hf b hb).1⟩⟩
 done:=by
  intro X hP hw hK hc i pins s σ H E I hf st hg
  subst hP hw hK
  obtain ⟨xs,hq,hx⟩:=hg
  obtain ⟨its,rv,p,hz⟩:=I.list hq
  obtain ⟨f0,f1,f2,f3,f4,f5⟩:=hf it (by simp)
  have hl:=rv.length
  exact wpAny_pyNext_list_end (I.ok.hd hc) st p.isList (by simp;omega) λh' eb=>⟨rfl,I.turned (t':=s.toks) (λb o hb e=>eb b o hb e) f0 f1 f3 f4 f5⟩
 self:=λ_ _ _ _ _ st h=>wpAny_pyIter_listiter st h
theorem zxf {P:Program}{w:World}{K:QFg}{tg:Expr}(a it:Addr):Turn P w K tg (Itt K a) [it] it (λi h=>h.IsTupleIter it a i) where
 mem:=by simp
 obj:=λi h st b hb=>by
  have e:b=it:=by simpa using hb
  subst e
  obtain ⟨o,e,c,d⟩:=st
  exact ⟨o,e,λv z=>by rw [d] at z;cases z⟩
 keep:=λi h h' st k=>st.at λo e=>k it (by simp) o e
 item:=by
  intro X hP hw hK hc i pins s σ H E I hf st hg
  subst hP hw hK
  obtain ⟨xs,x,hq,hx⟩:=hg
  obtain ⟨its,rv,p,hz⟩:=I.tuple hq
  obtain ⟨u,hu,ru⟩:=rv.get hx
  obtain ⟨f0,f1,f2,f3,f4,f5⟩:=hf it (by simp)
  refine wpAny_pyNext_tuple_item st (show s.heap.IsTuple a its.toArray from p) (x:=u) (by simpa using hu) λh' st' sb=>?_
  have I1:Inv X pins σ H { s with heap:=h' }:=I.turned (t':=s.toks) (λb o hb e=>(sb.2 b hb).trans e) f0 f1 f3 f4 f5
  obtain ⟨o,e,c,d⟩:=id st'
  exact ⟨u,rfl,zkr (s:={ s with heap:=h' }) e c d (by decide) ⟨x,H,I1,ru,⟨rfl,λys hy=>by rw [I.tuple_inj hy hq];exact hx⟩,st',λb hb=>(hf b hb).1⟩⟩
 done:=by
  intro X hP hw hK hc i pins s σ H E I hf st hg
  subst hP hw hK
  obtain ⟨xs,hq,hx⟩:=hg
  obtain ⟨its,rv,p,hz⟩:=I.tuple hq
  obtain ⟨f0,f1,f2,f3,f4,f5⟩:=hf it (by simp)
  have hl:=rv.length
  exact wpAny_pyNext_tuple_end (I.ok.hd hc) st (show s.heap.IsTuple a its.toArray from p) (by simp;omega) λh' eb=>⟨rfl,I.turned (t':=s.toks) (λb o hb e=>eb b o hb e) f0 f1 f3 f4 f5⟩
 self:=λ_ _ _ _ _ st h=>wpAny_pyIter_tupleiter st h
theorem zxg {P:Program}{w:World}{K:QFg}{tg:Expr}(it:Addr) (lo:Int) (n:Nat):Turn P w K tg (Itr lo n) [it] it (λi h=>IsRangeIter h it (lo+(i:Nat)*1) ((n:Int)-(i:Nat)) 1) where
 mem:=by simp
 obj:=λi h st b hb=>by
  have e:b=it:=by simpa using hb
  subst e
  exact ⟨_,st,λv z=>by
   have z':Data.fields _=Data.cell v:=z
   cases z'⟩
 keep:=λi h h' st k=>k it (by simp) _ st
 item:=by
  intro X hP hw hK hc i pins s σ H E I hf st hg
  subst hP hw hK
  obtain ⟨f0,f1,f2,f3,f4,f5⟩:=hf it (by simp)
  have W:=Walks.range (prog:=X.prog) (w:=X.w) (I.ok.hd hc) it lo 1 n
  refine W.item i s _ _ hg st λv h' tk hv st' kk=>?_
  obtain ⟨t,rfl⟩:=hv
  have I1:Inv X pins σ H { s with heap:=h',toks:=tk }:=I.turned (λb o hb e=>kk b o (by simpa using hb) e) f0 f1 f3 f4 f5
  refine ⟨_,rfl,zkr (s:={ s with heap:=h',toks:=tk }) (n:="range_iterator") st' rfl rfl (by decide) ⟨.int (lo+i),H,I1,⟨t,?_⟩,⟨rfl,rfl⟩,st',λb hb=>(hf b hb).1⟩⟩
  rw [Int.mul_one]
 done:=by
  intro X hP hw hK hc i pins s σ H E I hf st hg
  subst hP hw hK
  obtain ⟨f0,f1,f2,f3,f4,f5⟩:=hf it (by simp)
  exact wpAny_pyNext_range_end (I.ok.hd hc) st (by have:n<=i:=hg;omega) λh' eb=>⟨rfl,I.turned (t':=s.toks) (λb o hb e=>eb b o hb e) f0 f1 f3 f4 f5⟩
 self:=λ_ _ _ _ _ st h=>wpAny_pyIter_rangeiter st h
section
variable {X:Cx}{tg:Expr}
def zxh (K:QFg) (tl:TE):TI:=λσ H R=>tl σ H λx H1=>∃a,x=.ref a/\(∃xs,SqL K H1 a xs)/\R (Itl K a) H1
def zxi (K:QFg) (tl:TE):TI:=λσ H R=>tl σ H λx H1=>∃a,x=.ref a/\(∃xs,SqT K H1 a xs)/\R (Itt K a) H1
theorem zo5 {l:Expr}{tl:TE}(hl:PE X l tl):PI X tg l (zxh X.K tl):=by
 intro pins s σ H R I h
 refine thn (hl pins s σ H _ I h) λv s1 ⟨x,H1,I1,r1,q1⟩=>?_
 obtain ⟨a,e,⟨xs,hq⟩,q⟩:=q1
 subst e
 cases r1
 obtain ⟨its,rv,p,hz⟩:=I1.list hq
 refine wpAny_pyIter_list p.isList ?_
 refine ⟨s1.heap.objs.size,[s1.heap.objs.size],_,_,H1,rfl,I1.kept (t':=s1.toks) λb o e=>qps _ e,zxe a _,⟨_,Heap.get?_push_size _ rfl,rfl,rfl⟩,λb hb=>?_,q⟩
 have e:b=s1.heap.objs.size:=by simpa using hb
 subst e
 exact I1.fpOk (qlr _) (I1.hok.fresh (qlr _))
theorem zo6 {l:Expr}{tl:TE}(hl:PE X l tl):PI X tg l (zxi X.K tl):=by
 intro pins s σ H R I h
 refine thn (hl pins s σ H _ I h) λv s1 ⟨x,H1,I1,r1,q1⟩=>?_
 obtain ⟨a,e,⟨xs,hq⟩,q⟩:=q1
 subst e
 cases r1
 obtain ⟨its,rv,p,hz⟩:=I1.tuple hq
 refine wpAny_pyIter_tuple (show s1.heap.IsTuple a its.toArray from p) ?_
 refine ⟨s1.heap.objs.size,[s1.heap.objs.size],_,_,H1,rfl,I1.kept (t':=s1.toks) λb o e=>qps _ e,zxf a _,⟨_,Heap.get?_push_size _ rfl,rfl,rfl⟩,λb hb=>?_,q⟩
 have e:b=s1.heap.objs.size:=by simpa using hb
 subst e
 exact I1.fpOk (qlr _) (I1.hok.fresh (qlr _))
theorem zxj {pins:List (Addr × Obj)}{σ:St}{H:Hp}{s:Shared}{R:It->Hp->Prop}{E:Value->Shared->Prop}{lo hi:Int}{t u v:Tok}{tk:Nat}(I:Inv X pins σ H s) (h1:-(2 ^ 62)<=lo) (h2:lo<2 ^ 62) (h3:-(2 ^ 62)<=hi) (h4:hi<2 ^ 62)
  (q:R (Itr lo (hi-lo).toNat) H):wpAny (model X.prog X.w) X.A (pyIter (.ref s.heap.objs.size)) (PIE X pins σ tg R) E { s with heap:=s.heap.push { cls:=.type "range",data:=.fields #[.int lo t,.int hi u,.int 1 v] },toks:=tk }:=by
 refine wpAny_pyIter_range (IsRange.new ..) (small_one h1 h2 h3 h4) ?_
 have I1:Inv X pins σ H { s with heap:=s.heap.push { cls:=.type "range",data:=.fields #[.int lo t,.int hi u,.int 1 v] },toks:=tk }:=I.kept λb o e=>qps _ e
 refine ⟨(s.heap.push { cls:=.type "range",data:=.fields #[.int lo t,.int hi u,.int 1 v] }).objs.size,[(s.heap.push { cls:=.type "range",data:=.fields #[.int lo t,.int hi u,.int 1 v] }).objs.size],_,_,H,rfl,
  I1.kept (t':=tk) λb o e=>qps _ e,zxg _ lo (hi-lo).toNat,?_,λb hb=>?_,q⟩
 ·have e1:lo+((0:Nat):Int)*1=lo:=by simp
  have e2:(((hi-lo).toNat:Nat):Int)-((0:Nat):Int)=Builtin.Range.rangeSize lo hi 1:=by rw [rangeSize_one];split <;> omega
  show IsRangeIter _ _ (lo+((0:Nat):Int)*1) ((((hi-lo).toNat:Nat):Int)-((0:Nat):Int)) 1
  rw [e1,e2]
  exact Heap.get?_push_size _ rfl
 ·have e:b=(s.heap.push { cls:=.type "range",data:=.fields #[.int lo t,.int hi u,.int 1 v] }).objs.size:=by simpa using hb
  subst e
  exact I1.fpOk (qlr _) (I1.hok.fresh (qlr _))
def zxk (ta:TA):TI:=λσ H R=>ta σ H λvs H1=>∃j:Int,vs=[.int j]/\-(2 ^ 62)<=j/\j<2 ^ 62/\R (Itr 0 j.toNat) H1
theorem zo7 {a:Expr}{ta:TA}{p pos:Pos}(hg:Gl X "range") (hm:X.mg "range" = none) (ha:PA X [a] ta) (hs:starEach [a] X.env=[(false,eval a X.env)]:=by rfl):PI X tg (.Call (.Name "range" p) [a] [] pos) (zxk ta):=by
 intro pins s σ H R I h
 refine Call_ (zkq I hg hm boot_range (PyProof.Rows.callWith_type1 (thn (ha pos pins s σ H _ I h) λus s1 ⟨vs,H1,I1,r1,q1⟩=>?_) hs rfl))
 obtain ⟨j,e,q1,q2,q⟩:=q1
 subst e
 cases r1 with
 | cons r rr =>
  cases rr
  obtain ⟨t,rfl⟩:=r
  exact call_range_1 (zxj I1 (by omega) (by omega) q1 q2 (by simpa using q))
def zxl (wi:TI) (g:TG) (tb:TS):TS:=λD σ H=>wi σ H λJ H1=>∃W:Nat->Nat->St->Hp->Prop,(∃m,W 0 m σ H1)/\∀i m σ H,W i m σ H ->
 (J.stop i H/\D.nx σ H)\/(J.go i H/\∃N:St->Hp->Prop,(∀σ' H',N σ' H'->∃m',m' < m/\W (i+1) m' σ' H')/\∀x H',J.yld i H x H'->g x σ H' λσ2 H2=>tb { D with nx:=N,ct:=N,bk:=D.nx } σ2 H2)
noncomputable def zjf (fp:List Addr) (h:Heap):List (Addr × Obj):=fp.filterMap λb=>(h.get? b).map λo=>(b,o)
theorem zks {fp:List Addr}{h:Heap}{b:Addr}{o:Obj}(hb:b∈fp) (e:h.get? b=some o):(b,o)∈zjf fp h:=List.mem_filterMap.mpr ⟨b,hb,by rw [e];rfl⟩
theorem zxm {fp:List Addr}{h:Heap}{p:Addr × Obj}(hp:p∈zjf fp h):p.1∈fp/\h.get? p.1=some p.2:=by
 obtain ⟨b,hb,e⟩:=List.mem_filterMap.mp hp
 cases q:h.get? b with
 | none=>rw [q] at e;cases e
 | some o =>
  rw [q] at e
  have e':(b,o)=p:=qoi e
  subst e'
  exact ⟨hb,q⟩
theorem Inv.pinned {pins:List (Addr × Obj)}{σ:St}{H:Hp}{s:Shared}{fp:List Addr}(I:Inv X pins σ H s) (hf:∀b∈fp,zfl X pins H b) (ho:∀b∈fp,∃o,s.heap.get? b=some o/\∀v,o.data≠.cell v):Inv X (pins++zjf fp s.heap) σ H s :=
 I.pins_of λp hp=>(List.mem_append.mp hp).elim (λz=>I.pin p (List.mem_append_right _ z)) λz=>by
  obtain ⟨hb,e⟩:=zxm z
  obtain ⟨f0,f1,f2,_⟩:=hf p.1 hb
  obtain ⟨o,e',d⟩:=ho p.1 hb
  rw [e] at e';cases e'
  exact ⟨e,f0,f1,f2,d⟩
theorem Inv.unpinned {pins pl:List (Addr × Obj)}{σ:St}{H:Hp}{s:Shared}(I:Inv X (pins++pl) σ H s):Inv X pins σ H s:=I.pins_of λp hp=>I.pin p (List.mem_append_right _ (List.mem_append_left _ hp))
theorem zmh {iter:Expr}{body:List Stmt}{wi:TI}{g:TG}{tb:TS}{pos:Pos}(hp:PassesOwn (model X.prog X.w) X.A X.env X.xe) (hc:X.calm=true) (hi:PI X tg iter wi) (hg:PG X tg g) (hb:PSs X body tb)
  (hs:∀x,foldedSetIterable iter X.env x=pure x:=by intro _;rfl):PS X (.For tg iter body [] pos) (zxl wi g tb):=by
 intro pins s σ H D I h
 refine wpAny_For (thn (hi pins s σ H _ I h) λv s1 h1=>thn h1 λitv s2 h2=>?_) hs
 obtain ⟨it,fp,tn,J,H2,e,I2,T,st2,f2,W,⟨m0,w0⟩,turn⟩:=h2
 subst e
 have stat:∀{H':Hp},(∀b∈fp,H' b=none)->∀b∈fp,zfl X pins H' b:=λhn b hb=>⟨hn b hb,(f2 b hb).2⟩
 refine codeAny_forLoop_any (λn s'=>∃i σ' H',Inv X pins σ' H' s'/\tn i s'.heap/\(∀b∈fp,H' b=none)/\W i n σ' H') ?_ m0 ⟨0,σ,H2,I2,st2,λb hb=>(f2 b hb).1,w0⟩
 rintro n s3 ⟨i,σ3,H3,I3,st3,fr3,w3⟩
 rcases turn i n σ3 H3 w3 with ⟨stop,qn⟩|⟨go,N,hN,step⟩
 ·refine wpAny_passesOwn hp (thn (T.done X rfl rfl rfl hc i pins s3 σ3 H3 X.xe I3 (stat fr3) st3 stop) λr s4 ⟨hr,I4⟩=>?_)
  subst hr
  exact wpAny_execs_nil ⟨σ3,H3,I4,qn⟩
 ·refine wpAny_passesOwn hp (thn (T.item X rfl rfl rfl hc i pins s3 σ3 H3 X.xe I3 (stat fr3) st3 go) λr s4 ⟨u,hr,h4⟩=>?_)
  subst hr
  refine wpAny_passesOwn hp (thn h4 λ_ s5 ⟨x,H5,I5,r5,y5,st5,fr5⟩=>?_)
  have I5':=I5.pinned (stat fr5) (T.obj _ _ st5)
  refine wpAny_passesOwn hp (thn (hg _ s5 σ3 H5 x u _ I5' r5 (step x H5 y5)) λ_ s6 ⟨σ6,H6,I6,q6⟩=>?_)
  refine wpAny_passesOwn hp (thn (hb _ s6 σ6 H6 _ I6 q6) λf s7 q7=>?_)
  have again:∀{σ7:St} {H7:Hp},Inv X (pins++zjf fp s5.heap) σ7 H7 s7->N σ7 H7->∃m,m<n/\∃i σ' H',Inv X pins σ' H' s7/\tn i s7.heap/\(∀b∈fp,H' b=none)/\W i m σ' H':=λ{σ7 H7} I7 n7=>by
   obtain ⟨m',hm,w7⟩:=hN σ7 H7 n7
   refine ⟨m',hm,i+1,σ7,H7,I7.unpinned,T.keep _ _ _ st5 λb hb o e=>(I7.pin (b,o) (List.mem_append_right _ (List.mem_append_right _ (zks hb e)))).1,λb hb=>?_,w7⟩
   obtain ⟨o,e,d⟩:=T.obj _ _ st5 b hb
   exact (I7.pin (b,o) (List.mem_append_right _ (List.mem_append_right _ (zks hb e)))).2.1
  cases f with
  | next=>obtain ⟨σ7,H7,I7,n7⟩:=q7;exact again I7 n7
  | cont=>obtain ⟨σ7,H7,I7,n7⟩:=q7;exact again I7 n7
  | brk=>obtain ⟨σ7,H7,I7,q7⟩:=q7;exact ⟨σ7,H7,I7.unpinned,q7⟩
  | ret v=>obtain ⟨x7,σ7,H7,I7,r7,q7⟩:=q7;exact ⟨x7,σ7,H7,I7.unpinned,r7,q7⟩
end
abbrev R2:=V->V->Hp->VK->Prop
def OpR (X:Cx) (f:Value->Value->Sem Value) (r:R2):Prop :=
 ∀(pins:List (Addr × Obj)) (s:Shared) (σ:St) (H:Hp) (x y:V) (v u:Value) (Q:VK),Inv X pins σ H s->RelV x v->RelV y u->r x y H Q ->
  wpAny (model X.prog X.w) X.A (f v u) (EP X pins σ Q) X.xe s
def CallR (X:Cx) (f:Value) (r:List V->Hp->VK->Prop):Prop :=
 ∀(pins:List (Addr × Obj)) (s:Shared) (σ:St) (H:Hp) (xs:List V) (us:List Value) (Q:VK),Inv X pins σ H s->Vals xs us->r xs H Q ->
  wpAny (model X.prog X.w) X.A (call f us) (EP X pins σ Q) X.xe s
def tOp (r:R2) (ta tb:TE):TE:=λσ H Q=>ta σ H λx H1=>tb σ H1 λy H2=>r x y H2 Q
def rI (C:Int->Int->Prop) (g:Int->Int->V):R2:=λx y H Q=>∃i j,x=.int i/\y=.int j/\C i j/\Q (g i j) H
def rI0 (g:Int->Int->V):R2:=λx y H Q=>∃i j,x=.int i/\y=.int j/\Q (g i j) H
section
variable {X:Cx}{a b c:Expr}{ta tb tc:TE}{pos:Pos}
theorem zmi (ha:PE X a ta) (hb:PE X b tb) {pins:List (Addr × Obj)}{s:Shared}{σ:St}{H:Hp}{R:V->V->Hp->Prop}(I:Inv X pins σ H s)
  (h:ta σ H λx H1=>tb σ H1 λy H2=>R x y H2) {Q:Value->Shared->Prop} {f:Value->Value->Sem Value}
  (hf:∀v u s2 x y H2,Inv X pins σ H2 s2->RelV x v->RelV y u->R x y H2->wpAny (model X.prog X.w) X.A (f v u) Q X.xe s2) :
  wpAny (model X.prog X.w) X.A (eval a X.env) (λv s₁=>wpAny (model X.prog X.w) X.A (eval b X.env) (λu s₂=>wpAny (model X.prog X.w) X.A (f v u) Q X.xe s₂) X.xe s₁) X.xe s:=by
 refine thn (ha pins s σ H _ I h) λv s1 ⟨x,H1,I1,r1,q1⟩=>?_
 refine thn (hb pins s1 σ H1 _ I1 q1) λu s2 ⟨y,H2,I2,r2,q2⟩=>?_
 exact hf v u s2 x y H2 I2 r1 r2 q2
theorem zxn {op:Operator}{r:R2}(ho:OpR X (binaryOp op) r) (ha:PE X a ta) (hb:PE X b tb):PE X (.BinOp a op b pos) (tOp r ta tb):=by
 intro pins s σ H Q I h
 exact wpAny_BinOp (zmi ha hb I h λv u s2 x y H2 I2 rx ry q=>ho pins s2 σ H2 x y v u Q I2 rx ry q)
theorem opI {f:Value->Value->Sem Value}{C:Int->Int->Prop}{g:Int->Int->Int}
  (rule:∀(i j:Int) (t u:Tok) (s:Shared) (Q:Value->Shared->Prop) (E:Value->Shared->Prop),C i j->Q (.int (g i j) s.toks) { s with toks:=s.toks+1 }->wpAny (model X.prog X.w) X.A (f (.int i t) (.int j u)) Q E s) :
  OpR X f (rI C λi j=>.int (g i j)):=by
 intro pins s σ H x y v u Q I rx ry h
 obtain ⟨i,j,rfl,rfl,hc,q⟩:=h
 obtain ⟨t,rfl⟩:=rx
 obtain ⟨t',rfl⟩:=ry
 exact rule i j t t' s _ _ hc ⟨.int (g i j),H,I.tok _,⟨_,rfl⟩,q⟩
theorem zo8 {f:Value->Value->Sem Value}{g:Int->Int->Int}
  (rule:∀(i j:Int) (t u:Tok) (s:Shared) (Q:Value->Shared->Prop) (E:Value->Shared->Prop),Q (.int (g i j) s.toks) { s with toks:=s.toks+1 }->wpAny (model X.prog X.w) X.A (f (.int i t) (.int j u)) Q E s) :
  OpR X f (rI0 λi j=>.int (g i j)):=by
 intro pins s σ H x y v u Q I rx ry h
 obtain ⟨i,j,rfl,rfl,q⟩:=h
 obtain ⟨t,rfl⟩:=rx
 obtain ⟨t',rfl⟩:=ry
 exact rule i j t t' s _ _ ⟨.int (g i j),H,I.tok _,⟨_,rfl⟩,q⟩
theorem zkt {f:Value->Value->Sem Value}{g:Int->Int->Bool}
  (rule:∀(i j:Int) (t u:Tok) (s:Shared) (Q:Value->Shared->Prop) (E:Value->Shared->Prop),Q (.bool (g i j)) s->wpAny (model X.prog X.w) X.A (f (.int i t) (.int j u)) Q E s) :
  OpR X f (rI0 λi j=>.bl (g i j)):=by
 intro pins s σ H x y v u Q I rx ry h
 obtain ⟨i,j,rfl,rfl,q⟩:=h
 obtain ⟨t,rfl⟩:=rx
 obtain ⟨t',rfl⟩:=ry
 exact rule i j t t' s _ _ ⟨.bl (g i j),H,I,rfl,q⟩
def zku (i j:Int):Prop:=0<j/\j<1073741824
def zkv (i j:Int):Prop:=0<=j/\j<=1000000/\i.natAbs<2 ^ 64
def CMul (i j:Int):Prop:=(-(2 ^ 64)<i/\i<2 ^ 64)\/(-(2 ^ 64)<j/\j<2 ^ 64)
theorem CMul.ok {i j:Int}(h:CMul i j):IntMulOk i j:=by
 rcases h with ⟨h1,h2⟩|⟨h1,h2⟩
 ·exact .of_left (intBits_le_64 h1 h2)
 ·exact .of_right (intBits_le_64 h1 h2)
theorem op_add:OpR X (binaryOp .Add) (rI0 λi j=>.int (i+j)):=zo8 λ_ _ _ _ _ _ _ q=>add_int q
theorem zxo:OpR X (binaryOp .Sub) (rI0 λi j=>.int (i-j)):=zo8 λ_ _ _ _ _ _ _ q=>sub_int q
theorem op_mul:OpR X (binaryOp .Mult) (rI CMul λi j=>.int (i*j)):=opI λ_ _ _ _ _ _ _ hc q=>mul_int q hc.ok
theorem zxp:OpR X (binaryOp .FloorDiv) (rI zku λi j=>.int (i / j)):=opI λi j _ _ _ _ _ hc q=>by
 have h1:(0:Int)<j:=hc.1
 have h2:j<1073741824:=hc.2
 exact floordiv_int (by omega) (by rw [Int.fdiv_eq_ediv_of_nonneg i (by omega)];exact q) (.inl (PyProof.noPylong_small (by omega)))
theorem zxq:OpR X (binaryOp .Mod) (rI (λ_ j=>0<j) λi j=>.int (i % j)):=opI λi j _ _ _ _ _ hc q=>by
 have h1:(0:Int)<j:=hc
 exact mod_int' (by omega) (by rw [Int.fmod_eq_emod_of_nonneg i (by omega)];exact q)
theorem zxr:OpR X (binaryOp .Pow) (rI zkv λi j=>.int (i ^ j.toNat)):=opI λ_ _ _ _ _ _ _ hc q=>pow_int_small hc.1 hc.2.1 hc.2.2 q
end
noncomputable def zmj:V->V->Bool
 | .non,.non=>true | .non,.int _=>true | .int _,.non=>true | .non,.bl _=>true | .bl _,.non=>true | .non,.str _=>true | .str _,.non=>true
 | .int _,.int _=>true | .bl _,.bl _=>true | .str _,.str _=>true | .byt _,.byt _=>true
 | .int _,.str _=>true | .str _,.int _=>true | .bl _,.str _=>true | .str _,.bl _=>true
 | _,_=>false
def rEq:R2:=λx y H Q=>zmj x y=true/\Q (.bl (decide (x=y))) H
def rNe:R2:=λx y H Q=>zmj x y=true/\Q (.bl (!decide (x=y))) H
theorem zo9 {i j:Int}:decide (V.int i=V.int j)=(i == j):=by
 rw [Bool.eq_iff_iff]
 simp
theorem zpa {i j:Bool}:decide (V.bl i=V.bl j)=(i == j):=by
 rw [Bool.eq_iff_iff]
 simp
theorem zpb {i j:Str}:decide (V.str i=V.str j)=(i == j):=by
 rw [Bool.eq_iff_iff]
 simp
theorem zpc {i j:Array UInt8}:decide (V.byt i=V.byt j)=(i.toList == j.toList):=by
 rw [Bool.eq_iff_iff]
 cases i
 cases j
 simp
section
variable {X:Cx}{a b c:Expr}{ta tb tc:TE}{pos:Pos}
theorem zbz {pins:List (Addr × Obj)}{σ:St}{H:Hp}{s:Shared}{Q:VK}{k k':Bool}(I:Inv X pins σ H s) (q:Q (.bl k) H) (e:k=k'):EP X pins σ Q (.bool k') s:=by
 subst e
 exact ⟨.bl k,H,I,rfl,q⟩
theorem zpd:OpR X (compareOp .Eq) rEq:=by
 intro pins s σ H x y v u Q I rx ry h
 obtain ⟨hs,q⟩:=h
 cases x with
 | non =>
  cases rx
  cases y with
  | non=>cases ry;exact PySem.EqNone.eq_none_none (zbz I q (by simp))
  | bl j=>cases ry;exact PySem.EqNone.eq_none_bool (zbz I q (by simp))
  | int j=>obtain ⟨t',rfl⟩:=ry;exact PySem.EqNone.eq_none_int (zbz I q (by simp))
  | str j=>obtain ⟨t',rfl⟩:=ry;exact PySem.EqNone.eq_none_str (zbz I q (by simp))
  | _=>exact absurd (show false=true from hs) Bool.false_ne_true
 | bl i =>
  cases rx
  cases y with
  | non=>cases ry;exact PySem.EqNone.eq_bool_none (zbz I q (by simp))
  | bl j=>cases ry;exact eq_bool (zbz I q zpa)
  | str j=>obtain ⟨t',rfl⟩:=ry;exact PySem.EqMixed.eq_bool_str (zbz I q (by simp))
  | _=>exact absurd (show false=true from hs) Bool.false_ne_true
 | int i =>
  obtain ⟨t,rfl⟩:=rx
  cases y with
  | non=>cases ry;exact PySem.EqNone.eq_int_none (zbz I q (by simp))
  | int j=>obtain ⟨t',rfl⟩:=ry;exact eq_int (zbz I q zo9)
  | str j=>obtain ⟨t',rfl⟩:=ry;exact PySem.EqMixed.eq_int_str (zbz I q (by simp))
  | _=>exact absurd (show false=true from hs) Bool.false_ne_true
 | str i =>
  obtain ⟨t,rfl⟩:=rx
  cases y with
  | non=>cases ry;exact PySem.EqNone.eq_str_none (zbz I q (by simp))
  | bl j=>cases ry;exact PySem.EqMixed.eq_str_bool (zbz I q (by simp))
  | int j=>obtain ⟨t',rfl⟩:=ry;exact PySem.EqMixed.eq_str_int (zbz I q (by simp))
  | str j=>obtain ⟨t',rfl⟩:=ry;exact eq_str (zbz I q zpb)
  | _=>exact absurd (show false=true from hs) Bool.false_ne_true
 | byt i =>
  obtain ⟨t,rfl⟩:=rx
  cases y with
  | byt j=>obtain ⟨t',rfl⟩:=ry;exact PySem.W.eq_bytes (zbz I q zpc)
  | _=>exact absurd (show false=true from hs) Bool.false_ne_true
 | _=>cases y <;> exact absurd (show false=true from hs) Bool.false_ne_true
theorem zxs:OpR X (compareOp .NotEq) rNe:=by
 intro pins s σ H x y v u Q I rx ry h
 obtain ⟨hs,q⟩:=h
 cases x with
 | non =>
  cases rx
  cases y with
  | non=>cases ry;exact PySem.EqNone.ne_none_none (zbz I q (by simp))
  | bl j=>cases ry;exact PySem.EqNone.ne_none_bool (zbz I q (by simp))
  | int j=>obtain ⟨t',rfl⟩:=ry;exact PySem.EqNone.ne_none_int (zbz I q (by simp))
  | str j=>obtain ⟨t',rfl⟩:=ry;exact PySem.EqNone.ne_none_str (zbz I q (by simp))
  | _=>exact absurd (show false=true from hs) Bool.false_ne_true
 | bl i =>
  cases rx
  cases y with
  | non=>cases ry;exact PySem.EqNone.ne_bool_none (zbz I q (by simp))
  | bl j=>cases ry;exact ne_bool (zbz I q (congrArg not zpa))
  | str j=>obtain ⟨t',rfl⟩:=ry;exact PySem.EqMixed.ne_bool_str (zbz I q (by simp))
  | _=>exact absurd (show false=true from hs) Bool.false_ne_true
 | int i =>
  obtain ⟨t,rfl⟩:=rx
  cases y with
  | non=>cases ry;exact PySem.EqNone.ne_int_none (zbz I q (by simp))
  | int j=>obtain ⟨t',rfl⟩:=ry;exact ne_int (zbz I q (congrArg not zo9))
  | str j=>obtain ⟨t',rfl⟩:=ry;exact PySem.EqMixed.ne_int_str (zbz I q (by simp))
  | _=>exact absurd (show false=true from hs) Bool.false_ne_true
 | str i =>
  obtain ⟨t,rfl⟩:=rx
  cases y with
  | non=>cases ry;exact PySem.EqNone.ne_str_none (zbz I q (by simp))
  | bl j=>cases ry;exact PySem.EqMixed.ne_str_bool (zbz I q (by simp))
  | int j=>obtain ⟨t',rfl⟩:=ry;exact PySem.EqMixed.ne_str_int (zbz I q (by simp))
  | str j=>obtain ⟨t',rfl⟩:=ry;exact ne_str (zbz I q (congrArg not zpb))
  | _=>exact absurd (show false=true from hs) Bool.false_ne_true
 | byt i =>
  obtain ⟨t,rfl⟩:=rx
  cases y with
  | byt j=>obtain ⟨t',rfl⟩:=ry;exact PySem.W.ne_bytes (zbz I q (congrArg not zpc))
  | _=>exact absurd (show false=true from hs) Bool.false_ne_true
 | _=>cases y <;> exact absurd (show false=true from hs) Bool.false_ne_true
theorem zxt:OpR X (compareOp .Lt) (rI0 λi j=>.bl (decide (i<j))):=zkt λ_ _ _ _ _ _ _ q=>lt_int q
theorem ziq:OpR X (compareOp .LtE) (rI0 λi j=>.bl (decide (i<=j))):=zkt λ_ _ _ _ _ _ _ q=>le_int q
theorem zxu:OpR X (compareOp .Gt) (rI0 λi j=>.bl (decide (j<i))):=zkt λ_ _ _ _ _ _ _ q=>gt_int q
theorem zxv:OpR X (compareOp .GtE) (rI0 λi j=>.bl (decide (j<=i))):=zkt λ_ _ _ _ _ _ _ q=>ge_int q
theorem zxw:OpR X (compareOp .In) (λx y H Q=>∃i j,x=.str i/\y=.str j/\Q (.bl (!(Builtin.Str.occurrences j i 0 j.length 1).isEmpty)) H):=by
 intro pins s σ H x y v u Q I rx ry h
 obtain ⟨i,j,rfl,rfl,q⟩:=h
 obtain ⟨t,rfl⟩:=rx
 obtain ⟨t',rfl⟩:=ry
 exact in_str (zbz I q rfl)
theorem zxx:OpR X (compareOp .Is) (λx y H Q=>y=.non/\Q (.bl (decide (x=.non))) H):=by
 intro pins s σ H x y v u Q I rx ry h
 obtain ⟨rfl,q⟩:=h
 cases ry
 refine is_none_gen (zbz I q ?_)
 cases x <;> first
  | (cases rx;rfl)
  | (obtain ⟨t,rfl⟩:=rx;rfl)
theorem zxy:OpR X (compareOp .IsNot) (λx y H Q=>y=.non/\Q (.bl (!decide (x=.non))) H):=by
 intro pins s σ H x y v u Q I rx ry h
 obtain ⟨rfl,q⟩:=h
 cases ry
 refine isnot_none_gen (zbz I q ?_)
 cases x <;> first
  | (cases rx;rfl)
  | (obtain ⟨t,rfl⟩:=rx;rfl)
theorem zxz:OpR X (compareOp .NotIn) (λx y H Q=>∃i j,x=.str i/\y=.str j/\Q (.bl (!(!(Builtin.Str.occurrences j i 0 j.length 1).isEmpty))) H):=by
 intro pins s σ H x y v u Q I rx ry h
 obtain ⟨i,j,rfl,rfl,q⟩:=h
 obtain ⟨t,rfl⟩:=rx
 obtain ⟨t',rfl⟩:=ry
 exact notIn_str (zbz I q rfl)
theorem OpR.or {f:Value->Value->Sem Value}{r r':R2}(h:OpR X f r) (h':OpR X f r'):OpR X f (λx y H Q=>r x y H Q\/r' x y H Q):=by
 intro pins s σ H x y v u Q I rx ry q
 rcases q with q|q
 ·exact h pins s σ H x y v u Q I rx ry q
 ·exact h' pins s σ H x y v u Q I rx ry q
theorem ze2 (b:Expr) {op:CmpOp}(h:op≠.In:=by decide) (h2:op≠.NotIn:=by decide):behindInMarks op b=false:=by
 have e1:(op == CmpOp.In)=false:=by cases op <;> first|rfl|exact absurd rfl h
 have e2:(op == CmpOp.NotIn)=false:=by cases op <;> first|rfl|exact absurd rfl h2
 cases b <;> simp [behindInMarks,e1,e2]
theorem zx0 {op:CmpOp}{r:R2}(ho:OpR X (compareOp op) r) (ha:PE X a ta) (hb:PE X b tb) (hm:behindInMarks op b=false):PE X (.Compare a [op] [b] pos) (tOp r ta tb):=by
 intro pins s σ H Q I h
 exact wpAny_Compare1 (zmi ha hb I h λv u s2 x y H2 I2 rx ry q=>ho pins s2 σ H2 x y v u Q I2 rx ry q) hm
def zpe (t:TE):TT:=λσ H Q=>t σ H λx H'=>∃k,x=.bl k/\Q k H'
theorem zx1 {op:CmpOp}{r:R2}(ho:OpR X (compareOp op) r) (ha:PE X a ta) (hb:PE X b tb) (hm:behindInMarks op b=false):PT X (.Compare a [op] [b] pos) (zpe (tOp r ta tb)):=by
 intro pins s σ H Q I h
 refine wpAny_isTrue_Compare1 (thn (ha pins s σ H _ I h) λv s1 ⟨x,H1,I1,r1,q1⟩=>thn (hb pins s1 σ H1 _ I1 q1) λu s2 ⟨y,H2,I2,r2,q2⟩ =>
  thn (ho pins s2 σ H2 x y v u _ I2 r1 r2 q2) λc s3 ⟨z,H3,I3,r3,k,e,q3⟩=>?_) hm
 subst e
 cases r3
 exact wpAny_truthy_bool ⟨H3,I3,q3⟩
def zpf (r r':R2) (ta tb tc:TE):TE:=λσ H Q=>ta σ H λx H1=>tb σ H1 λy H2=>r x y H2 λz H3=>∃k,z=.bl k /\
 (if k=true then tc σ H3 λw' H4=>r' y w' H4 Q else Q (.bl false) H3)
theorem zx2 {op op':CmpOp}{r r':R2}(ho:OpR X (compareOp op) r) (ho':OpR X (compareOp op') r') (ha:PE X a ta) (hb:PE X b tb) (hc:PE X c tc)
  (hm:lastMarks [op,op'] [b,c]=false:=by with_unfolding_all rfl):PT X (.Compare a [op,op'] [b,c] pos) (zpe (zpf r r' ta tb tc)):=by
 intro pins s σ H Q I h
 refine isTrue_chain (thn (ha pins s σ H _ I h) λv s1 ⟨x,H1,I1,r1,q1⟩=>test_link (thn (hb pins s1 σ H1 _ I1 q1) λu s2 ⟨y,H2,I2,r2,q2⟩ =>
  thn (ho pins s2 σ H2 x y v u _ I2 r1 r2 q2) λd s3 ⟨z,H3,I3,r3,k,e,q3⟩=>?_)) hm
 subst e
 cases r3
 refine wpAny_truthy_bool ?_
 cases k with
 | false =>
  obtain ⟨k',e',q'⟩:=q3
  cases e'
  exact ite_ff ⟨H3,I3,q'⟩
 | true =>
  refine ite_tt (test_last (thn (hc pins s3 σ H3 _ I3 q3) λw' s4 ⟨z',H4,I4,r4,q4⟩=>thn (ho' pins s4 σ H4 y z' u w' _ I4 r2 r4 q4) λd' s5 ⟨z2,H5,I5,r5,k2,e2,q5⟩=>?_))
  subst e2
  cases r5
  exact wpAny_truthy_bool ⟨H5,I5,q5⟩
theorem zir:(sizeLine:Nat)<2 ^ 63:=by rw [sizeLine_eq];decide
theorem op_add_str:OpR X (binaryOp .Add) (λx y H Q=>∃i j,x=.str i/\y=.str j/\i.length+j.length<=sizeLine/\Q (.str (i++j)) H):=by
 intro pins s σ H x y v u Q I rx ry h
 obtain ⟨i,j,rfl,rfl,hz,q⟩:=h
 obtain ⟨t,rfl⟩:=rx
 obtain ⟨t',rfl⟩:=ry
 exact add_str (λt' tk=>⟨.str (i++j),H,I.tok _,⟨_,rfl⟩,q⟩) hz
theorem zgk {x:V}{us:List Value}(r:Vals [x] us):∃u,us=[u]/\RelV x u:=by
 cases r with
 | cons r1 r2=>cases r2;exact ⟨_,rfl,r1⟩
theorem zpg {x y:V}{us:List Value}(r:Vals [x,y] us):∃u w',us=[u,w']/\RelV x u/\RelV y w':=by
 cases r with
 | cons r1 r2 =>
  cases r2 with
  | cons r3 r4=>cases r4;exact ⟨_,_,rfl,r1,r3⟩
theorem zx3 (hc:X.calm=true):CallR X (.builtin "max") (λxs H Q=>∃i j,xs=[.int i,.int j]/\Q (.int (if j > i then j else i)) H):=by
 intro pins s σ H xs us Q I r h
 obtain ⟨i,j,rfl,q⟩:=h
 obtain ⟨u,w',rfl,⟨t,rfl⟩,⟨t',rfl⟩⟩:=zpg r
 refine max_two_ints (I.ok.hd hc) λh' tk k=>⟨_,H,I.kept k,?_,q⟩
 by_cases hj:j > i
 ·rw [if_pos hj,if_pos hj];exact ⟨_,rfl⟩
 ·rw [if_neg hj,if_neg hj];exact ⟨_,rfl⟩
theorem zx4 (hc:X.calm=true):CallR X (.builtin "min") (λxs H Q=>∃i j,xs=[.int i,.int j]/\Q (.int (if j<i then j else i)) H):=by
 intro pins s σ H xs us Q I r h
 obtain ⟨i,j,rfl,q⟩:=h
 obtain ⟨u,w',rfl,⟨t,rfl⟩,⟨t',rfl⟩⟩:=zpg r
 refine min_two_ints (I.ok.hd hc) λh' tk k=>⟨_,H,I.kept k,?_,q⟩
 by_cases hj:j<i
 ·rw [if_pos hj,if_pos hj];exact ⟨_,rfl⟩
 ·rw [if_neg hj,if_neg hj];exact ⟨_,rfl⟩
theorem zx5:CallR X (.type "int") (λxs H Q=>(∃i,xs=[.int i]/\Q (.int i) H)\/∃k,xs=[.bl k]/\Q (.int (if k then 1 else 0)) H):=by
 intro pins s σ H xs us Q I r h
 rcases h with ⟨i,rfl,q⟩|⟨k,rfl,q⟩
 ·obtain ⟨u,rfl,t,rfl⟩:=zgk r
  exact call_int_int ⟨.int i,H,I,⟨_,rfl⟩,q⟩
 ·obtain ⟨u,rfl,r1⟩:=zgk r
  cases r1
  exact call_int_bool ⟨.int (if k then 1 else 0),H,I.tok _,⟨_,rfl⟩,q⟩
theorem zph:CallR X (.type "str") (λxs H Q=>∃i,xs=[.int i]/\i.natAbs.log2<1920/\Q (.str (toString i)) H):=by
 intro pins s σ H xs us Q I r h
 obtain ⟨i,rfl,hz,q⟩:=h
 obtain ⟨u,rfl,t,rfl⟩:=zgk r
 exact PySem.P.str_of_int hz ⟨.str _,H,I.tok _,⟨_,rfl⟩,q⟩
end
structure ObjM (h:Heap) (x dx C:Addr) (mA:Str->Option Value):Prop where
 obj:h.get? x=some (PySem.W.instObj C dx)
 ns:h.Ns1 dx mA
 ne:dx≠x
theorem zx6 {h:Heap}{dx:Addr}{mA:Str->Option Value}(n:h.Ns1 dx mA):∃od,h.get? dx=some od/\∀name,PySem.W.lookIn name od=some (mA name):=by
 obtain ⟨o,es,ep,ho,hd,hk,_,hm⟩:=n
 refine ⟨o,ho,λname=>?_⟩
 have e:=hm name
 unfold nsFind findBy at e
 rw [<-Array.find?_toList] at e
 unfold PySem.W.lookIn
 rw [hd]
 dsimp only
 split
 ·rename_i y q
  rw [q] at e
  exact congrArg some e
 ·rename_i q
  rw [q] at e
  have a:es.toList.any (·.refKey)=false:=by
   rw [List.any_eq_false]
   intro y hy
   obtain ⟨z,t,hkey⟩:=hk y (Array.mem_toList_iff.mp hy)
   simp [DictEntry.refKey,hkey]
  have a':¬es.toList.any (·.refKey)=true:=by rw [a];exact Bool.false_ne_true
  rw [if_neg a']
  exact congrArg some e
theorem ObjM.look {h:Heap}{x dx C:Addr}{mA:Str->Option Value}(I:ObjM h x dx C mA):∃od,PySem.W.InstAt h x (PySem.W.instObj C dx) C (some od)/\∀name,PySem.W.lookIn name od=some (mA name) :=
 let ⟨od,ho,hl⟩:=zx6 I.ns
 ⟨od,⟨I.obj,rfl,rfl,ho⟩,hl⟩
section
variable {prog:Program}{w:World}{A:Around}{E:Value->Shared->Prop}{s:Shared}{K:QFg}{x dx C f:Addr}{mA:Str->Option Value}{name:Str}{v:Value}
end
section
variable {P:Program}{w:World}{H H':Hp}{h h':Heap}{a C dx:Addr}{fs fs':List (Str × V)}
theorem zx7 (hok:HOk P w H h) (e:H a=some (.ins C dx fs)):∃mA,ObjM h a dx C mA/\(∀f,zmb (fs.lookup f) (mA f))/\PySem.Within mA (fs.map (·.1))/\fs.length<=1000/\H dx=some (.own a):=by
 obtain ⟨d,z,ne,ob,mA,n,r,q⟩:=(show ObjOk P w H h a (.ins C dx fs) from hok a _ e)
 exact ⟨mA,⟨ob,n,ne⟩,r,q,z,d⟩
end
structure Cls (K:QFg) (C:Addr):Prop where
 pg:PySem.W.plainGet K C Str.empty=true
 hd:PySem.W.hasDictIn K C=true
 po:PySem.W.plainOver K C=true
 sa:PySem.W.findIn K (.ref C) "__setattr__" = some (some (.builtin "object.__setattr__"))
theorem Cls.get {K:QFg}{C:Addr}(c:Cls K C) (f:Str):PySem.W.plainGet K C f=true:=c.pg
section
variable {X:Cx}{pins:List (Addr × Obj)}{σ:St}{H:Hp}{s:Shared}{a C dx:Addr}{fs:List (Str × V)}{f:Str}{v:V}{A:Around}{E:Value->Shared->Prop}
end
section
variable {X:Cx}{o e value:Expr}{f:Str}{pos pos' tpos:Pos}{ta tv:TE}
end
section
variable {X:Cx}{pins:List (Addr × Obj)}{σ:St}{H:Hp}{s:Shared}{A:Around}{E:Value->Shared->Prop}{Q:Value->Shared->Prop}{c:Value}{b:Bool}
inductive TyOf (K:QFg) (H:Hp):V->Value->Prop where
 | non:TyOf K H .non (.type "NoneType")
 | bl (x:Bool):TyOf K H (.bl x) (.type "bool")
 | int (i:Int):TyOf K H (.int i) (.type "int")
 | str (x:Str):TyOf K H (.str x) (.type "str")
 | flt (x:UInt64):TyOf K H (.flt x) (.type "float")
 | lst {a:Addr} {xs:List V} (e:H a=some (.lst xs)):TyOf K H (.ref a) (.type "list")
 | frz {a:Addr} {o:Obj} {xs:List V} (e:H a=some (.frz o (.lst xs))):TyOf K H (.ref a) (.type "list")
 | tup {a:Addr} {xs:List V} (e:H a=some (.tup xs)):TyOf K H (.ref a) (.type "tuple")
 | dK {a:Addr} {kvs:List (Key × V)} (e:H a=some (.dK kvs)):TyOf K H (.ref a) (.type "dict")
 | dT {a:Addr} {kvs:List (List Key × V)} (e:H a=some (.dT kvs)):TyOf K H (.ref a) (.type "dict")
 | ins {a C dx:Addr} {fs:List (Str × V)} (e:H a=some (.ins C dx fs)) (cl:Cls K C) (ha:PySem.W.findIn K (.ref C) "__class__" = some (some (.builtin "object.__class__")))
   (hn:PySem.W.specialIn K (.builtin "object.__class__") "__get__" = some (some (.builtin "getset_descriptor.__get__"))) (htk:PySem.W.takesIn K (.builtin "object.__class__")=some true)
   (hm:PySem.W.mroIn K C (.type "object")=some true):TyOf K H (.ref a) (.ref C)
theorem zx8 {x:V}{u t:Value}(I:Inv X pins σ H s) (rx:RelV x u) (ty:TyOf X.K H x t) (e:PySem.W.kitOne X.K t c=some b) (h:∀tk,Q (.bool b) { s with toks:=tk }) :
  wpAny (model X.prog X.w) A (call (.builtin "isinstance") [u,c]) Q E s:=by
 cases ty with
 | non=>cases (show u=Value.none from rx);exact PySem.W.kia_one PySem.W.kitx_none I.kIn True.intro e (λz=>nomatch z) h
 | bl y=>cases (show u=Value.bool y from rx);exact PySem.W.kia_one PySem.W.kitx_bool I.kIn True.intro e (λz=>nomatch z) h
 | int i=>obtain ⟨t,q⟩:=(show ∃t,u=Value.int i t from rx);cases q;exact PySem.W.kia_one PySem.W.kitx_int I.kIn True.intro e (λz=>nomatch z) h
 | str y=>obtain ⟨t,q⟩:=(show ∃t,u=Value.str y t from rx);cases q;exact PySem.W.kia_one PySem.W.kitx_str I.kIn True.intro e (λz=>nomatch z) h
 | flt y=>obtain ⟨t,q⟩:=(show ∃t,u=Value.float y t from rx);cases q;exact PySem.W.kia_one PySem.W.kitx_float I.kIn True.intro e (λz=>nomatch z) h
 | @lst a xs ea =>
  cases (show u=Value.ref a from rx)
  obtain ⟨_,_,n,_,h1⟩:=(show ObjOk X.prog X.w H s.heap a (.lst xs) from I.hok a _ ea)
  exact PySem.W.kia_one PySem.W.kitx_list I.kIn ⟨_,h1,rfl⟩ e (λz=>nomatch z) h
 | @frz a ob xs ea =>
  cases (show u=Value.ref a from rx)
  obtain ⟨_,_,_,n,_,h1⟩:=(show ObjOk X.prog X.w H s.heap a (.frz ob (.lst xs)) from I.hok a _ ea)
  exact PySem.W.kia_one PySem.W.kitx_list I.kIn ⟨_,h1,rfl⟩ e (λz=>nomatch z) h
 | @tup a xs ea =>
  cases (show u=Value.ref a from rx)
  obtain ⟨_,_,_,p⟩:=(show ObjOk X.prog X.w H s.heap a (.tup xs) from I.hok a _ ea)
  obtain ⟨o,h1,h2,_⟩:=p
  exact PySem.W.kia_one PySem.W.kitx_tuple I.kIn ⟨o,h1,h2⟩ e (λz=>nomatch z) h
 | @dK a kvs ea =>
  cases (show u=Value.ref a from rx)
  obtain ⟨_,_,vs,_,p⟩:=(show ObjOk X.prog X.w H s.heap a (.dK kvs) from I.hok a _ ea)
  obtain ⟨o,es,ep,h1,h2,_⟩:=p
  exact PySem.W.kia_one PySem.W.kitx_dict I.kIn ⟨o,h1,h2.1⟩ e (λz=>nomatch z) h
 | @dT a kvs ea =>
  cases (show u=Value.ref a from rx)
  obtain ⟨_,_,xs,_,o,es,ep,h1,h2,_⟩:=(show ObjOk X.prog X.w H s.heap a (.dT kvs) from I.hok a _ ea)
  exact PySem.W.kia_one PySem.W.kitx_dict I.kIn ⟨o,h1,h2.1⟩ e (λz=>nomatch z) h
 | @ins a C dx fs ea cl ha hn htk hm =>
  cases (show u=Value.ref a from rx)
  obtain ⟨mA,O,_⟩:=zx7 I.hok ea
  obtain ⟨od,J,_⟩:=O.look
  exact PySem.W.kia_one (PySem.W.kitx_own (cl.get _) cl.hd ha hn htk hm) I.kIn J e (λz=>nomatch z) h
end
structure Room (k:Nat) (A:Around):Prop where
 hd:A.handled=none
 dp:A.depth+3*k+5<recursionLimit
 un:A.units+16*k+200<cLine
 gd:A.guards=some []
theorem Room.mono {j k:Nat}{A:Around}(r:Room k A) (h:j<=k):Room j A:=⟨r.hd,by have:=r.dp;omega,by have:=r.un;omega,r.gd⟩
theorem Room.deeper {k:Nat}{A:Around}(r:Room (k+1) A) (env:Env):Room k (A.deeper env) :=
 ⟨r.hd,by have:=r.dp;show A.depth+1+3*k+5<_;omega,by have:=r.un;show A.units+3+16*k+200<_;omega,r.gd⟩
theorem Room.depth {k:Nat}{A:Around}(r:Room k A):A.depth<recursionLimit:=by have:=r.dp;omega
def zpi:TA:=λ_ H Q=>Q [] H
def zx9 (ta:TE) (tr:TA):TA:=λσ H Q=>ta σ H λx H1=>tr σ H1 λxs H2=>Q (x :: xs) H2
section
variable {X:Cx}{e:Expr}{es:List Expr}{te:TE}{t:TA}{pos:Pos}
theorem zhz:PA X [] zpi:=λ_ _ _ _ H Q I h=>Calls.spliced_nil ⟨[],H,I,.nil,h⟩
theorem zfm (ha:PE X e te) (hr:PA X es t) (hs:starEach (e :: es) X.env=(false,eval e X.env) :: starEach es X.env:=by rfl):PA X (e :: es) (zx9 te t):=by
 intro pos pins s σ H Q I h
 rw [hs]
 show wpAny _ _ (spliced ((false,eval e X.env) :: backTo pos (starEach es X.env))) _ _ s
 refine Calls.spliced_cons (thn (ha pins s σ H _ I h) λu s1 ⟨x,H1,I1,r1,q1⟩=>?_)
 exact thn (hr pos pins s1 σ H1 _ I1 q1) λus s2 ⟨xs,H2,I2,r2,q2⟩=>⟨x :: xs,H2,I2,.cons r1 r2,q2⟩
def zya (t:TA):TE:=λσ H Q=>t σ H λxs H1=>xs.length<=sizeLine/\∀p,H1 p=none->Q (.ref p) (upd H1 p (.tup xs))
def zyb (t:TA):TE:=λσ H Q=>t σ H λxs H1=>xs.length<=sizeLine/\∀p,H1 p=none->Q (.ref p) (upd H1 p (.lst xs))
theorem zpj {x1}(h:PA X es t):PE X (.Tuple es x1 pos) (zya t):=by
 intro pins s σ H Q I hq
 refine wpAny_Tuple_spliced (thn (h pos pins s σ H _ I hq) λus s1 ⟨xs,H1,I1,r,z,q⟩=>⟨by rw [<-r.length];exact z,?_⟩)
 have hf:H1 s1.heap.objs.size=none:=I1.hok.fresh (qlr _)
 refine ⟨.ref s1.heap.objs.size,upd H1 s1.heap.objs.size (.tup xs),I1.laid (t':=s1.toks) (λb u e=>qps _ e) (qlr _) ?_,rfl,q _ hf⟩
 exact ⟨z,us,r,IsTD.new _ _⟩
theorem zyc (h:PA X es t):PE X (.List es pos) (zyb t):=by
 intro pins s σ H Q I hq
 refine wpAny_List_spliced (thn (h pos pins s σ H _ I hq) λus s1 ⟨xs,H1,I1,r,z,q⟩=>⟨by rw [<-r.length];exact z,?_⟩)
 have hf:H1 s1.heap.objs.size=none:=I1.hok.fresh (qlr _)
 refine ⟨.ref s1.heap.objs.size,upd H1 s1.heap.objs.size (.lst xs),I1.laid (t':=s1.toks) (λb u e=>qps _ e) (qlr _) ?_,rfl,q _ hf⟩
 exact ⟨z,us,0,r,Heap.get?_push_size _ rfl⟩
end
abbrev Sp:=List V->Hp->VK->XK->Prop
abbrev CXT:=List Env->Hp->Shared->XK->Value->Shared->Prop
structure Env0 (P:Program) (w:World) (K:QFg) (mg:Str->Option Value) (base:Heap) (A:Around) (outer:List Env) (s:Shared) (H:Hp):Prop where
 frames:A.frames=some outer
 mod:Mod K mg base
 bs:∀b o,base.get? b=some o->s.heap.get? b=some o/\H b=none
 bsz:base.objs.size<=s.heap.objs.size
 funs:s.heap.FunFrames base outer
 frf:∀b∈frs outer,H b=none
 hok:HOk P w H s.heap
 bare:AllBare s.gens
def CE (outer:List Env) (P:Program) (w:World) (H:Hp) (s:Shared) (Q:VK) (u:Value) (s':Shared):Prop :=
 ∃v H',s'.os=s.os/\AllBare s'.gens/\Un (frs outer) [] H H' s.heap s'.heap/\HOk P w H' s'.heap/\RelV v u/\Q v H'
def CR (CX:CXT) (outer:List Env) (P:Program) (w:World) (H:Hp) (s:Shared) (Q:VK) (E:XK) (r:Result) (s':Shared):Prop :=
 match r with
 | .ok (.ret u)=>CE outer P w H s Q u s'
 | .ok _=>False
 | .error e=>CX outer H s E e s'
structure FnOk (P:Program) (w:World) (K:QFg) (mg:Str->Option Value) (base:Heap) (CX:CXT) (k:Nat) (f:Addr) (fd:FuncData) (ps:List Str) (sp:Sp):Prop where
 len:∀vs H Q E,sp vs H Q E->vs.length=ps.length
 run:∀(A:Around) (outer:List Env) (s:Shared) (H:Hp) (args:Args) (us:List Value) (vs:List V) (Q:VK) (E:XK),Room k A->Env0 P w K mg base A outer s H->BindsTo s fd args (ps.zip us)->Vals vs us->sp vs H Q E ->
  codeAny (model P w) A (.call (.ref f) args) (CR CX outer P w H s Q E) s
section
variable {X:Cx}{pins:List (Addr × Obj)}{σ:St}{H:Hp}{s s':Shared}
theorem Inv.env0 (I:Inv X pins σ H s):Env0 X.prog X.w X.K X.mg X.base X.A X.stack s H :=
 ⟨I.ok.frames,I.ok.mod,I.bs,Nat.le_trans I.ok.bsz I.sz,I.stack,I.stkFree,I.hok,I.bare⟩
theorem Inv.after {Q:VK}{u:Value}(I:Inv X pins σ H s) (h:CE X.stack X.prog X.w H s Q u s'):EP X pins σ Q u s':=by
 obtain ⟨v,H',os,bare,un,hok,r,q⟩:=h
 obtain ⟨hh,g,d,t,os'⟩:=s'
 obtain rfl:os' = s.os:=os
 exact ⟨v,H',I.call (h':=hh) (g':=g) (d':=d) (t':=t) (ch:=[]) un hok bare (λb z=>absurd z (by simp)),r,q⟩
end
def zpk (sp:Sp) (dvs:List V) (E:XK) (t:TA):TE:=λσ H Q=>t σ H λvs H1=>sp (vs++dvs) H1 Q E
def Binds (K:QFg) (fd:FuncData) (ps:List Str) (ds:List Value):Prop :=
 ∀(s:Shared) (us:List Value),K.In s.heap->(us++ds).length=ps.length->BindsTo s fd ⟨us,[]⟩ (ps.zip (us++ds))
theorem Binds.all {K:QFg}{fd:FuncData}{ps:List Str}(h:∀us:List Value,us.length=ps.length->bindArgs fd ⟨us,[]⟩=pure (ps.zip us)):Binds K fd ps []:=λs us _ hl=>by
 rw [List.append_nil] at hl ⊢
 exact .of_eq (h us hl)
def zh0 (CX:CXT) (X:Cx) (E:XK):Prop:=∀(pins:List (Addr × Obj)) (σ:St) (H:Hp) (s:Shared) (e:Value) (s':Shared),Inv X pins σ H s->CX X.stack H s E e s'->X.xe e s'
section
variable {X:Cx}{CX:CXT}{k:Nat}{f C:Addr}{fd:FuncData}{ps:List Str}{sp:Sp}{dvs:List V}{ds:List Value}{E:XK}{x m:Str}{p pos apos:Pos}{e o:Expr}{es:List Expr}{ta:TE}{t:TA}
theorem zpl {pins:List (Addr × Obj)}{σ:St}{H:Hp}{s:Shared}{Q:VK}{us:List Value}{vs:List V}(F:FnOk X.prog X.w X.K X.mg X.base CX k f fd ps sp) (hr:Room k X.A) (hb:Binds X.K fd ps ds) (hd:Vals dvs ds) (hx:zh0 CX X E)
  (I:Inv X pins σ H s) (r:Vals vs us) (h:sp (vs++dvs) H Q E):wpAny (model X.prog X.w) X.A (call (.ref f) us) (EP X pins σ Q) X.xe s:=by
 have r2:Vals (vs++dvs) (us++ds):=r.append hd
 have hl:(us++ds).length=ps.length:=by rw [<-r2.length];exact F.len _ _ _ _ h
 refine wpAny_call (codeAny_mono (F.run X.A X.stack s H ⟨us,[]⟩ (us++ds) (vs++dvs) Q E hr I.env0 (hb s us I.kIn hl) r2 h) λr s' hq=>?_)
 cases r with
 | error e=>exact hx pins σ H s e s' I hq
 | ok fl =>
  cases fl with
  | ret u=>exact I.after hq
  | next=>exact False.elim hq
  | brk=>exact False.elim hq
  | cont=>exact False.elim hq
theorem zpm (F:FnOk X.prog X.w X.K X.mg X.base CX k f fd ps sp) (hr:Room k X.A) (hg:Gl X x) (hm:X.mg x=some (.ref f)) (hk:PySem.W.keepIn X.K (.ref f)=true) (hb:Binds X.K fd ps ds) (hd:Vals dvs ds) (hx:zh0 CX X E)
  (ha:PA X (e :: es) t) (hdb:(x == ("__debug__":Str))=false:=by decide) (he:starEach (e :: es) X.env=(false,eval e X.env) :: starEach es X.env:=by rfl) (hpl:(backTo pos (starEach es X.env)).any (·.1)=false:=by rfl) :
  PE X (.Call (.Name x p) (e :: es) [] pos) (zpk sp dvs E t):=by
 intro pins s σ H Q I h
 refine wpAny_Call_Name_kw (zio I hg hm ?_ hdb)
 refine PySem.W.callWith_K (h₀:=X.base) I.ok.mod.kin hk (thn (ha pos pins s σ H _ I h) λus s1 ⟨vs,H1,I1,r,q⟩=>⟨I1.kIn,?_⟩) he hpl
 exact zpl F hr hb hd hx I1 r q
theorem zyd (F:FnOk X.prog X.w X.K X.mg X.base CX k f fd ps sp) (hr:Room k X.A) (hg:Gl X x) (hm:X.mg x=some (.ref f)) (hk:PySem.W.keepIn X.K (.ref f)=true) (hb:Binds X.K fd ps ds) (hd:Vals dvs ds) (hx:zh0 CX X E)
  (hdb:(x == ("__debug__":Str))=false:=by decide):PE X (.Call (.Name x p) [] [] pos) (zpk sp dvs E zpi):=by
 intro pins s σ H Q I h
 refine wpAny_Call_Name_kw (zio I hg hm ?_ hdb)
 exact PySem.W.callWith_K0 I.kIn hk (zpl (us:=[]) F hr hb hd hx I .nil h)
structure Mk (K:QFg) (C f:Addr):Prop where
 makes:PySem.W.makesIn K C=true
 init:PySem.W.findIn K (.ref C) "__init__" = some (some (.ref f))
 fn:PySem.W.isFn K (.ref f)=true
 kp:PySem.W.keepIn K (.ref C)=true
end
section
variable {X:Cx}{CX:CXT}{k:Nat}{f C:Addr}{fd:FuncData}{ps ks:List Str}{sp:Sp}{E:XK}{x m:Str}{p pos apos kpos:Pos}{e o:Expr}{es:List Expr}{kws:List Keyword}{te ta:TE}{t tk:TA}{nm:Option Str}
variable {g:List Value->List Value->List Value}{gV:List V->List V->List V}
end
structure FnScope (N P:List Str) (sc:Scope):Prop where
 kind:sc.kind=.function
 co:sc.isCoroutine=false
 gen:sc.isGenerator=false
 nd:N.Nodup
 pre:N.take P.length=P
 par:∀x∈P,sc.names.lookup x=some .local\/sc.names.lookup x=some .cell
 nofree:∀y∈sc.names,y.2≠.free
theorem zpn {kindOf:Str->Option NameKind}{x:Str}:∀{binds:List (Str × Value)}{m:Str->Option Value},(∀v,(x,v) ∉ binds)->bindL kindOf binds m x=m x
 | [],_,_=>rfl
 | (n,v) :: r,m,h=>by
  unfold bindL
  rw [zpn λw hw=>h w (List.mem_cons_of_mem _ hw)]
  split
  ·have:x≠n:=by rintro rfl;exact h v List.mem_cons_self
   simp [this]
  ·rfl
theorem zpo {kindOf:Str->Option NameKind}{x:Str}:∀{binds:List (Str × Value)}{m:Str->Option Value},(∀v,(x,v) ∉ binds)->bindC kindOf binds m x=m x
 | [],_,_=>rfl
 | (n,v) :: r,m,h=>by
  unfold bindC
  rw [zpo λw hw=>h w (List.mem_cons_of_mem _ hw)]
  split
  ·rfl
  ·have:x≠n:=by rintro rfl;exact h v List.mem_cons_self
   simp [this]
theorem zpp {kindOf:Str->Option NameKind}{x:Str}{v:Value}:∀{P:List Str}{vs:List Value}{i:Nat}{m:Str->Option Value},P.Nodup->P[i]? = some x->vs[i]? = some v->kindOf x=some .local ->
  bindL kindOf (P.zip vs) m x=some v
 | [],_,_,_,_,h,_,_=>by simp at h
 | _ :: _,[],_,_,_,_,h,_=>by simp at h
 | p :: P,w :: vs,0,m,nd,h1,h2,hk=>by
  simp at h1 h2;subst h1;subst h2
  show bindL kindOf ((p,w) :: P.zip vs) m p=_
  unfold bindL
  rw [zpn λv hv=>(List.nodup_cons.mp nd).1 (List.of_mem_zip hv).1,if_pos hk]
  simp
 | p :: P,w :: vs,i+1,m,nd,h1,h2,hk=>by
  show bindL kindOf ((p,w) :: P.zip vs) m x=_
  unfold bindL
  exact zpp (i:=i) (List.nodup_cons.mp nd).2 (by simpa using h1) (by simpa using h2) hk
theorem zpq {kindOf:Str->Option NameKind}{x:Str}{v:Value}:∀{P:List Str}{vs:List Value}{i:Nat}{m:Str->Option Value},P.Nodup->P[i]? = some x->vs[i]? = some v->kindOf x≠some .local ->
  bindC kindOf (P.zip vs) m x=some v
 | [],_,_,_,_,h,_,_=>by simp at h
 | _ :: _,[],_,_,_,_,h,_=>by simp at h
 | p :: P,w :: vs,0,m,nd,h1,h2,hk=>by
  simp at h1 h2;subst h1;subst h2
  show bindC kindOf ((p,w) :: P.zip vs) m p=_
  unfold bindC
  rw [zpo λv hv=>(List.nodup_cons.mp nd).1 (List.of_mem_zip hv).1,if_neg hk]
  simp
 | p :: P,w :: vs,i+1,m,nd,h1,h2,hk=>by
  show bindC kindOf ((p,w) :: P.zip vs) m x=_
  unfold bindC
  exact zpq (i:=i) (List.nodup_cons.mp nd).2 (by simpa using h1) (by simpa using h2) hk
noncomputable def start (N:List Str) (vs:List V):St:=vs.map some++List.replicate (N.length-vs.length) none
noncomputable def zcj (CX:CXT) (P:Program) (w:World) (K:QFg) (mg:Str->Option Value) (base:Heap) (N:List Str) (qual:Str) (scope:Scope) (f:Addr) (cd:Value) (A:Around) (outer:List Env) (s:Shared) (H:Hp) (E:XK):Cx where
 prog:=P
 w:=w
 K:=K
 mg:=mg
 base:=base
 A:=A.deeper (envOfC qual scope s.heap.objs.size f cd)
 N:=N
 s₀:=s
 H₀:=H
 env:=envOfC qual scope s.heap.objs.size f cd
 outer:=outer
 stack:=envOfC qual scope s.heap.objs.size f cd :: outer
 ex:=[]
 calm:=true
 fn:=λ_=>true
 pn:=[]
 xe:=λe s'=>wpAny (model P w) (A.deeper (envOfC qual scope s.heap.objs.size f cd)) (leaving (envOfC qual scope s.heap.objs.size f cd) e) (λ_ s''=>CX outer H s E e s'') (λe' s''=>CX outer H s E e' s'') s'
theorem zpr {sc:Scope}{n:Nat}{x:Str}(h:sc.names.lookup x=some .cell):∃c,(cellsFrom n sc.names []).lookup x=some c:=by
 have q:=PySem.W.cellsFrom_some sc.names n [] (.inl h)
 exact Option.isSome_iff_exists.mp q
theorem zye {CX:CXT}{P:Program}{w:World}{K:QFg}{mg:Str->Option Value}{base:Heap}{N ps:List Str}{qual:Str}{scope:Scope}{f:Addr}{cd:Value}{A:Around}{outer:List Env}{s s1:Shared}{H:Hp}{E:XK}{us:List Value}{vs:List V}
  (S:FnScope N ps scope) (hd:A.handled=none) (e0:Env0 P w K mg base A outer s H) (hl:vs.length=ps.length) (r:Vals vs us)
  (x:InCallC s s.heap.objs.size (bindL (envOfC qual scope s.heap.objs.size f cd).kindOf (ps.zip us) λ_=>none) (cellsFrom (s.heap.objs.size+1) scope.names []) (bindC (envOfC qual scope s.heap.objs.size f cd).kindOf (ps.zip us) λ_=>none) s1) :
  Inv (zcj CX P w K mg base N qual scope f cd A outer s H E) [] (start N vs) H s1:=by
 have hpl:ps.length<=N.length:=by have:=congrArg List.length S.pre;rw [List.length_take] at this;omega
 obtain ⟨h1,tk,rfl,hk⟩:=x.done
 have noA:∀b:Addr,b ∉ (zcj CX P w K mg base N qual scope f cd A outer s H E).ex:=λb z=>absurd (show b∈([]:List Addr) from z) (by simp)
 refine ⟨⟨e0.mod,S.kind,rfl,rfl,qlr _,λy z c h1 h2=>?_,λy hy=>?_,λy c _ h=>?_,λ_=>hd,Around.frames_deeper e0.frames,.inr ⟨rfl,rfl⟩,λb z=>absurd z (noA b),e0.bs,e0.bsz,λb _ _=>noA b,λb z=>absurd z (noA b),e0.funs,e0.frf⟩,
  rfl,e0.bare,Un.kept hk,⟨_,x.toInCall.ns,λi y v h1 h2 h3=>?_⟩,λy c h=>⟨_,x.cell y c h⟩,e0.hok.fresh (qlr _),λy c h=>?_,λp hp=>absurd (show p∈([]:List (Addr × Obj)) from hp) (by simp),e0.hok.kept hk,?_⟩
 ·exact name_of_addr x.apart (PySem.mem_of_lookup h1) (PySem.mem_of_lookup h2)
 ·have hy:scope.names.lookup y=some .cell\/scope.names.lookup y=some .free:=hy
  rcases hy with hy|hy
  ·exact zpr hy
  ·exact absurd rfl (S.nofree _ (PySem.mem_of_lookup hy))
 ·exact Nat.le_of_lt (x.above y c (PySem.mem_of_lookup h))
 ·have hi:i<vs.length:=by
   unfold start at h2
   by_cases hi:i<vs.length
   ·exact hi
   ·rw [List.getElem?_append_right (by simpa using hi)] at h2
    rw [List.getElem?_replicate] at h2
    split at h2 <;> cases h2
  have ha:vs[i]? = some v:=by
   unfold start at h2
   rw [List.getElem?_append_left (by simpa using hi),qgm] at h2
   cases e:vs[i]? with
   | none=>rw [e] at h2;cases h2
   | some a=>rw [e] at h2;cases h2;rfl
  obtain ⟨u,hu,rv⟩:=r.get ha
  have hp:ps[i]? = some y:=by
   rw [<-S.pre,List.getElem?_take_of_lt (by omega)];exact h1
  have ndP:ps.Nodup:=by rw [<-S.pre];exact S.nd.sublist (List.take_sublist _ _)
  refine ⟨u,rv,?_⟩
  rcases S.par y (qmg hp) with k|k
  ·exact .inl ⟨k,zpp ndP hp hu k⟩
  ·obtain ⟨c,e⟩:=zpr (n:=s.heap.objs.size+1) k
   refine .inr ⟨.inl k,c,e,?_⟩
   have q:=x.cell y c e
   rw [zpq ndP hp hu (by show scope.names.lookup y≠_;rw [k];decide)] at q
   exact q
 ·exact e0.hok.fresh (Nat.le_of_lt (x.above y c (PySem.mem_of_lookup h)))
 ·unfold start
  show _=N.length
  rw [qla,qlm,List.length_replicate]
  omega
theorem zps {CX:CXT}{P:Program}{w:World}{K:QFg}{mg:Str->Option Value}{base:Heap}{k:Nat}{f:Addr}{name qual:Str}{params:Arguments}{body:List Stmt}{scope:Scope}{dV kV doc pm cdv ct oc:Value}{an od:Option Addr}
  {osl:Array (Option Value)} {N ps:List Str} {sp:Sp} (lk:K.lookup f=some ⟨oc,od,.func (PySem.W.fnOf name qual params body scope dV kV doc pm an cdv ct),osl⟩) (hcd:PySem.W.codeIn K cdv qual=true) (S:FnScope N ps scope)
  (len:∀vs H Q E,sp vs H Q E->vs.length=ps.length)
  (hbody:∀(A:Around) (outer:List Env) (s:Shared) (H:Hp) (vs:List V) (Q:VK) (E:XK),Room k (A.deeper (envOfC qual scope s.heap.objs.size f cdv))->sp vs H Q E ->
   ∃t,PSs (zcj CX P w K mg base N qual scope f cdv A outer s H E) body t/\t { nx:=λ_ H'=>Q .non H',rt:=Q } (start N vs) H) :
  FnOk P w K mg base CX (k+1) f (PySem.W.fnOf name qual params body scope dV kV doc pm an cdv ct) ps sp:=by
 refine ⟨len,λA outer s H args us vs Q E hr e0 hb r hsp=>?_⟩
 have hl:=len _ _ _ _ hsp
 have KX:K.In s.heap:=e0.mod.kin.keeps λb o e=>(e0.bs b o e).1
 have lim:s.heap.NoLimit:=e0.mod.nolimit.keeps λb o e=>(e0.bs b o e).1
 have hkind:∀y∈ps.zip us,scope.names.lookup y.1=some .local\/(scope.names.lookup y.1=some .cell/\((cellsFrom (s.heap.objs.size+1) scope.names []).lookup y.1).isSome=true):=λhx2_ hy=>by
  obtain ⟨n,v⟩:=hx2_
  rcases S.par n (List.of_mem_zip hy).1 with q|q
  ·exact .inl q
  ·exact .inr ⟨q,PySem.W.cellsFrom_some _ _ _ (.inl q)⟩
 refine codeAny_call_function hr.depth (KX _ _ lk) rfl S.co S.gen rfl (PySem.W.codeRec_of KX hcd) (hb _ _ _ _ ?_)
 refine wpAny_newFunctionEnv_cells S.kind hkind λenv he s1 x=>?_
 subst he
 refine ⟨lim.keeps x.toInCall.keep,codeAny_func ?_⟩
 obtain ⟨t,ht,hq⟩:=hbody A outer s H vs Q E (hr.deeper _) hsp
 have I:Inv (zcj CX P w K mg base N qual scope f cdv A outer s H E) [] (start N vs) H s1:=zye S hr.hd e0 hl r x
 refine wpAny_mono (ht [] s1 (start N vs) H _ I hq) (λfl s' hs=>?_) λe s' hs=>hs
 have fin:∀{σ':St} {H':Hp} {v:V} {u:Value},Inv (zcj CX P w K mg base N qual scope f cdv A outer s H E) [] σ' H' s'->RelV v u->Q v H'->CE outer P w H s Q u s' :=
  λ{σ' H' v u} J rv q=>⟨v,H',J.os,J.bare,J.base,J.hok,rv,q⟩
 cases fl with
 | ret u =>
  obtain ⟨v,σ',H',J,rv,q⟩:=hs
  exact fin J rv q
 | next =>
  obtain ⟨σ',H',J,q⟩:=hs
  exact fin (v:=V.non) (u:=Value.none) J rfl q
 | brk =>
  obtain ⟨_,_,_,q⟩:=hs
  exact False.elim q
 | cont =>
  obtain ⟨_,_,_,q⟩:=hs
  exact False.elim q
section
variable {X:Cx}{x:Str}{p pos:Pos}{e:Expr}{es:List Expr}{t:TA}{id T:String}{r:List V->Hp->VK->Prop}
def tCB (r:List V->Hp->VK->Prop) (t:TA):TE:=λσ H Q=>t σ H λvs H1=>r vs H1 Q
theorem zjg (hc:CallR X (.builtin id) r) (hg:Gl X x) (hm:X.mg x=none) (hv:bootBuiltins x=some (.builtin id)) (ha:PA X (e :: es) t) (hn:x≠"__name__":=by decide) (hdb:(x == ("__debug__":Str))=false:=by decide)
  (he:starEach (e :: es) X.env=(false,eval e X.env) :: starEach es X.env:=by rfl) (hpl:(backTo pos (starEach es X.env)).any (·.1)=false:=by rfl):PE X (.Call (.Name x p) (e :: es) [] pos) (tCB r t):=by
 intro pins s σ H Q I h
 refine wpAny_Call_Name_kw (zkq I hg hm hv ?_ hn hdb)
 exact PyProof.Rows.callWith_builtin1 (thn (ha pos pins s σ H _ I h) λus s1 ⟨vs,H1,I1,r1,q1⟩=>hc pins s1 σ H1 vs us Q I1 r1 q1) he hpl
theorem zpt (hc:CallR X (.type T) r) (hg:Gl X x) (hm:X.mg x=none) (hv:bootBuiltins x=some (.type T)) (ha:PA X (e :: es) t) (hn:x≠"__name__":=by decide) (hdb:(x == ("__debug__":Str))=false:=by decide)
  (he:starEach (e :: es) X.env=(false,eval e X.env) :: starEach es X.env:=by rfl) (hpl:(backTo pos (starEach es X.env)).any (·.1)=false:=by rfl):PE X (.Call (.Name x p) (e :: es) [] pos) (tCB r t):=by
 intro pins s σ H Q I h
 refine wpAny_Call_Name_kw (zkq I hg hm hv ?_ hn hdb)
 exact PyProof.Rows.callWith_type1 (thn (ha pos pins s σ H _ I h) λus s1 ⟨vs,H1,I1,r1,q1⟩=>hc pins s1 σ H1 vs us Q I1 r1 q1) he hpl
end
end L2
namespace HT
open PySem PyProof.Rows
section
open PySem.SeqAt
open PySem.AutoSeq1 (wpAny_loadPart')
open PySem.MeetsSeq PySem.MeetsSeq2 PySem.MeetsSeq3
end
section
variable {prog:Program}{w:World}{A:Around}{E:Value->Shared->Prop}{s:Shared}
theorem cat_tup {t b:Addr}{vs ws:List Value}{Q:Value->Shared->Prop}(ht:IsTup s.heap t vs.toArray) (hb:IsTup s.heap b ws.toArray) (hv:vs≠[])
  (h1:ws=[]->Q (.ref t) s) (h2:ws≠[]->Q (.ref s.heap.objs.size) { s with heap:=s.heap.push { cls:=.type "tuple",data:=.seq (vs++ws).toArray } })
  (hsz:vs.length+ws.length<=sizeLine):wpAny (model prog w) A (binaryOp .Add (.ref t) (.ref b)) Q E s:=by
 obtain ⟨⟨cls,dd,data,sl⟩,ho,hc,n,hd⟩:=id ht
 obtain ⟨⟨cls2,dd2,data2,sl2⟩,ho2,hc2,n2,hd2⟩:=id hb
 simp only at hc hd hc2 hd2
 subst hc hd hc2 hd2
 have e:vs.toArray++ws.toArray=(vs++ws).toArray:=by simp
 by_cases hw:ws=[]
 ·exact concat_meets ⟨_,ho,rfl⟩ ⟨_,ho2,rfl⟩ noFill_tuple_add seq_tuple_add PySem.F.slot_tuple_add PySem.F.entry_tuple_add (PySem.F.args_tuple_add_2 _ _)
   (tuple_addW1 t b vs.toArray ws.toArray n n2 dd dd2 sl sl2 (by simpa using hv) (by simp [hw])) ⟨ho,ho2,h1 hw⟩
 ·refine concat_meets ⟨_,ho,rfl⟩ ⟨_,ho2,rfl⟩ noFill_tuple_add seq_tuple_add PySem.F.slot_tuple_add PySem.F.entry_tuple_add (PySem.F.args_tuple_add_2 _ _)
   (tuple_addW2 t b vs.toArray ws.toArray n n2 dd dd2 sl sl2 (by simpa using hv) (by simpa using hw) (by rw [List.size_toArray,List.size_toArray];exact hsz)) ⟨ho,ho2,?_⟩
  rw [e]
  exact h2 hw
noncomputable def sIx (n d:Nat):Option Int->Nat
 | none=>d
 | some v=>if v<0 then (v+(n:Int)).toNat else min v.toNat n
theorem sIx_none (n d:Nat):sIx n d none=d:=rfl
theorem sIx_nat (n d k:Nat):sIx n d (some (k:Int))=min k n:=by
 show (if (k:Int)<0 then ((k:Int)+(n:Int)).toNat else min (k:Int).toNat n)=min k n
 rw [if_neg (by omega),Int.toNat_natCast]
theorem zyf (n d:Nat) (hd:d<=n) (o:Option Int):sIx n d o<=n:=by
 cases o with
 | none=>exact hd
 | some v =>
  show (if v<0 then (v+(n:Int)).toNat else min v.toNat n)<=n
  by_cases hv:v<0
  ·rw [if_pos hv];omega
  ·rw [if_neg hv];exact Nat.min_le_right _ _
theorem zpu (v:Int) (n d:Nat):(if v<0 then max (v+(n:Int)) 0 else min v (n:Int))=((sIx n d (some v):Nat):Int):=by
 show (if v<0 then max (v+(n:Int)) 0 else min v (n:Int))=(((if v<0 then (v+(n:Int)).toNat else min v.toNat n):Nat):Int)
 by_cases hv:v<0
 ·simp only [if_pos hv];omega
 ·simp only [if_neg hv];omega
theorem zyg (lo hi:Option Int) (n:Nat):Builtin.Slice.sliceAdjust lo hi 1 (n:Int)=(((sIx n 0 lo:Nat):Int),((sIx n n hi:Nat):Int)):=by
 have h1:¬((1:Int)<0):=by omega
 unfold Builtin.Slice.sliceAdjust
 simp only [h1,if_false]
 refine Prod.ext ?_ ?_
 ·cases lo with
  | none=>rfl
  | some v=>exact zpu v n 0
 ·cases hi with
  | none=>rfl
  | some v=>exact zpu v n n
theorem zyh (i j:Nat):Builtin.Slice.slicePlaces (i:Int) (j:Int) 1=j-i:=by
 unfold Builtin.Slice.slicePlaces
 have h1:(1:Int) > 0:=by omega
 simp only [h1,if_true,Int.ediv_one]
 split <;> omega
theorem zpv {v:Value}{o:Option Int}{Q:Option Int->Shared->Prop}(p:IsPart v o) (h:Q o s):wpAny (model prog w) A (Builtin.Slice.slicePartIndex v) Q E s:=by
 cases p with
 | none=>exact slicePart_none h
 | int i t=>exact slicePart_int h
theorem zpw {sl:Addr}{vl vu:Value}{lo hi:Option Int}{n:Nat}{Q:Int × Int × Nat->Shared->Prop}(hs:s.heap.IsSliceOf sl vl vu .none) (pl:IsPart vl lo) (pu:IsPart vu hi)
  (h:Q (((sIx n 0 lo:Nat):Int),1,sIx n n hi-sIx n 0 lo) s):wpAny (model prog w) A (Builtin.Slice.sliceApplied (.ref sl) (pure (n:Int))) Q E s:=by
 obtain ⟨os,hos,hcs,hds⟩:=id hs
 unfold Builtin.Slice.sliceApplied Builtin.Slice.sliceFields
 refine qwb (qwb (wpAny_field hos hds (x:=vl) rfl (qwb (wpAny_field hos hds (x:=vu) rfl (qwb (wpAny_field hos hds (x:=.none) rfl (qwp ?_)))))))
 refine qwb (slicePart_none ?_)
 show wpAny _ _ (if ((1:Int) == 0)=true then _ else _) _ _ s
 rw [if_neg (by decide)]
 refine qwb (zpv pl (qwb (zpv pu (qwb (qwp ?_)))))
 show wpAny _ _ (match Builtin.Slice.sliceAdjust lo hi 1 (n:Int) with|(lo,hi)=>pure (lo,(1:Int),Builtin.Slice.slicePlaces lo hi 1)) _ _ s
 rw [zyg lo hi n]
 show wpAny _ _ (pure (((sIx n 0 lo:Nat):Int),(1:Int),Builtin.Slice.slicePlaces ((sIx n 0 lo:Nat):Int) ((sIx n n hi:Nat):Int) 1)) _ _ s
 rw [zyh]
 exact qwp h
theorem zyi (xs:Array Value) (i k:Nat):((List.range k).filterMap λ(m:Nat)=>xs[((i:Int)+(m:Int)*1).toNat]?).toArray=((xs.toList.drop i).take k).toArray:=by
 have e:(λ(m:Nat)=>xs[((i:Int)+(m:Int)*1).toNat]?)=λm=>xs[i+m]?:=by
  funext m
  have:((i:Int)+(m:Int)*1).toNat=i+m:=by omega
  rw [this]
 rw [e]
 have:=pick_run xs i k
 rw [List.filterMap_map] at this
 have e2:((λx=>xs[x]?) ∘ λx=>i+x)=λm=>xs[i+m]?:=rfl
 rw [e2] at this
 rw [this]
theorem getItem_tuple_cut {t sl:Addr}{items:Array Value}{vl vu:Value}{lo hi:Option Int}{Q:Value->Shared->Prop}(ht:IsTup s.heap t items) (hs:s.heap.IsSliceOf sl vl vu .none) (pl:IsPart vl lo) (pu:IsPart vu hi)
  (hw:¬(sIx items.size 0 lo=0/\sIx items.size items.size hi=items.size))
  (h:Q (.ref s.heap.objs.size) { s with heap:=s.heap.push { cls:=.type "tuple",data:=.seq ((items.toList.drop (sIx items.size 0 lo)).take (sIx items.size items.size hi-sIx items.size 0 lo)).toArray } })
  (hsz:items.size<=sizeLine):wpAny (model prog w) A (getItem (.ref t) (.ref sl)) Q E s:=by
 have htake:sizeOk (.seq ((items.toList.drop (sIx items.size 0 lo)).take (sIx items.size items.size hi-sIx items.size 0 lo)).toArray):=by
  show ((items.toList.drop (sIx items.size 0 lo)).take (sIx items.size items.size hi-sIx items.size 0 lo)).toArray.size<=sizeLine
  rw [List.size_toArray,List.length_take,List.length_drop,Array.length_toList]
  omega
 have hj:sIx items.size items.size hi<=items.size:=zyf _ _ (qlr _) hi
 obtain ⟨os,hos,hcs,hds⟩:=id hs
 have hTs:s.TypeIs (.ref sl) "slice":=⟨os,hos,hcs⟩
 unfold getItem
 try with_reducible refine wpAny_holding ?_
 first|refine qwb (qwp ?_)|skip
 refine qwb (wpAny_sequenceKey ht.typeIs (by decide) ?_)
 refine qwb (wpAny_callSpecial?_slot (name:=Str.ofString "__getitem__") ht.typeIs PyProof.Rows.slot_tuple_getitem
  (wpAny_call_entry PyProof.Rows.slot_tuple_getitem ht.typeIs entry_tuple_getitem ?_ (args_tuple_getitem _ _)))
 show wpAny _ _ (Builtin.Tuple.tupleItemsOf (.ref t) >>= _) _ _ s
 refine qwb (tupleItemsOf_ ht ?_)
 refine qwb (wpAny_typeOf hTs ?_)
 rw [if_pos (by decide)]
 refine qwb (zpw hs pl pu ?_)
 have hno:¬((((sIx items.size 0 lo:Nat):Int) == 0 && (1:Int) == 1 && (sIx items.size items.size hi-sIx items.size 0 lo) == items.size)=true):=by
  intro q
  rw [Bool.and_eq_true,Bool.and_eq_true] at q
  have q1:((sIx items.size 0 lo:Nat):Int)=0:=eq_of_beq q.1.1
  have q2:sIx items.size items.size hi-sIx items.size 0 lo=items.size:=eq_of_beq q.2
  exact hw ⟨by omega,by omega⟩
 show wpAny _ _ (if (((sIx items.size 0 lo:Nat):Int) == 0 && (1:Int) == 1 && (sIx items.size items.size hi-sIx items.size 0 lo) == items.size)=true then _ else _) _ _ s
 rw [if_neg hno,zyi]
 first
  | exact qwb (m:=Builtin.Tuple.tupleExact _) (wpAny_newObj_type (qwp ⟨_,rfl,qwp h⟩) htake)
  | exact qwb (m:=Builtin.Tuple.tupleExact _) (wpAny_newObj_type (qwb (qwp (qwp ⟨_,rfl,qwp h⟩))) htake)
  | exact qwb (qwb (m:=Builtin.Tuple.tupleExact _) (wpAny_newObj_type (qwp (qwp ⟨_,rfl,qwp h⟩)) htake))
  | exact qwb (qwb (m:=Builtin.Tuple.tupleExact _) (wpAny_newObj_type (qwp ⟨_,rfl,qwp h⟩) htake))
end
end HT
namespace L2
open PySem PySem.Spec PyProof.Rows
abbrev TO:=St->Hp->(Option Int->Hp->Prop)->Prop
def PO (X:Cx) (e:Option Expr) (t:TO):Prop :=
 ∀(pins:List (Addr × Obj)) (s:Shared) (σ:St) (H:Hp) (Q:Option Int->Hp->Prop),Inv X pins σ H s->t σ H Q ->
  wpAny (model X.prog X.w) X.A (evalPart e X.env) (λu s'=>∃o H',Inv X pins σ H' s'/\IsPart u o/\Q o H') X.xe s
def zyj:TO:=λ_ H Q=>Q none H
def zyk (t:TE):TO:=λσ H Q=>t σ H λx H1=>∃i,x=.int i/\Q (some i) H1
section
variable {X:Cx}{e:Expr}{te:TE}{lo hi:Option Expr}{tl th:TO}{pos p2:Pos}
theorem zyl:PO X none zyj:=by
 intro pins s σ H Q I h
 rw [evalPart_none]
 exact qwp ⟨none,H,I,.none,h⟩
theorem zym (h:PE X e te):PO X (some e) (zyk te):=by
 intro pins s σ H Q I hw
 rw [evalPart_some]
 refine thn (h pins s σ H _ I hw) λu s1 ⟨x,H1,I1,r1,q1⟩=>?_
 obtain ⟨i,rfl,q⟩:=q1
 obtain ⟨t,rfl⟩:=r1
 exact ⟨some i,H1,I1,.int i t,q⟩
def SlR (X:Cx) (r:V->Option Int->Option Int->Hp->VK->Prop):Prop :=
 ∀(pins:List (Addr × Obj)) (s:Shared) (σ:St) (H:Hp) (x:V) (v vl vu:Value) (lo hi:Option Int) (sl:Addr) (Q:VK),Inv X pins σ H s->RelV x v->s.heap.IsSliceOf sl vl vu .none->IsPart vl lo->IsPart vu hi->r x lo hi H Q ->
  ∃T id,typeLookup (.type T) "__getitem__" = pure (some (.builtin id))/\s.TypeIs v T/\wpAny (model X.prog X.w) X.A (getItem v (.ref sl)) (EP X pins σ Q) X.xe s
theorem SlR.or {r r':V->Option Int->Option Int->Hp->VK->Prop}(h:SlR X r) (h':SlR X r'):SlR X (λx lo hi H Q=>r x lo hi H Q\/r' x lo hi H Q):=by
 intro pins s σ H x v vl vu lo hi sl Q I rx hs pl pu q
 rcases q with q|q
 ·exact h pins s σ H x v vl vu lo hi sl Q I rx hs pl pu q
 ·exact h' pins s σ H x v vl vu lo hi sl Q I rx hs pl pu q
def tSl (r:V->Option Int->Option Int->Hp->VK->Prop) (te:TE) (tl th:TO):TE:=λσ H Q=>te σ H λx H1=>tl σ H1 λl H2=>th σ H2 λu H3=>r x l u H3 Q
theorem zyn {r:V->Option Int->Option Int->Hp->VK->Prop}(hr:SlR X r) (he:PE X e te) (hl:PO X lo tl) (hu:PO X hi th):PE X (.Subscript e (.Slice lo hi none p2) pos) (tSl r te tl th):=by
 intro pins s σ H Q I h
 refine Subscript_ (thn (he pins s σ H _ I h) λv s1 ⟨x,H1,I1,r1,q1⟩=>?_)
 refine wpAny_Slice (thn (hl pins s1 σ H1 _ I1 q1) λvl s2 ⟨l,H2,I2,pl,q2⟩=>thn (hu pins s2 σ H2 _ I2 q2) λvu s3 ⟨u,H3,I3,pu,q3⟩=>?_)
 rw [evalPart_none]
 refine qwp ?_
 have I4:Inv X pins σ H3 { s3 with heap:=s3.heap.push { cls:=.type "slice",data:=.fields #[vl,vu,.none] } }:=I3.kept (t':=s3.toks) λb ob q=>qps _ q
 obtain ⟨T,id,hT,ht,hg⟩:=hr pins { s3 with heap:=s3.heap.push { cls:=.type "slice",data:=.fields #[vl,vu,.none] } } σ H3 x v vl vu l u s3.heap.objs.size Q I4 r1 (Heap.IsSliceOf.new ..) pl pu q3
 show wpAny (model X.prog X.w) X.A (subscriptTail e (.Slice lo hi none p2) v (.ref s3.heap.objs.size)) (EP X pins σ Q) X.xe { s3 with heap:=s3.heap.push { cls:=.type "slice",data:=.fields #[vl,vu,.none] } }
 exact tail_any (ops:=[.ref s3.heap.objs.size,v]) ht hT hg (by with_unfolding_all rfl)
noncomputable def zgl (xs:List V) (lo hi:Option Int):List V:=(xs.drop (HT.sIx xs.length 0 lo)).take (HT.sIx xs.length xs.length hi-HT.sIx xs.length 0 lo)
theorem zpx (xs:List V) (lo hi:Option Int):(zgl xs lo hi).length<=xs.length:=by
 unfold zgl
 rw [List.length_take,List.length_drop]
 omega
def zyo (K:QFg):V->Option Int->Option Int->Hp->VK->Prop:=λx lo hi H Q=>∃a xs,x=.ref a/\SqT K H a xs /\
 ¬(HT.sIx xs.length 0 lo=0/\HT.sIx xs.length xs.length hi=xs.length)/\∀p,H p=none->Q (.ref p) (upd H p (.tup (zgl xs lo hi)))
theorem sl_tup:SlR X (zyo X.K):=by
 intro pins s σ H x v vl vu lo hi sl Q I rx hs pl pu h
 obtain ⟨a,xs,rfl,hx,hw,q⟩:=h
 cases rx
 obtain ⟨its,r,ht,hz⟩:=I.tuple hx
 have hlen:its.toArray.size=xs.length:=by rw [List.size_toArray];exact r.length.symm
 refine ⟨"tuple",_,PyProof.Rows.slot_tuple_getitem.lookup,ht.typeIs,?_⟩
 refine HT.getItem_tuple_cut ht hs pl pu (by rw [hlen];exact hw) ?_ (by rw [hlen];exact hz)
 rw [hlen]
 refine ⟨.ref s.heap.objs.size,_,I.laid (t':=s.toks) (o:=.tup (zgl xs lo hi)) (λb ob q=>qps _ q) (qlr _) ?_,rfl,q _ (I.hok.fresh (qlr _))⟩
 exact ⟨Nat.le_trans (zpx xs lo hi) hz,_,(r.drop (HT.sIx xs.length 0 lo)).take (HT.sIx xs.length xs.length hi-HT.sIx xs.length 0 lo),IsTD.new _ _⟩
def zmk (K:QFg):R2:=λx y H Q=>∃a b xs ys,x=.ref a/\y=.ref b/\SqT K H a xs/\SqT K H b ys/\xs≠[]/\xs.length+ys.length<=sizeLine /\
 (ys=[]->Q (.ref a) H)/\(ys≠[]->∀p,H p=none->Q (.ref p) (upd H p (.tup (xs++ys))))
theorem Vals.nil_iff {xs:List V}{us:List Value}(r:Vals xs us):us=[]↔xs=[]:=by
 cases r with
 | nil=>simp
 | cons _ _=>simp
theorem op_catT:OpR X (binaryOp .Add) (zmk X.K):=by
 intro pins s σ H x y v u Q I rx ry h
 obtain ⟨a,b,xs,ys,rfl,rfl,ha,hb,hx,hz,q1,q2⟩:=h
 cases rx
 cases ry
 obtain ⟨its,r1,p1,_⟩:=I.tuple ha
 obtain ⟨its2,r2,p2,_⟩:=I.tuple hb
 refine HT.cat_tup p1 p2 (λz=>hx (r1.nil_iff.mp z)) (λz=>⟨.ref a,H,I,rfl,q1 (r2.nil_iff.mp z)⟩) (λz=>?_) (by rw [<-r1.length,<-r2.length];exact hz)
 refine ⟨.ref s.heap.objs.size,_,I.laid (t':=s.toks) (o:=.tup (xs++ys)) (λb ob q=>qps _ q) (qlr _) ?_,rfl,q2 (λw=>z (r2.nil_iff.mpr w)) _ (I.hok.fresh (qlr _))⟩
 exact ⟨by rw [qla];exact hz,_,r1.append r2,IsTD.new _ _⟩
end
noncomputable def ixN (n:Nat) (i:Int):Option Nat:=if 0<=i then (if i<n then some i.toNat else none) else if -(n:Int)<=i then some (i+n).toNat else none
noncomputable def atI {α:Type}(xs:List α) (i:Int):Option α:=(ixN xs.length i).bind λj=>xs[j]?
theorem zpy {n:Nat}{i:Int}{j:Nat}(h:ixN n i=some j):seqIndex? i n=some j/\j<n/\-(n:Int)<=i/\i<n:=by
 unfold ixN at h
 by_cases h0:0<=i
 ·rw [if_pos h0] at h
  by_cases h1:i<n
  ·rw [if_pos h1] at h
   have e:i.toNat=j:=qoi h
   exact ⟨by rw [seqIndex_of h0 h1,e],by omega,by omega,h1⟩
  ·rw [if_neg h1] at h;cases h
 ·rw [if_neg h0] at h
  by_cases h1:-(n:Int)<=i
  ·rw [if_pos h1] at h
   have e:(i+n).toNat=j:=qoi h
   exact ⟨by rw [seqIndex_neg (by omega) h1,e],by omega,h1,by omega⟩
  ·rw [if_neg h1] at h;cases h
theorem atI_get {α:Type}{xs:List α}{i:Int}{v:α}(h:atI xs i=some v):∃j,seqIndex? i xs.length=some j/\xs[j]? = some v/\j<xs.length/\-(xs.length:Int)<=i/\i<xs.length:=by
 unfold atI at h
 cases e:ixN xs.length i with
 | none=>rw [e] at h;cases h
 | some j =>
  rw [e] at h
  obtain ⟨h1,h2,h3,h4⟩:=zpy e
  exact ⟨j,h1,h,h2,h3,h4⟩
def zpz (b:Expr):Prop:=∀o i,subscripted b false o i=operate [o,i] (getItem o i)
def IxR (X:Cx) (r:R2):Prop :=
 ∀(value slice:Expr) (pins:List (Addr × Obj)) (s:Shared) (σ:St) (H:Hp) (x y:V) (v u:Value) (Q:VK),Inv X pins σ H s->RelV x v->RelV y u->r x y H Q ->
  subscripted slice false v u=operate [v,u] (getItem v u)->wpAny (model X.prog X.w) X.A (subscriptTail value slice v u) (EP X pins σ Q) X.xe s
def MtR (X:Cx) (id:String) (r:V->List V->Hp->VK->Prop):Prop :=
 ∀(pins:List (Addr × Obj)) (s:Shared) (σ:St) (H:Hp) (x:V) (xs:List V) (v:Value) (us:List Value) (Q:VK),Inv X pins σ H s->RelV x v->Vals xs us->r x xs H Q ->
  wpAny (model X.prog X.w) X.A (call (.builtin id) (v :: us)) (EP X pins σ Q) X.xe s
section
variable {X:Cx}{a b:Expr}{ta tb:TE}{pos:Pos}
theorem IxR.or {r r':R2}(h:IxR X r) (h':IxR X r'):IxR X (λx y H Q=>r x y H Q\/r' x y H Q):=by
 intro value slice pins s σ H x y v u Q I rx ry q hs
 rcases q with q|q
 ·exact h value slice pins s σ H x y v u Q I rx ry q hs
 ·exact h' value slice pins s σ H x y v u Q I rx ry q hs
theorem zyp {r:R2}(hr:IxR X r) (ha:PE X a ta) (hb:PE X b tb) (hs:zpz b):PE X (.Subscript a b pos) (tOp r ta tb):=by
 intro pins s σ H Q I h
 exact Subscript_ (zmi ha hb I h λv u s2 x y H2 I2 rx ry q=>hr a b pins s2 σ H2 x y v u Q I2 rx ry q (hs _ _))
def zp0 (K:QFg):R2:=λx y H Q=>∃p xs i v,x=.ref p/\y=.int i/\SqL K H p xs/\atI xs i=some v/\Q v H
def zp1 (K:QFg):R2:=λx y H Q=>∃p xs i v,x=.ref p/\y=.int i/\SqT K H p xs/\atI xs i=some v/\Q v H
def zml:R2:=λx y H Q=>∃z i c,x=.str z/\y=.int i/\z.length<=sizeLine/\atI z.cps.toList i=some c/\Q (.str ⟨#[c]⟩) H
theorem ix_list:IxR X (zp0 X.K):=by
 intro value slice pins s σ H x y v u Q I rx ry h hs
 obtain ⟨p,xs,i,z,rfl,rfl,hq,he,q⟩:=h
 cases rx
 obtain ⟨t,rfl⟩:=ry
 obtain ⟨its,r,pl,hz⟩:=I.list hq
 obtain ⟨j,h1,h2,h3,h4,h5⟩:=atI_get he
 obtain ⟨w,ew,rw'⟩:=r.get h2
 have hl:=r.length
 have hn:=zir
 have fin:EP X pins σ Q w s:=⟨z,H,I,rw',q⟩
 by_cases h0:0<=i
 ·have hj:i.toNat=j:=by
   rw [seqIndex_of h0 h5] at h1
   exact qoi h1
  exact item_listR pl.isList h0 (by omega) (by rw [hj];simpa using ew) fin hs
 ·have hj:(i+(its.toArray.size:Int)).toNat=j:=by
   rw [seqIndex_neg (by omega) h4] at h1
   rw [List.size_toArray,<-hl]
   exact qoi h1
  exact subscriptTail_builtinR (x:=w) pl.isList.typeIs slot_list_getitem.lookup
   (wpAny_getItem_list_neg (Q:=λr s'=>r=w/\EP X pins σ Q r s') pl.isList (by omega) (by rw [List.size_toArray] <;> omega) (by omega) (by rw [hj];simpa using ew) ⟨rfl,fin⟩) hs
theorem ix_tup:IxR X (zp1 X.K):=by
 intro value slice pins s σ H x y v u Q I rx ry h hs
 obtain ⟨p,xs,i,z,rfl,rfl,hq,he,q⟩:=h
 cases rx
 obtain ⟨t,rfl⟩:=ry
 obtain ⟨its,r,pl,hz⟩:=I.tuple hq
 obtain ⟨j,h1,h2,h3,h4,h5⟩:=atI_get he
 obtain ⟨w,ew,rw'⟩:=r.get h2
 have hl:=r.length
 have hn:=zir
 have fin:EP X pins σ Q w s:=⟨z,H,I,rw',q⟩
 exact subscriptTail_builtinR (x:=w) pl.typeIs slot_tuple_getitem.lookup
  (getItem_tuple (j:=j) (Q:=λr s'=>r=w/\EP X pins σ Q r s') pl (by omega) (by omega) (by rw [List.size_toArray,<-hl];exact h1) (by simpa using ew) ⟨rfl,fin⟩) hs
theorem zyq:IxR X zml:=by
 intro value slice pins s σ H x y v u Q I rx ry h hs
 obtain ⟨z,i,c,rfl,rfl,hz,he,q⟩:=h
 obtain ⟨t,rfl⟩:=rx
 obtain ⟨t',rfl⟩:=ry
 obtain ⟨j,h1,h2,h3,h4,h5⟩:=atI_get he
 have hl:z.cps.toList.length=z.length:=by simp [Str.length]
 rw [hl] at h1 h4 h5
 have hn:=zir
 exact tail_any (typeIs_str s z t) slot_str_getitem.lookup (getItem_str (c:=c) (by
  have e1:decide (i < -(2 ^ 63:Int))=false:=decide_eq_false (by omega)
  have e2:decide (i ≥ 2 ^ 63)=false:=decide_eq_false (by omega)
  rw [e1,e2,Bool.or_false]) (by rw [h1];simpa using h2) ⟨.str ⟨#[c]⟩,H,I.tok _,⟨_,rfl⟩,q⟩) hs
def rIx (K:QFg):R2:=λx y H Q=>zp0 K x y H Q\/zp1 K x y H Q\/zml x y H Q
theorem zyr:IxR X (rIx X.K):=ix_list.or (ix_tup.or zyq)
theorem zys (its:List Value) (n j:Nat) (u:Value):Obj.mapSeq (·.setIfInBounds j u) { cls:=.type "list",data:=.seq its.toArray n }={ cls:=.type "list",data:=.seq (its.set j u).toArray n }:=by
 simp [Obj.mapSeq]
theorem Inv.lst {pins:List (Addr × Obj)}{σ:St}{H:Hp}{s:Shared}{p:Addr}{xs:List V}(I:Inv X pins σ H s) (h:H p=some (.lst xs)) :
  ∃(its:List Value) (n:Nat),Vals xs its/\s.heap.get? p=some { cls:=.type "list",data:=.seq its.toArray n }/\xs.length<=sizeLine:=by
 obtain ⟨z,its,n,r,e⟩:=I.hok p _ h
 exact ⟨its,n,r,e,z⟩
theorem Inv.lstUpd {pins:List (Addr × Obj)}{σ:St}{H:Hp}{s:Shared}{p:Addr}{xs ys:List V}{its its':List Value}{n n':Nat}{f:Obj->Obj}(I:Inv X pins σ H s) (h:H p=some (.lst xs))
  (ho:s.heap.get? p=some { cls:=.type "list",data:=.seq its.toArray n }) (hf:f { cls:=.type "list",data:=.seq its.toArray n }={ cls:=.type "list",data:=.seq its'.toArray n' }) (r:Vals ys its') (hz:ys.length<=sizeLine) (t:Nat) :
  Inv X pins σ (upd H p (.lst ys)) { s with heap:=s.heap.update p f,toks:=t }:=by
 have e:(s.heap.update p f).get? p=some { cls:=.type "list",data:=.seq its'.toArray n' }:=by
  rw [Heap.get?_update_self f ho (by rw [hf] <;> rfl),hf]
 refine I.write (x:=p) (e:=p) (by rw [h];trivial) (.inl rfl) (λb u hb q=>(Heap.get?_update_other _ _ (Ne.symm hb)).trans q) ⟨_,e⟩ ?_
 exact ⟨hz,its',n',r,e⟩
def rSetL:V->V->V->Hp->(Hp->Prop)->Prop:=λo i v H Q=>∃p xs k j,o=.ref p/\i=.int k/\H p=some (.lst xs)/\ixN xs.length k=some j/\Q (upd H p (.lst (xs.set j v)))
theorem zyt:zo3 X rSetL:=by
 intro pins s σ H o i v ov iv u Q I ro ri rv h
 obtain ⟨p,xs,k,j,rfl,rfl,hp,hj,q⟩:=h
 cases ro
 obtain ⟨t,rfl⟩:=ri
 obtain ⟨its,n,r,ho,hz⟩:=I.lst hp
 obtain ⟨h1,h2,h3,h4⟩:=zpy hj
 have hl:=r.length
 have hn:=zir
 have I':Inv X pins σ (upd H p (.lst (xs.set j v))) { s with heap:=s.heap.update p (Obj.mapSeq (·.setIfInBounds j u)) } :=
  I.lstUpd hp ho (zys its n j u) (r.set rv j) (by rw [List.length_set];exact hz) s.toks
 by_cases h0:0<=k
 ·have hk:k.toNat=j:=by
   rw [seqIndex_of h0 h4] at h1
   exact qoi h1
  exact PySem.W.ki_setAt ho h0 (by omega) (by rw [List.size_toArray,<-hl];exact h4) (by rw [hk];exact ⟨_,I',q⟩)
 ·have hk:(k+(its.toArray.size:Int)).toNat=j:=by
   rw [seqIndex_neg (by omega) h3] at h1
   rw [List.size_toArray,<-hl]
   exact qoi h1
  exact PySem.W.ki_setBack ho (by omega) (by rw [List.size_toArray,<-hl];exact h3) (by omega) (by rw [hk];exact ⟨_,I',q⟩)
theorem zyu (lo hi:Option Int) (n:Nat):(sliceBounds lo hi none n).1=((HT.sIx n 0 lo:Nat):Int)/\(sliceBounds lo hi none n).2.1=((HT.sIx n n hi:Nat):Int)/\(sliceBounds lo hi none n).2.2=1:=by
 refine ⟨?_,?_,rfl⟩
 ·cases lo with
  | none=>simp [sliceBounds,HT.sIx]
  | some i =>
   simp only [sliceBounds,HT.sIx,Option.getD_none,show (1:Int) > 0 by decide,if_true]
   by_cases h:i<0
   ·simp only [h,if_true] <;> omega
   ·simp only [h,if_false] <;> omega
 ·cases hi with
  | none=>simp [sliceBounds,HT.sIx]
  | some i =>
   simp only [sliceBounds,HT.sIx,Option.getD_none,show (1:Int) > 0 by decide,if_true]
   by_cases h:i<0
   ·simp only [h,if_true] <;> omega
   ·simp only [h,if_false] <;> omega
theorem zyv (its:List Value) (lo hi:Option Int):slicePick its.toArray lo hi none=((its.drop (HT.sIx its.length 0 lo)).take (HT.sIx its.length its.length hi-HT.sIx its.length 0 lo)).toArray:=by
 obtain ⟨h1,h2,h3⟩:=zyu lo hi its.toArray.size
 unfold slicePick
 rw [h1,h2,h3]
 simp only [sliceRange_one,pick_run,List.size_toArray] <;> rfl
def zyw (K:QFg):V->Option Int->Option Int->Hp->VK->Prop:=λx lo hi H Q=>∃a xs,x=.ref a/\SqL K H a xs/\∀p,H p=none->Q (.ref p) (upd H p (.lst (zgl xs lo hi)))
theorem zyx:SlR X (zyw X.K):=by
 intro pins s σ H x v vl vu lo hi sl Q I rx hs pl pu h
 obtain ⟨a,xs,rfl,hx,q⟩:=h
 cases rx
 obtain ⟨its,r,ht,hz⟩:=I.list hx
 have hlen:=r.length
 refine ⟨"list",_,slot_list_getitem.lookup,ht.isList.typeIs,?_⟩
 refine wpAny_getItem_list_slice ht.isList hs pl pu .none (by simp) ?_ (by rw [List.size_toArray] <;> omega)
 rw [zyv,<-hlen]
 refine ⟨.ref s.heap.objs.size,_,I.laid (t':=s.toks) (o:=.lst (zgl xs lo hi)) (λb ob q=>qps _ q) (qlr _) ?_,rfl,q _ (I.hok.fresh (qlr _))⟩
 exact ⟨Nat.le_trans (zpx xs lo hi) hz,_,0,(r.drop (HT.sIx xs.length 0 lo)).take (HT.sIx xs.length xs.length hi-HT.sIx xs.length 0 lo),Heap.get?_push_size _ rfl⟩
theorem call_len_seq:CallR X (.builtin "len") (λxs H Q=>∃p ys,xs=[.ref p]/\(SqL X.K H p ys\/SqT X.K H p ys)/\Q (.int ys.length) H):=by
 intro pins s σ H xs us Q I r h
 obtain ⟨p,ys,rfl,hq,q⟩:=h
 obtain ⟨u,rfl,rx⟩:=zgk r
 cases rx
 have hn:=zir
 rcases hq with hq|hq
 ·obtain ⟨its,r',pl,hz⟩:=I.list hq
  have hlen:=r'.length
  exact Calls.call_len_list pl.isList (by simp only [List.size_toArray] <;> omega) ⟨.int ys.length,H,I.tok _,⟨s.toks+1,by rw [List.size_toArray,hlen]⟩,q⟩
 ·obtain ⟨its,r',pl,hz⟩:=I.tuple hq
  have hlen:=r'.length
  exact len_tuple pl (by simp only [List.size_toArray] <;> omega) ⟨.int ys.length,H,I.tok _,⟨s.toks+1,by rw [List.size_toArray,hlen]⟩,q⟩
theorem zyy:CallR X (.builtin "len") (λxs H Q=>∃z,xs=[.str z]/\z.length<=sizeLine/\Q (.int z.length) H):=by
 intro pins s σ H xs us Q I r h
 obtain ⟨z,rfl,hz,q⟩:=h
 obtain ⟨u,rfl,t,rfl⟩:=zgk r
 have hn:=zir
 exact len_str (by omega) ⟨.int z.length,H,I.tok _,⟨_,rfl⟩,q⟩
theorem CallR.or {f:Value}{r r':List V->Hp->VK->Prop}(h:CallR X f r) (h':CallR X f r'):CallR X f (λxs H Q=>r xs H Q\/r' xs H Q):=by
 intro pins s σ H xs us Q I rs q
 rcases q with q|q
 ·exact h pins s σ H xs us Q I rs q
 ·exact h' pins s σ H xs us Q I rs q
theorem zyz:CallR X (.type "list") (λxs H Q=>∃p ys,xs=[.ref p]/\(SqL X.K H p ys\/SqT X.K H p ys)/\∀l,H l=none->Q (.ref l) (upd H l (.lst ys))):=by
 intro pins s σ H xs us Q I r h
 obtain ⟨p,ys,rfl,hq,q⟩:=h
 obtain ⟨u,rfl,rx⟩:=zgk r
 cases rx
 have fin:∀(its:List Value),Vals ys its->ys.length<=sizeLine->∀(h':Heap) (c':Nat),(∀b o',s.heap.get? b=some o'->h'.get? b=some o') ->
   h'.get? s.heap.objs.size=some { cls:=.type "list",dict:=none,data:=.seq its.toArray c',slots:=#[] }->EP X pins σ Q (.ref s.heap.objs.size) { s with heap:=h' }:=λits r' hz h' c' kp e =>
  ⟨.ref s.heap.objs.size,_,I.laid (t':=s.toks) kp (qlr _) (show ObjOk X.prog X.w _ h' _ (.lst ys) from ⟨hz,its,c',r',e⟩),rfl,q _ (I.hok.fresh (qlr _))⟩
 rcases hq with hq|hq
 ·obtain ⟨its,r',pl,hz⟩:=I.list hq
  have hlen:=r'.length
  obtain ⟨o,ho,hc,n,hd⟩:=pl.isList
  exact call_list_seq p (.inl rfl) ho hc hd (λh' c' kp e=>fin its r' hz h' c' kp e) (by simp only [List.size_toArray] <;> omega)
 ·obtain ⟨its,r',pl,hz⟩:=I.tuple hq
  have hlen:=r'.length
  obtain ⟨o,ho,hc,n,hd⟩:=pl
  exact call_list_seq p (.inr rfl) ho hc hd (λh' c' kp e=>fin its r' hz h' c' kp e) (by simp only [List.size_toArray] <;> omega)
theorem zp2:CallR X (.type "tuple") (λxs H Q=>∃p ys,xs=[.ref p]/\((SqL X.K H p ys/\∀l,H l=none->Q (.ref l) (upd H l (.tup ys)))\/(SqT X.K H p ys/\Q (.ref p) H))):=by
 intro pins s σ H xs us Q I r h
 obtain ⟨p,ys,rfl,h⟩:=h
 obtain ⟨u,rfl,rx⟩:=zgk r
 cases rx
 rcases h with ⟨hq,q⟩|⟨hq,q⟩
 ·obtain ⟨its,r',pl,hz⟩:=I.list hq
  have hlen:=r'.length
  refine call_tuple_list pl.isList (λh' kp=>?_) (by simp only [List.size_toArray] <;> omega)
  have I1:Inv X pins σ H { s with heap:=h' }:=I.kept (t':=s.toks) kp
  have I2:Inv X pins σ (upd H h'.objs.size (.tup ys)) { s with heap:=h'.push { cls:=.type "tuple",data:=.seq its.toArray } } :=
   I1.laid (t':=s.toks) (λb o e=>qps _ e) (qlr _) (show ObjOk X.prog X.w _ _ _ (.tup ys) from ⟨hz,its,r',IsTD.new _ _⟩)
  exact ⟨.ref h'.objs.size,_,I2,rfl,q _ (I1.hok.fresh (qlr _))⟩
 ·obtain ⟨its,r',pl,hz⟩:=I.tuple hq
  exact call_tuple_same pl ⟨.ref p,H,I,rfl,q⟩
def tyV (K:QFg) (T:String) (x:V) (H:Hp):Prop:=match x with
 | .str _=>T = "str"
 | .int _=>T = "int"
 | .ref p=>(T = "list"/\∃xs,SqL K H p xs)\/(T = "tuple"/\∃o,K.lookup p=some o/\o.cls=.type "tuple"/\o.dict=none) \/
   (T = "dict"/\((∃kvs,H p=some (.dK kvs))\/∃kvs,H p=some (.dT kvs)))\/(T = "set"/\∃S n,H p=some (.set S n))
 | _=>False
theorem zy0 {pins:List (Addr × Obj)}{σ:St}{H:Hp}{s:Shared}{T:String}{x:V}{v:Value}(I:Inv X pins σ H s) (r:RelV x v) (ty:tyV X.K T x H) :
  s.TypeIs v T/\∀a,v=.ref a->∃ob,s.heap.get? a=some ob/\ob.dict=none:=by
 cases x with
 | str z =>
  obtain ⟨t,rfl⟩:=r
  cases (show T = "str" from ty)
  exact ⟨typeIs_str s z t,λ_ e=>nomatch e⟩
 | int i =>
  obtain ⟨t,rfl⟩:=r
  cases (show T = "int" from ty)
  exact ⟨typeIs_int s i t,λ_ e=>nomatch e⟩
 | ref p =>
  cases r
  rcases ty with ⟨rfl,xs,hq⟩|⟨rfl,o,hk,hc,hd⟩|⟨rfl,hk⟩|⟨rfl,S,n,hk⟩
  ·obtain ⟨its,_,pl,_⟩:=I.list hq
   refine ⟨pl.isList.typeIs,λa e=>?_⟩
   cases e
   obtain ⟨o,n,e,c,hd,_⟩:=pl
   exact ⟨o,e,hd⟩
  ·refine ⟨⟨o,I.kIn p o hk,hc⟩,λa e=>?_⟩
   cases e
   exact ⟨o,I.kIn _ o hk,hd⟩
  ·have z:∃o,s.heap.get? p=some o/\o.ExactDict:=by
    rcases hk with ⟨kvs,hk⟩|⟨kvs,hk⟩
    ·obtain ⟨_,_,_,_,o,_,_,e,ex,_⟩:=I.hok p _ hk
     exact ⟨o,e,ex⟩
    ·obtain ⟨_,_,_,_,o,_,_,e,ex,_⟩:=I.hok p _ hk
     exact ⟨o,e,ex⟩
   obtain ⟨o,e,ex⟩:=z
   refine ⟨⟨o,e,ex.1⟩,λa e2=>?_⟩
   cases e2
   exact ⟨o,e,ex.2.1⟩
  ·obtain ⟨o,_,_,_,e,ex,_⟩:=I.hok p _ hk
   refine ⟨⟨o,e,ex.1⟩,λa e2=>?_⟩
   cases e2
   exact ⟨o,e,ex.2.1⟩
 | _=>exact False.elim ty
def tBM (K:QFg) (T:String) (r:V->List V->Hp->VK->Prop) (to:TE) (t:TA):TE:=λσ H Q=>to σ H λx H1=>tyV K T x H1/\t σ H1 λxs H2=>r x xs H2 Q
variable {o e:Expr}{es:List Expr}{to:TE}{t:TA}{name:Str}{apos cpos:Pos}{T id:String}{r:V->List V->Hp->VK->Prop}
theorem zkw (pa:PlainAttrs T) (slot:Slot T name id) (hty:typeOf (.builtin id)=pure (.type "method_descriptor")) (hm:MtR X id r) (ho:PE X o to) (ha:PA X (e :: es) t)
  (hbase:attributeBase o name X.env (eval o X.env)=eval o X.env:=by rfl)
  (hfew:((backTo cpos (starEach (e :: es) X.env)).all (λx=>!x.1) && (backToKw cpos (keywordEach [] X.env)).all (λx=>x.1.isSome)
   && decide ((e :: es).length+([]:List Keyword).length+(if ([]:List Keyword).isEmpty then 0 else 1)<30))=true:=by rfl)
  (hline:(apos.endLine == cpos.line)=true:=by rfl) (hs:starEach (e :: es) X.env=(false,eval e X.env) :: starEach es X.env:=by rfl) (hplain:(backTo cpos (starEach es X.env)).any (·.1)=false:=by rfl) :
  PE X (.Call (.Attribute o name apos) (e :: es) [] cpos) (tBM X.K T r to t):=by
 intro pins s σ H Q I h
 refine wpAny_Call_method_late hbase hfew hline rfl (thn (ho pins s σ H _ I h) λv s1 ⟨x,H1,I1,r1,ty,q1⟩=>?_)
 obtain ⟨h1,h2⟩:=zy0 I1 r1 ty
 refine ⟨T,id,pa,slot,hty,h1,h2,?_⟩
 have hA:=ha cpos pins s1 σ H1 _ I1 q1
 rw [hs] at hA ⊢
 refine Calls.callWith_builtin (by show (false || (backTo cpos (starEach es X.env)).any (·.1))=false;rw [hplain] <;> rfl) (Calls.evalArgs_plain ?_)
 exact thn hA λus s2 ⟨vs,H2,I2,r2,q2⟩=>hm pins s2 σ H2 x vs v us Q I2 r1 r2 q2
end
def MtM (X:Cx) (id:String) (r:V->List V->Hp->VK->Prop):Prop :=
 ∀(pins:List (Addr × Obj)) (s:Shared) (σ:St) (H:Hp) (x:V) (xs:List V) (v:Value) (us:List Value) (Q:VK),Inv X pins σ H s->RelV x v->Vals xs us->r x xs H Q ->
  wpAny (model X.prog X.w) X.A (call (.builtin id) (v :: us)) (EP X pins σ Q) X.xe s
theorem Vals.one:∀{x:V}{us:List Value},Vals [x] us->∃u,us=[u]/\RelV x u
 | _,_,.cons r .nil=>⟨_,rfl,r⟩
theorem Vals.two {x y:V}{us:List Value}(h:Vals [x,y] us):∃u v,us=[u,v]/\RelV x u/\RelV y v:=by
 cases h with
 | cons r t =>
  cases t with
  | cons q t2=>cases t2;exact ⟨_,_,rfl,r,q⟩
theorem Vals.zero:∀{us:List Value},Vals [] us->us=[]
 | _,.nil=>rfl
theorem Vals.rep {xs:List V}{us:List Value}(h:Vals xs us):∀k:Nat,Vals (List.replicate k xs).flatten (List.replicate k us).flatten
 | 0=>.nil
 | k+1=>by
  rw [List.replicate_succ,List.replicate_succ,List.flatten_cons,List.flatten_cons]
  exact Vals.append h (Vals.rep h k)
theorem zmm (its:List Value):∀(k:Nat) (acc:List Value),
  List.foldl (λx1 x2=>x1++x2) acc.toArray (List.replicate k its.toArray)=(acc++(List.replicate k its).flatten).toArray
 | 0,acc=>by simp
 | k+1,acc=>by
  have e:acc.toArray++its.toArray=(acc++its).toArray:=by simp
  have e2:(acc++its)++(List.replicate k its).flatten=acc++(List.replicate (k+1) its).flatten:=by
   rw [List.replicate_succ,List.flatten_cons,List.append_assoc]
  rw [<-e2,<-zmm its k (acc++its),<-e,List.replicate_succ,List.foldl_cons]
section
variable {X:Cx}{pins:List (Addr × Obj)}{σ:St}{H:Hp}{s:Shared}{l b:Addr}{xs ys zs:List V}
theorem Inv.lset {its its':List Value}{n:Nat}{f:Array Value->Array Value}{t':Nat}(I:Inv X pins σ H s) (hH:H l=some (.lst xs))
  (e:s.heap.get? l=some { cls:=.type "list",data:=.seq its.toArray n }) (hf:f its.toArray=its'.toArray) (hv:Vals ys its') (hz:ys.length<=sizeLine) :
  Inv X pins σ (upd H l (.lst ys)) { s with heap:=s.heap.update l (Obj.mapSeq f),toks:=t' }:=by
 have q:=PySem.IsL.update e f
 rw [hf] at q
 refine I.write (x:=l) (e:=l) (by rw [hH];exact trivial) (.inl rfl) (λb' u hb hu=>(Heap.get?_update_other s.heap (Obj.mapSeq f) (Ne.symm hb)).trans hu) ⟨_,q⟩ ?_
 exact ⟨hz,its',_,hv,q⟩
theorem Inv.lnew {its:List Value}{t':Nat}(I:Inv X pins σ H s) (hv:Vals ys its) (hz:ys.length<=sizeLine) :
  Inv X pins σ (upd H s.heap.objs.size (.lst ys)) { s with heap:=s.heap.push { cls:=.type "list",data:=.seq its.toArray },toks:=t' } :=
 I.laid (λ_ _ q=>qps _ q) (qlr _) ⟨hz,its,0,hv,Heap.get?_push_size _ rfl⟩
theorem Inv.fresh (I:Inv X pins σ H s):H s.heap.objs.size=none:=I.hok.fresh (qlr _)
theorem Inv.lstM (I:Inv X pins σ H s) (hH:H l=some (.lst xs)):xs.length<=sizeLine/\∃(its:List Value) (n:Nat),Vals xs its/\xs.length=its.length/\s.heap.get? l=some { cls:=.type "list",data:=.seq its.toArray n }:=by
 obtain ⟨z,its,n,r,e⟩:=I.hok l _ hH
 exact ⟨z,its,n,r,r.length,e⟩
theorem zy1 {n:Nat}(h:n<=sizeLine):Builtin.List.listTooLong n=false:=by
 unfold Builtin.List.listTooLong
 exact decide_eq_false (by omega)
end
section
variable {X:Cx}
def zp3:V->List V->Hp->VK->Prop:=λx vs H Q=>∃l xs y,x=.ref l/\vs=[y]/\H l=some (.lst xs)/\xs.length<sizeLine/\Q .non (upd H l (.lst (xs++[y])))
theorem zp4:MtM X "list.append" zp3:=by
 intro pins s σ H x vs v us Q I rx rv h
 obtain ⟨l,xs,y,rfl,rfl,hH,hz,q⟩:=h
 cases rx
 obtain ⟨u,rfl,ru⟩:=rv.one
 obtain ⟨z,its,n,r,hl,e⟩:=I.lstM hH
 refine call_meets F.slot_list_append ⟨_,e,rfl⟩ F.entry_list_append (F.args_list_append_2 _ _) (PySem.list_append l its.toArray n u (by rw [List.size_toArray];omega)) ⟨e,?_⟩
 refine ⟨.non,_,I.lset (its':=its++[u]) hH e (by simp) (r.append (.cons ru .nil)) ?_,rfl,q⟩
 rw [qla,List.length_singleton]
 omega
def zp5:R2:=λx y H Q=>∃l b xs zs,x=.ref l/\y=.ref b/\H l=some (.lst xs)/\H b=some (.lst zs)/\xs.length+zs.length<=sizeLine/\∀p,H p=none->Q (.ref p) (upd H p (.lst (xs++zs)))
theorem zy2:OpR X (binaryOp .Add) zp5:=by
 intro pins s σ H x y v u Q I rx ry h
 obtain ⟨l,b,xs,zs,rfl,rfl,hH,hB,hz,q⟩:=h
 cases rx
 cases ry
 obtain ⟨z,its,n,r,hl,e⟩:=I.lstM hH
 obtain ⟨z2,its2,n2,r2,hl2,e2⟩:=I.lstM hB
 refine PySem.P.add_list e e2 ?_ (by rw [List.size_toArray,List.size_toArray];omega)
 have ea:its.toArray++its2.toArray=(its++its2).toArray:=by simp
 rw [ea]
 exact ⟨.ref _,_,I.lnew (t':=s.toks) (r.append r2) (by rw [qla];omega),rfl,q _ I.fresh⟩
def zp6:R2:=λx y H Q=>∃l k xs,x=.ref l/\y=.int k/\H l=some (.lst xs)/\-(2 ^ 63)<=k/\k<2 ^ 63/\xs.length*k.toNat<=sizeLine /\
 ∀p,H p=none->Q (.ref p) (upd H p (.lst (List.replicate k.toNat xs).flatten))
theorem zmn {α:Type}(xs:List α) (k:Nat):(List.replicate k xs).flatten.length=k*xs.length:=by
 induction k with
 | zero=>simp
 | succ k ih=>rw [List.replicate_succ,List.flatten_cons,qla,ih,Nat.succ_mul,Nat.add_comm]
theorem zy3:OpR X (binaryOp .Mult) zp6:=by
 intro pins s σ H x y v u Q I rx ry h
 obtain ⟨l,k,xs,rfl,rfl,hH,h1,h2,hz,q⟩:=h
 cases rx
 obtain ⟨t,rfl⟩:=ry
 obtain ⟨z,its,n,r,hl,e⟩:=I.lstM hH
 have hlen:its.toArray.size*k.toNat<=sizeLine:=by rw [List.size_toArray,<-hl];exact hz
 have hcap:¬its.toArray.size*k.toNat > (2 ^ 63-1) / 8:=by
  have:(sizeLine:Nat)<=(2 ^ 63-1) / 8:=by decide
  omega
 have hfit:¬(!Builtin.List.listFitsIndex k)=true:=by
  rw [fitsIndex_both h1 h2]
  exact Bool.false_ne_true
 have hlong:¬Builtin.List.listTooLong (its.toArray.size*k.toNat)=true:=by
  rw [zy1 hlen]
  exact Bool.false_ne_true
 have hnew:List.foldl (λx1 x2=>x1++x2) #[] (List.replicate (if its.toArray.isEmpty=true then 0 else k.toNat) its.toArray)=(List.replicate k.toNat its).flatten.toArray:=by
  have f0:∀m:Nat,List.foldl (λx1 x2=>x1++x2) #[] (List.replicate m its.toArray)=(List.replicate m its).flatten.toArray:=λm=>by
   have:=zmm its m []
   rw [List.nil_append] at this
   exact this
  rw [f0]
  cases its with
  | nil=>simp
  | cons a r'=>rw [if_neg (by simp)]
 refine wpAny_binaryOp_repeat_ref (T:="list") (U:="int") (by decide) ⟨_,e,rfl⟩ (λs'=>typeIs_int s' k t) noFill_list_mul F.fills_int_mul F.slot_int_rmul repeat_list F.slot_int_index.lookup
  (call_meets F.slot_int_rmul (typeIs_int s k t) F.entry_int_rmul (F.args_int_rmul_2 _ _) (int___rmul___int_list k t l its.toArray n)
   ⟨e,rfl,⟨_,e,rfl⟩,call_meets F.slot_list_mul ⟨_,e,rfl⟩ F.entry_list_mul (F.args_list_mul_2 _ _) (AutoListH.list___mul___list_int_3 l its.toArray n k t hfit hcap hlong) ⟨e,?_⟩⟩)
 rw [hnew]
 exact ⟨.ref _,_,I.lnew (t':=s.toks) (r.rep k.toNat) (by rw [zmn,Nat.mul_comm];exact hz),rfl,q _ I.fresh⟩
end
section
variable {prog:Program}{w:World}{A:Around}{E:Value->Shared->Prop}{s:Shared}
end
section
variable {X:Cx}
end
end L2
namespace Att
open PySem PySem.W PySem.Calls PyProof.Rows
theorem zy4 {P:Params}{h:Heap}:∀(ns:List Int) (vs:List Value),WellAll P h vs (ns.map WData.int)->IntsAre vs ns:=by
 intro ns
 induction ns with
 | nil =>
  intro vs w
  rw [List.map_nil] at w
  cases w
  exact .nil
 | cons n ns ih =>
  intro vs w
  rw [List.map_cons] at w
  cases w with
  | cons a b =>
   cases a
   exact .cons _ _ (ih _ b)
theorem zy5 {l:OpenLaw}{n:Nat}(hn:l.most=some n) {P:Params}{h:Heap}{args:List WData}{vals:List Value}
  (hpre:l.row.toRowW.claim.pre args=true) (hwl:WellAll P h vals args) :
  ∃a vs ns,vals=[Value.ref a]/\args=[WData.list (ns.map WData.int)]/\h.get? a=some { cls:=.type "list",data:=.seq vs.toArray }/\IntsAre vs ns/\ns.length<=n:=by
 have hsh:WShape.hasAll [] args [.list .int]=true:=(pre_splitW hpre).1
 have hc:l.pre.holds [] { args:=args }=true:=(pre_splitW hpre).2
 obtain ⟨d,r,rfl,h1,h2⟩:=hasAllW_cons hsh
 obtain rfl:=hasAllW_nil h2
 obtain ⟨xs,rfl,h3⟩:=hasW_list h1
 obtain ⟨ns,rfl⟩:=items_int h3
 have hlen:ns.length<=n:=by
  unfold OpenLaw.pre at hc
  have h4:(WTm.not (.lt (.lit (.int (n:Int))) (.len (.arg 0)))).holds [] { args:=[.list (ns.map .int)] }=true:=by
   have h4:=(holds_andW hc).1
   rw [hn] at h4
   exact h4
  have h5:=condW_of h4 (w_not (w_lt w_lit (w_len_list (w_arg rfl))))
  rw [qlm] at h5
  refine Nat.le_of_not_lt λq=>?_
  have q':(n:Int)<((ns.length:Nat):Int):=by omega
  first
   | (rw [decide_eq_true q'] at h5;exact absurd h5 (by decide))
   | (simp at h5;omega)
 cases hwl with
 | cons w1 w2 =>
  cases w2
  cases w1 with
  | list ho hall=>exact ⟨_,_,ns,rfl,rfl,ho,zy4 ns _ hall,hlen⟩
theorem zy6 (l:OpenLaw) (args:List WData):l.row.toRowW.claim.post args (.bool true) args=true :=
 postW_of (r:=l.row.toRowW) (X:=(true == true))
  (show WShape.has [] (.bool true) .bool=true by first|rfl|decide|simp [WShape.has,WShape.arms,WShape.armsAll])
  (show (WTm.eq .res (.lit (.bool true))).value [] { args:=args,res:=some (.bool true),after:=args }=some (.bool (true == true)) from w_eq_bool (w_res rfl) w_lit) rfl
theorem attach_call {l:OpenLaw}{n:Nat}{q:Program}{loose:List Str}{XP:(Str->Option Value)->Heap->Prop}{YP:World->Heap->Prop}{d:DefRec}
  (hn:l.most=some n) (hdf:d.params.defaults=[])
  (call:∀(w:World) (s₀ s₁:Shared) (mg mb:Str->Option Value) (fa:Addr) (o:Obj) (pm cd doc:Value) (a:Addr) (vs:List Value) (ns:List Int),
   Ground q loose [] XP w s₀ mg mb s₁.heap->YP w s₁.heap ->
   s₁.heap.get? fa=some o->o.data=.func (docDef d.name d.params d.body d.scope pm cd doc)->s₁.heap.CodeRec cd d.name->mg d.name=some (.ref fa) ->
   s₁.heap.get? a=some { cls:=.type "list",data:=.seq vs.toArray }->IntsAre vs ns->ns.length<=n->s₁.gens = #[] ->
   codeAny (model l.prog w) callerA (.call (.ref fa) ⟨[.ref a],[]⟩) (λr s'=>r=.ok (.ret (.bool true))/\OldK s₁.heap s'.heap/\s'.os=s₁.os/\AllBare s'.gens) s₁) :
  WalkO q loose XP YP l.row.toRowW d [] (λf vs=>PySem.call f vs):=by
 intro w s₀ s₁ mg mb G Y fa o pm cd doc dV kV ho hd hcd hD hmg hg args vals as hpre hlay hrd hwl hlo
 obtain rfl:dV=.none:=Dflts.none hD hdf
 obtain rfl:kV=.none:=Dflts.noKw hD
 obtain ⟨a,vs,ns,rfl,rfl,hobj,hints,hlen⟩:=zy5 hn hpre hwl
 refine enter_call (codeAny_mono (call w s₀ s₁ mg mb fa o pm cd doc a vs ns G Y ho (fd_plain hd) hcd hmg hobj hints hlen hg) λr s' hq=>?_)
 obtain ⟨rfl,h2,h3,h4⟩:=hq
 exact ⟨.inl ⟨.bool true,.bool true,[],rfl,λ_=>rfl,.bool true,zy6 l _,λ_=>⟨List.Pairwise.nil,λ_ hm=>(nomatch hm)⟩⟩,h2,h3,h4⟩
section
variable {prog:Program}{w:World}{A:Around}{E:Value->Shared->Prop}{s:Shared}{K:Frag}
end
end Att
namespace L2
open PySem PySem.Spec PyProof.Rows
theorem zp7:∀{vs:List Value}{ns:List Int},IntsAre vs ns->Vals (ns.map V.int) vs
 | _,_,.nil=>.nil
 | _,_,.cons n t h=>.cons ⟨t,rfl⟩ (zp7 h)
def zkx (H:Hp):Prop:=∀b,H b=none\/∃o xs,H b=some (.frz o (.lst xs))
theorem zy7 {P:Program}{w:World}{K:QFg}{mg mb:Str->Option Value}{CX:CXT}{k:Nat}{fa a:Addr}{fd:FuncData}{x:Str}{sp:Sp}{s₁:Shared}{vs:List Value}{ns:List Int}
  (KX:K.In s₁.heap) (hns:s₁.heap.Ns mainGlobals mg) (hb:s₁.heap.Ns builtinsNs mb) (hbb:∀x:Str,x≠"__name__"->mb x=bootBuiltins x) (hlim:s₁.heap.NoLimit) (hg:s₁.gens = #[])
  (ha:s₁.heap.get? a=some { cls:=.type "list",data:=.seq vs.toArray }) (hi:IntsAre vs ns) (hl:ns.length<=sizeLine) (hr:Room k callerA)
  (F:∀base:Heap,K.In base->base.Ns mainGlobals mg->FnOk P w K mg base CX k fa fd [x] sp) (hbind:∀(s:Shared) (u:Value),BindsTo s fd ⟨[u],[]⟩ [(x,u)])
  (hsp:∀H:Hp,zkx H->SqL K H a (ns.map V.int)->sp [.ref a] H (λv _=>v=.bl true) λ_ _ _=>False)
  (hCX:∀H e s',CX [] H s₁ (λ_ _ _=>False) e s'->False) :
  codeAny (model P w) callerA (.call (.ref fa) ⟨[.ref a],[]⟩) (λr s'=>r=.ok (.ret (.bool true))/\OldK s₁.heap s'.heap/\s'.os=s₁.os/\AllBare s'.gens) s₁:=by
 have rv:=zp7 hi
 have lenV:=hi.length
 have core:∀H:Hp,zkx H->SqL K H a (ns.map V.int)->HOk P w H s₁.heap->(∀b,H b≠none->b=a)->(H a≠none->K.lookup a=none) ->
   codeAny (model P w) callerA (.call (.ref fa) ⟨[.ref a],[]⟩) (λr s'=>r=.ok (.ret (.bool true))/\OldK s₁.heap s'.heap/\s'.os=s₁.os/\AllBare s'.gens) s₁:=by
  intro H hO hS hok hA hK
  have base_of:∀{b:Addr} {o:Obj},s₁.heap.get? b=some o->H b=none->(zg1 s₁.heap H).get? b=some o:=λe n=>zv6 e n
  have noA:∀{b:Addr} {o:Obj} {es:Array DictEntry} {ep:Nat},s₁.heap.get? b=some o->o.data=.dict es ep->H b=none:=λ{b o es ep} e d=>by
   cases q:H b with
   | none=>rfl
   | some u =>
    have e':b=a:=hA b (by rw [q];simp)
    subst e'
    rw [ha] at e;cases e
    have d':Data.seq vs.toArray _=Data.dict es ep:=d
    cases d'
  have nsK:∀{b:Addr} {m:Str->Option Value},s₁.heap.Ns b m->(zg1 s₁.heap H).Ns b m:=λ{b m} ⟨o,es,ep,e,d,r⟩=>⟨o,es,ep,base_of e (noA e d),d,r⟩
  have hKb:K.In (zg1 s₁.heap H):=λb o e=>base_of (KX b o e) (by
   cases q:H b with
   | none=>rfl
   | some u =>
    have e':b=a:=hA b (by rw [q];simp)
    subst e'
    rw [hK (by rw [q];simp)] at e;cases e)
  have hM:Mod K mg (zg1 s₁.heap H):=⟨hKb,nsK hns,⟨mb,nsK hb,hbb⟩,let ⟨mc,h1,h2⟩:=hlim;⟨mc,nsK h1,h2⟩⟩
  have e0:Env0 P w K mg (zg1 s₁.heap H) callerA [] s₁ H:=⟨rfl,hM,λb o e=>zv7 e,Nat.le_of_eq (zv5 _ _),trivial,λb hb=>absurd (show b∈([]:List Addr) from hb) (by simp),hok,.of_eq hg⟩
  refine codeAny_mono ((F _ hKb (nsK hns)).run callerA [] s₁ H ⟨[.ref a],[]⟩ [.ref a] [.ref a] _ _ hr e0 (hbind s₁ (.ref a)) (.cons rfl .nil) (hsp H hO hS)) λr s' h=>?_
  cases r with
  | error e=>exact (hCX H e s' h).elim
  | ok fl =>
   cases fl with
   | next=>exact False.elim h
   | brk=>exact False.elim h
   | cont=>exact False.elim h
   | ret u =>
    obtain ⟨v,H',os,bare,un,hok',r',q⟩:=h
    have q':v=.bl true:=q
    subst q'
    obtain rfl:u=Value.bool true:=r'
    refine ⟨rfl,OldK.of_keep λb o e=>?_,os,bare⟩
    cases q:H b with
    | none=>exact un.keep b o e q (by intro z;exact absurd (show b∈([]:List Addr) from z) (by simp)) (by simp)
    | some u =>
     rcases hO b with z|⟨ob,xs,z⟩
     ·rw [q] at z;cases z
     ·have z2:=un.frzs b ob _ z
      obtain ⟨e1,_⟩:=hok b _ z
      obtain ⟨e2,_⟩:=hok' b _ z2
      rw [e] at e1;cases e1
      exact e2
 cases hk:K.lookup a with
 | some o =>
  have e:=KX a o hk
  rw [ha] at e
  cases e
  refine core (λ_=>none) (λ_=>.inl rfl) (.inr ⟨_,vs.toArray,_,hk,rfl,rfl,rfl,by rw [List.size_toArray,lenV];exact hl,by simpa using rv⟩) (λb u z=>by have z':(none:Option HO)=some u:=z;cases z') (λb z=>absurd rfl z) λz=>absurd rfl z
 | none =>
  refine core (λb=>if b=a then some (.frz { cls:=.type "list",data:=.seq vs.toArray } (.lst (ns.map V.int))) else none) (λb=>?_) (.inl (.inr ⟨{ cls:=.type "list",data:=.seq vs.toArray },if_pos rfl⟩)) (λb u z=>?_) (λb z=>?_) λ_=>hk
  ·by_cases hb:b=a
   ·exact .inr ⟨_,_,if_pos hb⟩
   ·exact .inl (if_neg hb)
  ·by_cases hb:b=a
   ·have z':=(if_pos hb).symm.trans z
    cases z'
    subst hb
    exact ⟨ha,by rw [qlm];exact hl,vs,_,rv,ha⟩
   ·have z':=(if_neg hb).symm.trans z
    cases z'
  ·by_cases hb:b=a
   ·exact hb
   ·exact absurd (if_neg hb) z
theorem walk_of {l:PySem.W.OpenLaw}{n k:Nat}{q:Program}{loose:List Str}{XP:(Str->Option Value)->Heap->Prop}{YP:World->Heap->Prop}{d:DefRec}{K:Params->QFg}{CX:World->CXT}{sp:World->Sp}{x:Str}
  (hn:l.most=some n) (hn2:n<=sizeLine) (hdf:d.params.defaults=[]) (hr:Room k callerA)
  (hY:∀(w:World) (h:Heap),YP w h->(K w.params).In h)
  (F:∀(w:World) (mg:Str->Option Value) (fa:Addr) (h:Heap),(K w.params).In h->h.Ns mainGlobals mg->mg d.name=some (.ref fa) ->
   ∃fd:FuncData,(∀(s:Shared) (u:Value),BindsTo s fd ⟨[u],[]⟩ [(x,u)]) /\
    ∀base:Heap,(K w.params).In base->base.Ns mainGlobals mg->FnOk l.prog w (K w.params) mg base (CX w) k fa fd [x] (sp w))
  (hsp:∀(w:World) (H:Hp) (a:Addr) (ns:List Int),ns.length<=n->zkx H->SqL (K w.params) H a (ns.map V.int)->sp w [.ref a] H (λv _=>v=.bl true) λ_ _ _=>False)
  (hCX:∀(w:World) (H:Hp) (s:Shared) (e:Value) (s':Shared),CX w [] H s (λ_ _ _=>False) e s'->False) :
  PySem.W.WalkO q loose XP YP l.row.toRowW d [] (λf vs=>PySem.call f vs):=by
 refine Att.attach_call hn hdf λw s₀ s₁ mg mb fa o pm cd doc a vs ns G Y ho hd hcd hmg hobj hints hlen hg=>?_
 have KX:=hY w _ Y
 obtain ⟨fd,hb,hF⟩:=F w mg fa _ KX G.T.g hmg
 exact zy7 KX G.T.g G.T.b G.T.builtins G.T.nolimit hg hobj hints (Nat.le_trans hlen hn2) hr hF hb (λH hO hS=>hsp w H a ns hlen hO hS) λH e s'=>hCX w H s₁ e s'
noncomputable def zh1 (s:Stmt):Arguments:=match s with
 | .FunctionDef _ a _ _ _ _ _ _ _ _=>a
 | _=>{ posonlyargs:=[],args:=[],vararg:=none,kwonlyargs:=[],kw_defaults:=[],kwarg:=none,defaults:=[] }
noncomputable def zfn (s:Stmt):List Stmt:=match s with
 | .FunctionDef _ _ b _ _ _ _ _ _ _=>b
 | _=>[]
noncomputable def zas (s:Stmt):Scope:=match s with
 | .FunctionDef _ _ _ _ _ _ sc _ _ _=>sc
 | _=>{ kind:=.function,names:=[],isGenerator:=false,isCoroutine:=false }
abbrev CX0:CXT:=λ_ _ _ _ _ _=>False
abbrev E0:XK:=λ_ _ _=>False
theorem zp8 {X:Cx}:zh0 CX0 X E0:=λ_ _ _ _ _ _ _ h=>h.elim
structure Fun (K:QFg) (x qual:Str) (st:Stmt) (f:Addr) (fd:FuncData):Prop where
 ex:∃(oc:Value) (od:Option Addr) (kV doc pm:Value) (an:Option Addr) (cdv ct:Value) (osl:Array (Option Value)),
  fd=PySem.W.fnOf x qual (zh1 st) (zfn st) (zas st) .none kV doc pm an cdv ct/\K.lookup f=some ⟨oc,od,.func fd,osl⟩/\PySem.W.codeIn K cdv qual=true
 kp:PySem.W.keepIn K (.ref f)=true
section
variable {P:Program}{w:World}{K:QFg}{mg:Str->Option Value}{base:Heap}
theorem Fun.binds {x qual:Str}{st:Stmt}{f:Addr}{fd:FuncData}{ps:List Str}(F:Fun K x qual st f fd)
  (h:∀(kV doc pm:Value) (an:Option Addr) (cdv ct:Value) (us:List Value),us.length=ps.length->bindArgs (PySem.W.fnOf x qual (zh1 st) (zfn st) (zas st) .none kV doc pm an cdv ct) ⟨us,[]⟩=pure (ps.zip us)):Binds K fd ps []:=by
 obtain ⟨oc,od,kV,doc,pm,an,cdv,ct,osl,rfl,lk,hcd⟩:=F.ex
 exact .all (h kV doc pm an cdv ct)
theorem zy8 {x qual:Str}{st:Stmt}{f:Addr}{oc:Value}{od an:Option Addr}{osl:Array (Option Value)}{kV doc pm cdv ct:Value}(l:K.lookup f=some ⟨oc,od,.func (PySem.W.fnOf x qual (zh1 st) (zfn st) (zas st) .none kV doc pm an cdv ct),osl⟩)
  (c:PySem.W.codeIn K cdv qual=true) (k:PySem.W.keepIn K (.ref f)=true):Fun K x qual st f (PySem.W.fnOf x qual (zh1 st) (zfn st) (zas st) .none kV doc pm an cdv ct):=⟨⟨oc,od,kV,doc,pm,an,cdv,ct,osl,rfl,l,c⟩,k⟩
end
section
variable {X:Cx}
end
theorem zfy {A B:Prop}(h:B):if false=true then A else B:=by
 rw [if_neg Bool.false_ne_true]
 exact h
theorem zfo {A B:Prop}(h:A):if true=true then A else B:=by
 rw [if_pos rfl]
 exact h
section
variable {κ:Type} [DecidableEq κ]
end
abbrev KT (H:Hp):List (List Key × V)->List (List Key × Addr × Value)->Prop:=Paired λp q=>p.1=q.1/\H q.2.1=some (.tup (p.1.map kV))/\RelV p.2 q.2.2
section
variable {P:Program}{w:World}{H:Hp}{h:Heap}{a:Addr}
end
section
variable {X:Cx}{pins:List (Addr × Obj)}{σ:St}{H:Hp}{s:Shared}{a:Addr}{y v:V}{u r:Value}{o:Option V}{A:Around}{E:Value->Shared->Prop}
end
section
variable {X:Cx}{pins:List (Addr × Obj)}{σ:St}{H:Hp}{s:Shared}{a:Addr}{kvs:List (Key × V)}{k:Key}{u:Value}{A:Around}{E:Value->Shared->Prop}
end
section
variable {X:Cx}{o i e value:Expr}{pos pos' tpos:Pos}{td ty tv:TE}
end
section
variable {X:Cx}{pos:Pos}
end
section
variable {X:Cx}{pins:List (Addr × Obj)}{σ:St}{H:Hp}{s:Shared}{a:Addr}{y d:V}{u r:Value}{o:Option V}{A:Around}{E:Value->Shared->Prop}
end
section
variable {X:Cx}{o e f:Expr}{apos cpos:Pos}{td ty tx:TE}
end
section
variable {X:Cx}{pins:List (Addr × Obj)}{σ:St}{H:Hp}{s:Shared}{a:Addr}{kvs:List (Key × V)}{A:Around}{E:Value->Shared->Prop}
end
section
variable {X:Cx}{pins:List (Addr × Obj)}{σ:St}{H:Hp}{s:Shared}{a:Addr}{y:V}{u:Value}{A:Around}{E:Value->Shared->Prop}
end
section
variable {X:Cx}
end
section
variable {κ:Type} [DecidableEq κ]
end
end L2
namespace L3
abbrev St:=L2.St
open PySem PySem.Spec PyProof.Rows L2
inductive D where
 | non|bl (b:Bool)|int (i:Int)|str (x:Str)|tup (xs:List D)|ref (n:Nat)|fn (a:Addr)
inductive Ob where
 | lst (xs:List D)|flst (xs:List D)|iset (f:Int->Bool) (n:Nat)|dct (kvs:List (Key × D))|fdct (kvs:List (Key × D))|tdct (kvs:List (List Key × D))|ftdct (kvs:List (List Key × D))|tset (ks:List (List Int))|fnc (x:Str)|exc (c:Str)
noncomputable def Ob.mut:Ob->Bool
 | .flst _=>false
 | .fnc _=>false
 | _=>true
abbrev Sto:=List Ob
abbrev Lo:=List (Option D)
mutual
inductive RD (ρ:List Addr) (H:Hp):D->V->Prop where
 | non:RD ρ H .non .non
 | bl (b:Bool):RD ρ H (.bl b) (.bl b)
 | int (i:Int):RD ρ H (.int i) (.int i)
 | str (x:Str):RD ρ H (.str x) (.str x)
 | tup {xs:List D} {a:Addr} {vs:List V}:H a=some (.tup vs)->RDs ρ H xs vs->RD ρ H (.tup xs) (.ref a)
 | ref {n:Nat} {a:Addr}:ρ[n]? = some a->RD ρ H (.ref n) (.ref a)
 | fn (a:Addr):RD ρ H (.fn a) (.ref a)
inductive RDs (ρ:List Addr) (H:Hp):List D->List V->Prop where
 | nil:RDs ρ H [] []
 | cons {x:D} {v:V} {xs:List D} {vs:List V}:RD ρ H x v->RDs ρ H xs vs->RDs ρ H (x :: xs) (v :: vs)
end
structure Ext0 (ρ:List Addr) (H:Hp) (ρ':List Addr) (H':Hp):Prop where
 pre:∀(n:Nat) (a:Addr),ρ[n]? = some a->ρ'[n]? = some a
 tup:∀a vs,H a=some (.tup vs)->H' a=some (.tup vs)
 frz:∀a o u,H a=some (.frz o u)->H' a=some (.frz o u)
structure Ext (ρ:List Addr) (H:Hp) (ρ':List Addr) (H':Hp):Prop extends Ext0 ρ H ρ' H' where
 out:∀a (vs:HO),H a=some vs->(∀n:Nat,ρ[n]?≠some a)->H' a=some vs/\∀n:Nat,ρ'[n]?≠some a
theorem Ext.refl (ρ:List Addr) (H:Hp):Ext ρ H ρ H:=⟨⟨λ_ _ h=>h,λ_ _ h=>h,λ_ _ _ h=>h⟩,λ_ _ h n=>⟨h,n⟩⟩
theorem Ext.trans {ρ ρ1 ρ2:List Addr}{H H1 H2:Hp}(a:Ext ρ H ρ1 H1) (b:Ext ρ1 H1 ρ2 H2):Ext ρ H ρ2 H2 :=
 ⟨⟨λn x h=>b.pre n x (a.pre n x h),λn x h=>b.tup n x (a.tup n x h),λn o x h=>b.frz n o x (a.frz n o x h)⟩,λx vs h n=>let ⟨h1,n1⟩:=a.out x vs h n;b.out x vs h1 n1⟩
section
variable {ρ ρ':List Addr}{H H':Hp}
mutual
theorem RD.mono0 (e:Ext0 ρ H ρ' H'):∀{d:D}{v:V},RD ρ H d v->RD ρ' H' d v
 | _,_,.non=>.non
 | _,_,.bl b=>.bl b
 | _,_,.int i=>.int i
 | _,_,.str x=>.str x
 | _,_,.tup h r=>.tup (e.tup _ _ h) (RDs.mono0 e r)
 | _,_,.ref h=>.ref (e.pre _ _ h)
 | _,_,.fn a=>.fn a
theorem RDs.mono0 (e:Ext0 ρ H ρ' H'):∀{d:List D}{v:List V},RDs ρ H d v->RDs ρ' H' d v
 | _,_,.nil=>.nil
 | _,_,.cons r q=>.cons (RD.mono0 e r) (RDs.mono0 e q)
end
theorem RD.mono {d:D}{v:V}(r:RD ρ H d v) (e:Ext ρ H ρ' H'):RD ρ' H' d v:=r.mono0 e.toExt0
theorem RDs.mono {d:List D}{v:List V}(r:RDs ρ H d v) (e:Ext ρ H ρ' H'):RDs ρ' H' d v:=r.mono0 e.toExt0
theorem RDs.length:∀{d:List D}{v:List V},RDs ρ H d v->d.length=v.length
 | _,_,.nil=>rfl
 | _,_,.cons _ q=>congrArg (· + 1) (RDs.length q)
theorem RDs.get:∀{d:List D}{v:List V}{i:Nat}{x:D},RDs ρ H d v->d[i]? = some x->∃u,v[i]? = some u/\RD ρ H x u
 | _,_,_,_,.nil,e=>by simp at e
 | _,_,0,_,.cons r _,e=>by simp at e;subst e;exact ⟨_,rfl,r⟩
 | _,_,i+1,x,.cons _ q,e=>by
  obtain ⟨u,h1,h2⟩:=RDs.get (i:=i) (x:=x) q (by simpa using e)
  exact ⟨u,by simpa using h1,h2⟩
theorem RDs.set {x:D}{u:V}(r:RD ρ H x u):∀{d:List D}{v:List V}(i:Nat),RDs ρ H d v->RDs ρ H (d.set i x) (v.set i u)
 | _,_,_,.nil=>.nil
 | _,_,0,.cons _ q=>.cons r q
 | _,_,i+1,.cons p q=>.cons p (RDs.set r i q)
theorem RDs.append:∀{d e:List D}{v w:List V},RDs ρ H d v->RDs ρ H e w->RDs ρ H (d++e) (v++w)
 | _,_,_,_,.nil,q=>q
 | _,_,_,_,.cons r p,q=>.cons r (RDs.append p q)
theorem RDs.take:∀{d:List D}{v:List V}(n:Nat),RDs ρ H d v->RDs ρ H (d.take n) (v.take n)
 | _,_,0,_=>.nil
 | _,_,_+1,.nil=>.nil
 | _,_,n+1,.cons r t=>.cons r (RDs.take n t)
theorem RDs.drop:∀{d:List D}{v:List V}(n:Nat),RDs ρ H d v->RDs ρ H (d.drop n) (v.drop n)
 | _,_,0,r=>r
 | _,_,_+1,.nil=>.nil
 | _,_,n+1,.cons _ t=>RDs.drop n t
theorem RDs.rep {xs:List D}{us:List V}(h:RDs ρ H xs us):∀k:Nat,RDs ρ H (List.replicate k xs).flatten (List.replicate k us).flatten
 | 0=>.nil
 | k+1=>by
  rw [List.replicate_succ,List.replicate_succ,List.flatten_cons,List.flatten_cons]
  exact RDs.append h (RDs.rep h k)
theorem RDs.one {x:D}{vs:List V}(h:RDs ρ H [x] vs):∃v,vs=[v]/\RD ρ H x v:=by
 cases h with
 | cons r q=>cases q;exact ⟨_,rfl,r⟩
theorem RDs.two {x y:D}{vs:List V}(h:RDs ρ H [x,y] vs):∃v u,vs=[v,u]/\RD ρ H x v/\RD ρ H y u:=by
 cases h with
 | cons r q=>obtain ⟨u,rfl,r2⟩:=q.one;exact ⟨_,_,rfl,r,r2⟩
end
def Fz (K:QFg) (H:Hp) (a:Addr) (xs:List V):Prop:=(∃o,H a=some (.frz o (.lst xs))) \/
  ∃(o:Obj) (its:Array Value) (n:Nat),K.lookup a=some o/\o.cls=.type "list"/\o.dict=none/\o.data=.seq its n/\its.size<=sizeLine/\Vals xs its.toList
theorem Fz.sq {K:QFg}{H:Hp}{a:Addr}{xs:List V}(h:Fz K H a xs):SqL K H a xs:=by
 rcases h with ⟨o,h⟩|h
 ·exact .inl (.inr ⟨o,h⟩)
 ·exact .inr h
def ObR (K:QFg) (ρ:List Addr) (H:Hp):Ob->Addr->Prop
 | .lst xs,a=>∃vs,H a=some (.lst vs)/\RDs ρ H xs vs
 | .flst xs,a=>∃vs,Fz K H a vs/\RDs ρ H xs vs
 | .iset f n,a=>H a=some (.set f n)
 | .dct kvs,a=>∃vs,H a=some (.dK ((kvs.map (·.1)).zip vs))/\RDs ρ H (kvs.map (·.2)) vs
 | .fdct kvs,a=>∃o vs,H a=some (.frz o (.dK ((kvs.map (·.1)).zip vs)))/\RDs ρ H (kvs.map (·.2)) vs
 | .tdct kvs,a=>∃vs,H a=some (.dT ((kvs.map (·.1)).zip vs))/\RDs ρ H (kvs.map (·.2)) vs
 | .ftdct kvs,a=>∃o vs,H a=some (.frz o (.dT ((kvs.map (·.1)).zip vs)))/\RDs ρ H (kvs.map (·.2)) vs
 | .tset ks,a=>∃xs:List (List Int × Addr),ks=xs.map (·.1)/\H a=some (.ext (TS.TSet a xs))/\∀p∈xs,H p.2=some (.tup (p.1.map V.int))
 | .fnc x,a=>PySem.W.nsIn K mainGlobals x=some (some (.ref a))/\∃o,K.lookup a=some o
 | .exc c,a=>∃C,PySem.W.nsIn K mainGlobals c=some (some (.ref C))/\H a=some (.ext (λh=>∃o,h.get? a=some o/\o.cls=.ref C))
structure Sim (K:QFg) (ρ:List Addr) (S:Sto) (H:Hp):Prop where
 len:ρ.length=S.length
 nd:∀(i j:Nat) (a:Addr) (o1 o2:Ob),ρ[i]? = some a->ρ[j]? = some a->S[i]? = some o1->S[j]? = some o2->o1.mut=true->o2.mut=true->i=j
 at':∀(n:Nat) (a:Addr) (o:Ob),ρ[n]? = some a->S[n]? = some o->ObR K ρ H o a
section
variable {K:QFg}{ρ ρ':List Addr}{H:Hp}{S:Sto}
theorem zff {p:Addr}{o:HO}(hp:H p=none):Ext ρ H ρ (upd H p o) :=
 ⟨⟨λ_ _ h=>h,λa vs h=>by rw [za2 (zci h hp)];exact h,λa o vs h=>by rw [za2 (zci h hp)];exact h⟩,λa vs h n=>⟨by rw [za2 (zci h hp)];exact h,n⟩⟩
theorem zjh {p:Addr}{o:HO}{ys:List V}(hp:H p=some (.lst ys)):Ext0 ρ H ρ (upd H p o) :=
 ⟨λ_ _ h=>h,λa vs h=>by rw [za2 (zhy h hp (by intro z;cases z))];exact h,λa o vs h=>by rw [za2 (zhy h hp (by intro z;cases z))];exact h⟩
def zky (u:HO):Prop:=(∀vs,u≠.tup vs)/\∀o v,u≠.frz o v
theorem zp9 (ys:List V):zky (.lst ys):=⟨λ_ z=>(by cases z),λ_ _ z=>(by cases z)⟩
theorem zh2 {p:Addr}{o u:HO}(hp:H p=some u) (hu:zky u):Ext0 ρ H ρ (upd H p o) :=
 ⟨λ_ _ h=>h,λa vs h=>by rw [za2 (zhy h hp (λz=>hu.1 vs z.symm))];exact h,λa o vs h=>by rw [za2 (zhy h hp (λz=>hu.2 o vs z.symm))];exact h⟩
theorem zqa {p:Addr}{o:HO}{ys:List V}{n:Nat}(hn:ρ[n]? = some p) (hp:H p=some (.lst ys)):Ext ρ H ρ (upd H p o) :=
 ⟨zjh hp,λa vs h hm=>⟨by rw [za2 (λz=>hm n (by rw [z];exact hn))];exact h,hm⟩⟩
theorem ObR.laid {o:Ob}{a p:Addr}{u:HO}(h:ObR K ρ H o a) (hp:H p=none):ObR K ρ (upd H p u) o a:=by
 cases o with
 | lst xs =>
  obtain ⟨vs,e,r⟩:=h
  exact ⟨vs,by rw [za2 (zci e hp)];exact e,r.mono (zff hp)⟩
 | flst xs =>
  obtain ⟨vs,e,r⟩:=h
  refine ⟨vs,?_,r.mono (zff hp)⟩
  rcases e with ⟨o,e⟩|e
  ·exact .inl ⟨o,by rw [za2 (zci e hp)];exact e⟩
  ·exact .inr e
 | iset f n =>
  show upd H p u a=some (.set f n)
  have e:H a=some (.set f n):=h
  rw [za2 (zci e hp)];exact e
 | dct kvs =>
  obtain ⟨vs,e,r⟩:=h
  exact ⟨vs,by rw [za2 (zci e hp)];exact e,r.mono (zff hp)⟩
 | fdct kvs =>
  obtain ⟨o,vs,e,r⟩:=h
  exact ⟨o,vs,by rw [za2 (zci e hp)];exact e,r.mono (zff hp)⟩
 | tdct kvs =>
  obtain ⟨vs,e,r⟩:=h
  exact ⟨vs,by rw [za2 (zci e hp)];exact e,r.mono (zff hp)⟩
 | ftdct kvs =>
  obtain ⟨o,vs,e,r⟩:=h
  exact ⟨o,vs,by rw [za2 (zci e hp)];exact e,r.mono (zff hp)⟩
 | tset ks =>
  obtain ⟨xs,e0,e,r⟩:=h
  exact ⟨xs,e0,by rw [za2 (zci e hp)];exact e,λp hq=>by rw [za2 (zci (r p hq) hp)];exact r p hq⟩
 | fnc x=>exact h
 | exc c =>
  obtain ⟨C,hc,e⟩:=h
  exact ⟨C,hc,by rw [za2 (zci e hp)];exact e⟩
theorem ObR.writtenG {o:Ob}{a p:Addr}{u u0:HO}(h:ObR K ρ H o a) (hp:H p=some u0) (hu:zky u0) (hn:o.mut=true->a≠p):ObR K ρ (upd H p u) o a:=by
 cases o with
 | lst xs =>
  obtain ⟨vs,e,r⟩:=h
  exact ⟨vs,by rw [za2 (hn rfl)];exact e,r.mono0 (zh2 hp hu)⟩
 | flst xs =>
  obtain ⟨vs,e,r⟩:=h
  refine ⟨vs,?_,r.mono0 (zh2 hp hu)⟩
  rcases e with ⟨o,e⟩|e
  ·exact .inl ⟨o,by rw [za2 (zhy e hp (λz=>hu.2 _ _ z.symm))];exact e⟩
  ·exact .inr e
 | iset f n =>
  show upd H p u a=some (.set f n)
  rw [za2 (hn rfl)];exact h
 | dct kvs =>
  obtain ⟨vs,e,r⟩:=h
  exact ⟨vs,by rw [za2 (hn rfl)];exact e,r.mono0 (zh2 hp hu)⟩
 | tdct kvs =>
  obtain ⟨vs,e,r⟩:=h
  exact ⟨vs,by rw [za2 (hn rfl)];exact e,r.mono0 (zh2 hp hu)⟩
 | fdct kvs =>
  obtain ⟨o,vs,e,r⟩:=h
  exact ⟨o,vs,by rw [za2 (hn rfl)];exact e,r.mono0 (zh2 hp hu)⟩
 | ftdct kvs =>
  obtain ⟨o,vs,e,r⟩:=h
  exact ⟨o,vs,by rw [za2 (hn rfl)];exact e,r.mono0 (zh2 hp hu)⟩
 | tset ks =>
  obtain ⟨xs,e0,e,r⟩:=h
  exact ⟨xs,e0,by rw [za2 (hn rfl)];exact e,λp hq=>(zh2 (ρ:=ρ) hp hu).tup _ _ (r p hq)⟩
 | fnc x=>exact h
 | exc c =>
  obtain ⟨C,hc,e⟩:=h
  exact ⟨C,hc,by rw [za2 (hn rfl)];exact e⟩
theorem ObR.written {o:Ob}{a p:Addr}{u:HO}{ys:List V}(h:ObR K ρ H o a) (hp:H p=some (.lst ys)) (hn:o.mut=true->a≠p):ObR K ρ (upd H p u) o a:=h.writtenG hp (zp9 ys) hn
theorem ObR.more {o:Ob}{a:Addr}(h:ObR K ρ H o a) (e:Ext0 ρ H ρ' H):ObR K ρ' H o a:=by
 cases o with
 | lst xs=>obtain ⟨vs,e1,r⟩:=h;exact ⟨vs,e1,r.mono0 e⟩
 | flst xs=>obtain ⟨vs,e1,r⟩:=h;exact ⟨vs,e1,r.mono0 e⟩
 | iset f n=>exact h
 | dct kvs=>obtain ⟨vs,e1,r⟩:=h;exact ⟨vs,e1,r.mono0 e⟩
 | tdct kvs=>obtain ⟨vs,e1,r⟩:=h;exact ⟨vs,e1,r.mono0 e⟩
 | fdct kvs=>obtain ⟨o,vs,e1,r⟩:=h;exact ⟨o,vs,e1,r.mono0 e⟩
 | ftdct kvs=>obtain ⟨o,vs,e1,r⟩:=h;exact ⟨o,vs,e1,r.mono0 e⟩
 | tset ks=>exact h
 | fnc x=>exact h
 | exc c=>exact h
theorem Sim.laid (s:Sim K ρ S H) {p:Addr}{u:HO}(hp:H p=none):Sim K ρ S (upd H p u) :=
 ⟨s.len,s.nd,λn a o h1 h2=>(s.at' n a o h1 h2).laid hp⟩
theorem Sim.lst {n:Nat}{xs:List D}(s:Sim K ρ S H) (h:S[n]? = some (.lst xs)):∃a vs,ρ[n]? = some a/\H a=some (.lst vs)/\RDs ρ H xs vs:=by
 have hl:n<ρ.length:=by rw [s.len];exact (qme h).1
 obtain ⟨vs,e,r⟩:=s.at' n _ _ (qge hl) h
 exact ⟨_,vs,qge hl,e,r⟩
noncomputable def lstOf (S:Sto) (n:Nat):Option (List D):=match S[n]? with
 | some (.lst xs)=>some xs
 | some (.flst xs)=>some xs
 | _=>none
theorem Sim.lstOf {n:Nat}{xs:List D}(s:Sim K ρ S H) (h:L3.lstOf S n=some xs):∃a vs,ρ[n]? = some a/\SqL K H a vs/\RDs ρ H xs vs:=by
 unfold L3.lstOf at h
 cases e:S[n]? with
 | none=>rw [e] at h;cases h
 | some o =>
  have hl:n<ρ.length:=by rw [s.len];exact (qme e).1
  have q:=s.at' n _ _ (qge hl) e
  rw [e] at h
  cases o with
  | lst ys =>
   cases h
   obtain ⟨vs,e1,r⟩:=q
   exact ⟨_,vs,qge hl,.inl (.inl e1),r⟩
  | flst ys =>
   cases h
   obtain ⟨vs,e1,r⟩:=q
   exact ⟨_,vs,qge hl,e1.sq,r⟩
  | iset f n=>cases h
  | dct kvs=>cases h
  | fdct kvs=>cases h
  | ftdct kvs=>cases h
  | tset ks=>cases h
  | fnc x=>cases h
  | tdct kvs=>cases h
  | exc c=>cases h
theorem Sim.setG {n:Nat}{a:Addr}{o0 o1:Ob}{u0 u1:HO}(s:Sim K ρ S H) (ha:ρ[n]? = some a) (hS:S[n]? = some o0) (hm0:o0.mut=true) (hH:H a=some u0) (hu:zky u0) (r:ObR K ρ (upd H a u1) o1 a):Sim K ρ (S.set n o1) (upd H a u1):=by
 have hl:n<S.length:=(qme hS).1
 have key:∀(m:Nat) (w:Ob),w.mut=true->(S.set n o1)[m]? = some w->∃w',S[m]? = some w'/\w'.mut=true:=λm w hw h=>by
  by_cases hmn:n=m
  ·subst hmn;exact ⟨_,hS,hm0⟩
  ·rw [List.getElem?_set_ne hmn] at h;exact ⟨_,h,hw⟩
 refine ⟨by rw [List.length_set];exact s.len,λi j b x1 x2 h1 h2 h3 h4 m1 m2=>?_,λm b o h1 h2=>?_⟩
 ·obtain ⟨_,h3,q3⟩:=key i x1 m1 h3
  obtain ⟨_,h4,q4⟩:=key j x2 m2 h4
  exact s.nd i j b _ _ h1 h2 h3 h4 q3 q4
 by_cases hmn:n=m
 ·subst hmn
  rw [ha] at h1;cases h1
  rw [List.getElem?_set_self hl] at h2
  cases h2
  exact r
 ·rw [List.getElem?_set_ne hmn] at h2
  exact (s.at' m b o h1 h2).writtenG hH hu (λe z=>hmn (s.nd n m a _ _ ha (by rw [h1,z]) hS h2 hm0 e))
theorem Sim.set {n:Nat}{a:Addr}{ys:List V}{xs zs:List D}{vs:List V}(s:Sim K ρ S H) (ha:ρ[n]? = some a) (hS:S[n]? = some (.lst zs)) (hH:H a=some (.lst ys)) (r:RDs ρ H xs vs):Sim K ρ (S.set n (.lst xs)) (upd H a (.lst vs)) :=
 s.setG ha hS rfl hH (zp9 ys) ⟨vs,zfe,r.mono0 (zjh hH)⟩
theorem ext0_push {a:Addr}:Ext0 ρ H (ρ++[a]) H :=
 ⟨λn b h=>by rw [List.getElem?_append_left (qme h).1];exact h,λ_ _ h=>h,λ_ _ _ h=>h⟩
theorem zdp {α:Type}{l:List α}{a b:α}{n:Nat}(h:(l++[a])[n]? = some b):l[n]? = some b\/(n=l.length/\b=a):=by
 by_cases hl:n<l.length
 ·rw [List.getElem?_append_left hl] at h;exact .inl h
 ·rw [List.getElem?_append_right (by omega)] at h
  have:n-l.length=0:=by
   have:=(qme h).1
   simp at this;omega
  rw [this] at h;simp at h
  exact .inr ⟨by omega,h.symm⟩
theorem zqb {a:Addr}{vs:List V}(ha:H a=none):Ext ρ H (ρ++[a]) (upd H a (.lst vs)) :=
 ⟨⟨ext0_push.pre (H:=H),λb us h=>by rw [za2 (zci h ha)];exact h,λb o us h=>by rw [za2 (zci h ha)];exact h⟩,λb us h n=>⟨by rw [za2 (zci h ha)];exact h,λi hi=>by
  rcases zdp hi with hi|⟨_,e⟩
  ·exact n i hi
  ·rw [e,ha] at h;cases h⟩⟩
theorem zqc {a:Addr}{u:HO}(ha:H a=none):Ext ρ H (ρ++[a]) (upd H a u) :=
 ⟨⟨ext0_push.pre (H:=H),λb us h=>by rw [za2 (zci h ha)];exact h,λb o us h=>by rw [za2 (zci h ha)];exact h⟩,λb us h n=>⟨by rw [za2 (zci h ha)];exact h,λi hi=>by
  rcases zdp hi with hi|⟨_,e⟩
  ·exact n i hi
  ·rw [e,ha] at h;cases h⟩⟩
theorem Sim.pushG {a:Addr}{o1:Ob}{u:HO}(s:Sim K ρ S H) (ha:H a=none) (r:ObR K (ρ++[a]) (upd H a u) o1 a):Sim K (ρ++[a]) (S++[o1]) (upd H a u):=by
 have no:∀(n:Nat) (o:Ob),o.mut=true->ρ[n]? = some a->S[n]? = some o->False:=λn o hm h1 h2=>by
  have q:=s.at' n a _ h1 h2
  cases o with
  | lst xs=>obtain ⟨vs,e,_⟩:=q;rw [ha] at e;cases e
  | flst xs=>cases hm
  | iset f n=>have q:H a=_:=q;rw [ha] at q;cases q
  | dct kvs=>obtain ⟨vs,e,_⟩:=q;rw [ha] at e;cases e
  | tdct kvs=>obtain ⟨vs,e,_⟩:=q;rw [ha] at e;cases e
  | fdct kvs=>obtain ⟨o,vs,e,_⟩:=q;rw [ha] at e;cases e
  | ftdct kvs=>obtain ⟨o,vs,e,_⟩:=q;rw [ha] at e;cases e
  | tset ks=>obtain ⟨xs,_,e,_⟩:=q;rw [ha] at e;cases e
  | fnc x=>cases hm
  | exc c=>obtain ⟨C,_,e⟩:=q;rw [ha] at e;cases e
 refine ⟨by simp [s.len],λi j b x1 x2 h1 h2 h3 h4 m1 m2=>?_,λn b o h1 h2=>?_⟩
 ·rcases zdp h3 with h3|⟨e3,_⟩ <;> rcases zdp h4 with h4|⟨e4,_⟩
  ·have l1:=(qme h3).1
   have l2:=(qme h4).1
   rcases zdp h1 with h1|⟨e1,f1⟩ <;> rcases zdp h2 with h2|⟨e2,f2⟩
   ·exact s.nd i j b _ _ h1 h2 h3 h4 m1 m2
   ·have:=s.len;omega
   ·have:=s.len;omega
   ·have:=s.len;omega
  ·have l1:=(qme h3).1
   rcases zdp h2 with h2|⟨e2,f2⟩
   ·have:=(qme h2).1;have:=s.len;omega
   ·subst f2
    rcases zdp h1 with h1|⟨e1,_⟩
    ·exact (no i _ m1 h1 h3).elim
    ·have:=s.len;omega
  ·have l1:=(qme h4).1
   rcases zdp h1 with h1|⟨e2,f2⟩
   ·have:=(qme h1).1;have:=s.len;omega
   ·subst f2
    rcases zdp h2 with h2|⟨e1,_⟩
    ·exact (no j _ m2 h2 h4).elim
    ·have:=s.len;omega
  ·omega
 ·rcases zdp h2 with h2|⟨e2,f2⟩
  ·rcases zdp h1 with h1|⟨e1,f1⟩
   ·exact ((s.at' n b o h1 h2).laid ha).more ext0_push
   ·have:=(qme h2).1;have:=s.len;omega
  ·rcases zdp h1 with h1|⟨e1,f1⟩
   ·have:=(qme h1).1;have:=s.len;omega
   ·subst f1 f2
    exact r
theorem Sim.push {a:Addr}{xs:List D}{vs:List V}(s:Sim K ρ S H) (ha:H a=none) (r:RDs ρ H xs vs):Sim K (ρ++[a]) (S++[.lst xs]) (upd H a (.lst vs)) :=
 s.pushG ha ⟨vs,zfe,r.mono (zqb ha)⟩
theorem zd5 {α:Type}(l:List α) (a:α):(l++[a])[l.length]? = some a:=by
 rw [List.getElem?_append_right (qlr _)];simp
end
structure RO (ρ:List Addr) (H:Hp) (l:Lo) (σ:St):Prop where
 len:l.length=σ.length
 get:∀(i:Nat) (d:D),l[i]? = some (some d)->∃v,σ[i]? = some (some v)/\RD ρ H d v
theorem RO.mono {ρ ρ':List Addr}{H H':Hp}{l:Lo}{σ:St}(r:RO ρ H l σ) (e:Ext ρ H ρ' H'):RO ρ' H' l σ :=
 ⟨r.len,λi d h=>let ⟨v,h1,h2⟩:=r.get i d h;⟨v,h1,h2.mono e⟩⟩
theorem RO.set {ρ:List Addr}{H:Hp}{l:Lo}{σ:St}{d:D}{v:V}(r:RO ρ H l σ) (i:Nat) (h:RD ρ H d v):RO ρ H (l.set i (some d)) (σ.set i (some v)):=by
 refine ⟨by simp [r.len],λj x hj=>?_⟩
 by_cases hij:i=j
 ·subst hij
  have hl:i<l.length:=by have:=(qme hj).1;simpa using this
  rw [List.getElem?_set_self hl] at hj
  cases hj
  exact ⟨v,List.getElem?_set_self (by rw [<-r.len];exact hl),h⟩
 ·rw [List.getElem?_set_ne hij] at hj
  rw [List.getElem?_set_ne hij]
  exact r.get j x hj
abbrev EM:=Lo->Sto->Option (D × Sto)
abbrev TM:=Lo->Sto->Option (Bool × Sto)
abbrev AM:=Lo->Sto->Option (List D × Sto)
abbrev FM:=List D->Sto->Option (D × Sto)
inductive Fl where
 | nx|bk|ct|rt (d:D)
abbrev SM:=Lo->Sto->Option (Fl × Lo × Sto)
abbrev GM:=D->Lo->Sto->Option (Lo × Sto)
abbrev GsM:=List D->Lo->Sto->Option (Lo × Sto)
def Pv (K:QFg) (ρ:List Addr) (H:Hp) (v:D) (S:Sto) (Q:VK):Prop:=∀ρ' H' v',Ext ρ H ρ' H'->Sim K ρ' S H'->RD ρ' H' v v'->Q v' H'
theorem Pv.ext {K:QFg}{ρ ρ1:List Addr}{H H1:Hp}{v:D}{S:Sto}{Q:VK}(p:Pv K ρ H v S Q) (e:Ext ρ H ρ1 H1):Pv K ρ1 H1 v S Q:=λρ' H' v' e' s r=>p ρ' H' v' (e.trans e') s r
inductive te (K:QFg) (m:EM) (σ:St) (H:Hp) (Q:VK):Prop
 | mk (ρ:_) (l:_) (S:_) (v:_) (S':_) (_:Sim K ρ S H) (_:RO ρ H l σ) (_:m l S=some (v,S')) (_:Pv K ρ H v S' Q)
inductive tt (K:QFg) (m:TM) (σ:St) (H:Hp) (Q:Bool->Hp->Prop):Prop
 | mk (ρ:_) (l:_) (S:_) (v:_) (S':_) (_:Sim K ρ S H) (_:RO ρ H l σ) (_:m l S=some (v,S')) (_:∀ρ' H',Ext ρ H ρ' H'->Sim K ρ' S' H'->Q v H')
inductive ta (K:QFg) (m:AM) (σ:St) (H:Hp) (Q:List V->Hp->Prop):Prop
 | mk (ρ:_) (l:_) (S:_) (v:_) (S':_) (_:Sim K ρ S H) (_:RO ρ H l σ) (_:m l S=some (v,S')) (_:∀ρ' H' vs,Ext ρ H ρ' H'->Sim K ρ' S' H'->RDs ρ' H' v vs->Q vs H')
def zji (ρ:List Addr) (H:Hp) (E:Ends) (σ:St):Fl->Prop
 | .nx=>E.nx σ H
 | .bk=>E.bk σ H
 | .ct=>E.ct σ H
 | .rt d=>∀v,RD ρ H d v->E.rt v H
inductive ts (K:QFg) (m:SM) (E:Ends) (σ:St) (H:Hp):Prop
 | mk (ρ:_) (l:_) (S:_) (f:_) (l':_) (S':_) (_:Sim K ρ S H) (_:RO ρ H l σ) (_:m l S=some (f,l',S')) (_:∀ρ' H' σ',Ext ρ H ρ' H'->Sim K ρ' S' H'->RO ρ' H' l' σ'->zji ρ' H' E σ' f)
inductive tg (K:QFg) (g:GM) (v:V) (σ:St) (H:Hp) (Q:St->Hp->Prop):Prop
 | mk (ρ:_) (l:_) (S:_) (d:_) (l':_) (S':_) (_:Sim K ρ S H) (_:RO ρ H l σ) (_:RD ρ H d v) (_:g d l S=some (l',S')) (_:∀ρ' H' σ',Ext ρ H ρ' H'->Sim K ρ' S' H'->RO ρ' H' l' σ'->Q σ' H')
inductive tgs (K:QFg) (g:GsM) (vs:List V) (σ:St) (H:Hp) (Q:St->Hp->Prop):Prop
 | mk (ρ:_) (l:_) (S:_) (ds:_) (l':_) (S':_) (_:Sim K ρ S H) (_:RO ρ H l σ) (_:RDs ρ H ds vs) (_:g ds l S=some (l',S')) (_:∀ρ' H' σ',Ext ρ H ρ' H'->Sim K ρ' S' H'->RO ρ' H' l' σ'->Q σ' H')
def PE3 (X:Cx) (e:Expr) (m:EM):Prop:=PE X e (te X.K m)
def PT3 (X:Cx) (e:Expr) (m:TM):Prop:=PT X e (tt X.K m)
def PW3 (X:Cx) (e:Expr) (m:TM):Prop:=PW X e (tt X.K m)
def PA3 (X:Cx) (es:List Expr) (m:AM):Prop:=PA X es (ta X.K m)
def PS3 (X:Cx) (st:Stmt) (m:SM):Prop:=PS X st (ts X.K m)
def ze3 (X:Cx) (st:List Stmt) (m:SM):Prop:=PSs X st (ts X.K m)
def PG3 (X:Cx) (tg':Expr) (m:GM):Prop:=PG X tg' (tg X.K m)
def zkz (X:Cx) (ts':List Expr) (m:GsM):Prop:=PGs X ts' (tgs X.K m)
theorem PE.imp {X:Cx}{e:Expr}{t u:TE}(h:PE X e t) (i:∀σ H Q,u σ H Q->t σ H Q):PE X e u:=λpins s σ H Q I q=>h pins s σ H Q I (i _ _ _ q)
theorem PT.imp {X:Cx}{e:Expr}{t u:TT}(h:PT X e t) (i:∀σ H Q,u σ H Q->t σ H Q):PT X e u:=λpins s σ H Q I q=>h pins s σ H Q I (i _ _ _ q)
theorem PW.imp {X:Cx}{e:Expr}{t u:TT}(h:PW X e t) (i:∀σ H Q,u σ H Q->t σ H Q):PW X e u:=λwh pins s σ H Q I q=>h wh pins s σ H Q I (i _ _ _ q)
theorem PA.imp {X:Cx}{e:List Expr}{t u:TA}(h:PA X e t) (i:∀σ H Q,u σ H Q->t σ H Q):PA X e u:=λpos pins s σ H Q I q=>h pos pins s σ H Q I (i _ _ _ q)
theorem PS.imp {X:Cx}{e:Stmt}{t u:TS}(h:PS X e t) (i:∀E σ H,u E σ H->t E σ H):PS X e u:=λpins s σ H Q I q=>h pins s σ H Q I (i _ _ _ q)
theorem PSs.imp {X:Cx}{e:List Stmt}{t u:TS}(h:PSs X e t) (i:∀E σ H,u E σ H->t E σ H):PSs X e u:=λpins s σ H Q I q=>h pins s σ H Q I (i _ _ _ q)
theorem PG.imp {X:Cx}{e:Expr}{t u:TG}(h:PG X e t) (i:∀v σ H Q,u v σ H Q->t v σ H Q):PG X e u:=λpins s σ H v w Q I r q=>h pins s σ H v w Q I r (i _ _ _ _ q)
theorem PGs.imp {X:Cx}{e:List Expr}{t u:TGs}(h:PGs X e t) (i:∀v σ H Q,u v σ H Q->t v σ H Q):PGs X e u:=λpins s σ H v w Q I r q=>h pins s σ H v w Q I r (i _ _ _ _ q)
inductive Bnd {α β:Type} (o:Option α) (f:α->Option β) (b:β):Prop
 | mk (a:α) (_:o=some a) (_:f a=some b)
theorem bnd {α β:Type}{o:Option α}{f:α->Option β}{b:β}(h:o.bind f=some b):Bnd o f b:=by
 obtain ⟨a,h1,h2⟩:=Option.bind_eq_some_iff.mp h
 exact ⟨a,h1,h2⟩
noncomputable def eVar (i:Nat):EM:=λl S=>match l[i]? with
 | some (some d)=>some (d,S)
 | _=>none
noncomputable def eC (d:D):EM:=λ_ S=>some (d,S)
noncomputable def eOp (f:D->D->Sto->Option (D × Sto)) (a b:EM):EM:=λl S=>(a l S).bind λp=>(b l p.2).bind λq=>f p.1 q.1 q.2
noncomputable def eUn (f:D->Sto->Option (D × Sto)) (a:EM):EM:=λl S=>(a l S).bind λp=>f p.1 p.2
noncomputable def zab:AM:=λ_ S=>some ([],S)
noncomputable def zaa (a:EM) (r:AM):AM:=λl S=>(a l S).bind λp=>(r l p.2).bind λq=>some (p.1 :: q.1,q.2)
noncomputable def zac (f:FM) (as:AM):EM:=λl S=>(as l S).bind λp=>f p.1 p.2
noncomputable def tE (a:EM):TM:=λl S=>(a l S).bind λp=>match p.1 with
 | .bl b=>some (b,p.2)
 | _=>none
noncomputable def zis (a b:TM):TM:=λl S=>(a l S).bind λp=>if p.1=true then b l p.2 else some (false,p.2)
noncomputable def zca (a b:TM):TM:=λl S=>(a l S).bind λp=>if p.1=true then some (true,p.2) else b l p.2
noncomputable def zbi (a:TM):TM:=λl S=>(a l S).bind λp=>some (!p.1,p.2)
noncomputable def zfz (a b:EM):EM:=λl S=>(a l S).bind λp=>match p.1 with
 | .bl true=>b l p.2
 | .bl false=>some (.bl false,p.2)
 | _=>none
noncomputable def zit (a b:EM):EM:=λl S=>(a l S).bind λp=>match p.1 with
 | .bl true=>some (.bl true,p.2)
 | .bl false=>b l p.2
 | _=>none
noncomputable def ziu (a:EM):EM:=λl S=>(a l S).bind λp=>match p.1 with
 | .bl b=>some (.bl (!b),p.2)
 | _=>none
noncomputable def zeq (c:TM) (a b:EM):EM:=λl S=>(c l S).bind λp=>if p.1=true then a l p.2 else b l p.2
def Op3 (K:QFg) (f:D->D->Sto->Option (D × Sto)) (r:R2):Prop :=
 ∀ρ S H x y x' y' v S' Q,Sim K ρ S H->RD ρ H x x'->RD ρ H y y'->f x y S=some (v,S')->Pv K ρ H v S' Q->r x' y' H Q
def Fn3 (K:QFg) (f:FM) (r:List V->Hp->VK->Prop):Prop :=
 ∀ρ S H xs vs v S' Q,Sim K ρ S H->RDs ρ H xs vs->f xs S=some (v,S')->Pv K ρ H v S' Q->r vs H Q
def Mt3 (K:QFg) (f:D->List D->Sto->Option (D × Sto)) (r:V->List V->Hp->VK->Prop):Prop :=
 ∀ρ S H x x' xs vs v S' Q,Sim K ρ S H->RD ρ H x x'->RDs ρ H xs vs->f x xs S=some (v,S')->Pv K ρ H v S' Q->r x' vs H Q
theorem zk0 {K:QFg}{f:D->D->Sto->Option (D × Sto)}{r:R2}(h:Op3 K f r) {a b:EM}(σ:St) (H:Hp) (Q:VK) (q:te K (eOp f a b) σ H Q):tOp r (te K a) (te K b) σ H Q:=by
 obtain ⟨ρ,l,S,v,S',sim,ro,hm,p⟩:=q
 obtain ⟨⟨x,S1⟩,h1,hm⟩:=bnd hm
 obtain ⟨⟨y,S2⟩,h2,hm⟩:=bnd hm
 exact ⟨ρ,l,S,x,S1,sim,ro,h1,λρ1 H1 x' e1 s1 r1=>⟨ρ1,l,S1,y,S2,s1,ro.mono e1,h2,λρ2 H2 y' e2 s2 r2=>h ρ2 S2 H2 x y x' y' v S' Q s2 (r1.mono e2) r2 hm (p.ext (e1.trans e2))⟩⟩
section
variable {X:Cx}{a b c:Expr}{es:List Expr}{ma mb:EM}{mA:AM}{pos:Pos}
theorem zad (i:Nat) {x:Str}(hN:X.N[i]? = some x:=by rfl) (hv:Vis X.env.scope x:=by first|exact Or.inl rfl|exact Or.inr (Or.inl rfl)|exact Or.inr (Or.inr rfl)) (hd:(x == ("__debug__":Str))=false:=by decide)
  (hcd:(x == ("__classdict__":Str))=false:=by decide):PE3 X (.Name x pos) (eVar i) :=
 PE.imp (zwb hN hv hd hcd) λσ H Q hx1_=>by
  obtain ⟨ρ,l,S,v,S',sim,ro,hm,p⟩:=hx1_
  unfold eVar at hm
  split at hm
  ·rename_i d e
   cases hm
   obtain ⟨w,h1,h2⟩:=ro.get i _ e
   exact ⟨w,h1,p ρ H w (Ext.refl ..) sim h2⟩
  ·cases hm
theorem zjj {K:QFg}{d:D}{v:V}(h:∀ρ H,RD ρ H d v) (σ:St) (H:Hp) (Q:VK) (q:te K (eC d) σ H Q):tC v σ H Q:=by
 obtain ⟨ρ,l,S,w,S',sim,ro,hm,p⟩:=q
 cases hm
 exact p ρ H v (Ext.refl ..) sim (h ρ H)
theorem zai {i j}:PE3 X (.Constant (.int i) j pos) (eC (.int i)):=PE.imp zwc (zjj λ_ _=>.int i)
theorem zf0 {i j}:PE3 X (.Constant (.bool i) j pos) (eC (.bl i)):=PE.imp zwd (zjj λ_ _=>.bl i)
theorem zek {j}:PE3 X (.Constant .none j pos) (eC .non):=PE.imp zwe (zjj λ_ _=>.non)
theorem zaz {i j}:PE3 X (.Constant (.str i) j pos) (eC (.str i)):=PE.imp zox (zjj λ_ _=>.str i)
theorem zfp {x:Str}{i:Int}{t:Tok}(hg:Gl X x) (hm:X.mg x=some (.int i t)) (hd:(x == ("__debug__":Str))=false:=by decide):PE3 X (.Name x pos) (eC (.int i)) :=
 PE.imp (zwf hg hm (v:=.int i) ⟨t,rfl⟩ hd) (zjj λ_ _=>.int i)
theorem zhg {op:Operator}{f:D->D->Sto->Option (D × Sto)}{r:R2}(ho:OpR X (binaryOp op) r) (h3:Op3 X.K f r) (ha:PE3 X a ma) (hb:PE3 X b mb):PE3 X (.BinOp a op b pos) (eOp f ma mb):=PE.imp (zxn ho ha hb) (zk0 h3)
theorem zjk {op:CmpOp}{f:D->D->Sto->Option (D × Sto)}{r:R2}(ho:OpR X (compareOp op) r) (h3:Op3 X.K f r) (ha:PE3 X a ma) (hb:PE3 X b mb) (hm:behindInMarks op b=false):PE3 X (.Compare a [op] [b] pos) (eOp f ma mb):=PE.imp (zx0 ho ha hb hm) (zk0 h3)
theorem zmo {K:QFg}{m:EM}(σ:St) (H:Hp) (Q:Bool->Hp->Prop) (q:tt K (tE m) σ H Q):te K m σ H λx H'=>∃k,x=.bl k/\Q k H':=by
 obtain ⟨ρ,l,S,v,S',sim,ro,hm,p⟩:=q
 obtain ⟨⟨x,S1⟩,h1,hm⟩:=bnd hm
 refine ⟨ρ,l,S,x,S1,sim,ro,h1,λρ' H' v' e s r=>?_⟩
 cases r with
 | bl k=>cases hm;exact ⟨_,rfl,p ρ' H' e s⟩
 | _=>cases hm
theorem zfq {op:CmpOp}{f:D->D->Sto->Option (D × Sto)}{r:R2}(ho:OpR X (compareOp op) r) (h3:Op3 X.K f r) (ha:PE3 X a ma) (hb:PE3 X b mb) (hm:behindInMarks op b=false):PT3 X (.Compare a [op] [b] pos) (tE (eOp f ma mb)) :=
 PT.imp (zx1 ho ha hb hm) λσ H Q q=>zk0 h3 σ H _ (zmo σ H Q q)
theorem zf1 {m:EM}(h:PE3 X a m) (he:∀whole,isTrue a X.env whole=(do let v <-whole;standAt a.pos;holding [v] (truthy v)):=by intro _;rfl):PT3 X a (tE m) :=
 PT.imp (zwg h he) λσ H Q q=>zmo σ H Q q
noncomputable def zf2 (f g:D->D->Sto->Option (D × Sto)) (a b c:EM):EM:=λl S=>(a l S).bind λp=>(b l p.2).bind λq=>(f p.1 q.1 q.2).bind λr=>match r.1 with
 | .bl true=>(c l r.2).bind λs=>g q.1 s.1 s.2
 | .bl false=>some (.bl false,r.2)
 | _=>none
theorem zy9 {K:QFg}{f g:D->D->Sto->Option (D × Sto)}{r r':R2}(h:Op3 K f r) (h':Op3 K g r') {a b c:EM}(σ:St) (H:Hp) (Q:VK) (q:te K (zf2 f g a b c) σ H Q):zpf r r' (te K a) (te K b) (te K c) σ H Q:=by
 obtain ⟨ρ,l,S,v,S',sim,ro,hm,p⟩:=q
 obtain ⟨⟨x,S1⟩,h1,hm⟩:=bnd hm
 obtain ⟨⟨y,S2⟩,h2,hm⟩:=bnd hm
 obtain ⟨⟨z,S3⟩,h3,hm⟩:=bnd hm
 refine ⟨ρ,l,S,x,S1,sim,ro,h1,λρ1 H1 x' e1 s1 r1=>⟨ρ1,l,S1,y,S2,s1,ro.mono e1,h2,λρ2 H2 y' e2 s2 r2=>?_⟩⟩
 refine h ρ2 S2 H2 x y x' y' z S3 _ s2 (r1.mono e2) r2 h3 λρ3 H3 z' e3 s3 r3=>?_
 cases r3 with
 | bl k =>
  refine ⟨k,rfl,?_⟩
  cases k with
  | false =>
   cases hm
   exact zfy (p ρ3 H3 _ (e1.trans (e2.trans e3)) s3 (.bl false))
  | true =>
   obtain ⟨⟨w,S4⟩,h4,hm⟩:=bnd hm
   exact zfo ⟨ρ3,l,S3,w,S4,s3,ro.mono (e1.trans (e2.trans e3)),h4,λρ4 H4 w' e4 s4 r4=>h' ρ4 S4 H4 y w y' w' v S' Q s4 (r2.mono (e3.trans e4)) r4 hm (p.ext (e1.trans (e2.trans (e3.trans e4))))⟩
 | _=>cases hm
theorem zmp {op op':CmpOp}{f g:D->D->Sto->Option (D × Sto)}{r r':R2}{mc:EM}(ho:OpR X (compareOp op) r) (ho':OpR X (compareOp op') r') (h3:Op3 X.K f r) (h3':Op3 X.K g r') (ha:PE3 X a ma) (hb:PE3 X b mb) (hc:PE3 X c mc)
  (hm:lastMarks [op,op'] [b,c]=false:=by with_unfolding_all rfl):PT3 X (.Compare a [op,op'] [b,c] pos) (tE (zf2 f g ma mb mc)) :=
 PT.imp (zx2 ho ho' ha hb hc hm) λσ H Q q=>zy9 h3 h3' σ H _ (zmo σ H Q q)
variable {t u:TM}{rest:List Expr}
theorem zza {K:QFg}(σ:St) (H:Hp) (Q:Bool->Hp->Prop) (q:tt K (zis t u) σ H Q):L2.tAnd (tt K t) (tt K u) σ H Q:=by
 obtain ⟨ρ,l,S,v,S',sim,ro,hm,p⟩:=q
 obtain ⟨⟨x,S1⟩,h1,hm⟩:=bnd hm
 refine ⟨ρ,l,S,x,S1,sim,ro,h1,λρ1 H1 e1 s1=>?_⟩
 cases x with
 | true=>exact zfo ⟨ρ1,l,S1,v,S',s1,ro.mono e1,hm,λρ2 H2 e2 s2=>p ρ2 H2 (e1.trans e2) s2⟩
 | false=>cases hm;exact zfy (p ρ1 H1 e1 s1)
theorem zzb {K:QFg}(σ:St) (H:Hp) (Q:Bool->Hp->Prop) (q:tt K (zca t u) σ H Q):L2.tOr (tt K t) (tt K u) σ H Q:=by
 obtain ⟨ρ,l,S,v,S',sim,ro,hm,p⟩:=q
 obtain ⟨⟨x,S1⟩,h1,hm⟩:=bnd hm
 refine ⟨ρ,l,S,x,S1,sim,ro,h1,λρ1 H1 e1 s1=>?_⟩
 cases x with
 | false=>exact zfy ⟨ρ1,l,S1,v,S',s1,ro.mono e1,hm,λρ2 H2 e2 s2=>p ρ2 H2 (e1.trans e2) s2⟩
 | true=>cases hm;exact zfo (p ρ1 H1 e1 s1)
theorem zzc (ha:PT3 X a t):PW3 X (.BoolOp .And [a] pos) t:=zwi ha
theorem zg2 (ha:PT3 X a t):PW3 X (.BoolOp .Or [a] pos) t:=zwj ha
theorem zzd (ha:PT3 X a t) (hb:PW3 X (.BoolOp .And (b :: rest) pos) u):PW3 X (.BoolOp .And (a :: b :: rest) pos) (zis t u):=PW.imp (zwk ha hb) zza
theorem zf3 (ha:PT3 X a t) (hb:PW3 X (.BoolOp .Or (b :: rest) pos) u):PW3 X (.BoolOp .Or (a :: b :: rest) pos) (zca t u):=PW.imp (zwl ha hb) zzb
theorem zgm (h:PW3 X a t):PT3 X a t:=PW.pt h
theorem ze4 (ha:PT3 X a t):PT3 X (.UnaryOp .Not a pos) (zbi t):=PT.imp (zwm ha) λσ H Q hx2_=>by
 obtain ⟨ρ,l,S,v,S',sim,ro,hm,p⟩:=hx2_
 obtain ⟨⟨x,S1⟩,h1,hm⟩:=bnd hm
 cases hm
 exact ⟨ρ,l,S,x,S1,sim,ro,h1,p⟩
theorem ziv {op}(h:PE3 X a ma):PE3 X (.BoolOp op [a] pos) ma:=zwq h
theorem zmq (ha:PE3 X a ma) (hb:PE3 X (.BoolOp .And (b :: rest) pos) mb):PE3 X (.BoolOp .And (a :: b :: rest) pos) (zfz ma mb):=PE.imp (zwr ha hb) λσ H Q hx3_=>by
 obtain ⟨ρ,l,S,v,S',sim,ro,hm,p⟩:=hx3_
 obtain ⟨⟨x,S1⟩,h1,hm⟩:=bnd hm
 refine ⟨ρ,l,S,x,S1,sim,ro,h1,λρ1 H1 x' e1 s1 r1=>?_⟩
 cases r1 with
 | bl k =>
  refine ⟨k,rfl,?_⟩
  cases k with
  | true=>exact zfo ⟨ρ1,l,S1,v,S',s1,ro.mono e1,hm,p.ext e1⟩
  | false=>cases hm;exact zfy (p ρ1 H1 _ e1 s1 (.bl false))
 | _=>cases hm
theorem zze (ha:PE3 X a ma) (hb:PE3 X (.BoolOp .Or (b :: rest) pos) mb):PE3 X (.BoolOp .Or (a :: b :: rest) pos) (zit ma mb):=PE.imp (zws ha hb) λσ H Q hx4_=>by
 obtain ⟨ρ,l,S,v,S',sim,ro,hm,p⟩:=hx4_
 obtain ⟨⟨x,S1⟩,h1,hm⟩:=bnd hm
 refine ⟨ρ,l,S,x,S1,sim,ro,h1,λρ1 H1 x' e1 s1 r1=>?_⟩
 cases r1 with
 | bl k =>
  refine ⟨k,rfl,?_⟩
  cases k with
  | false=>exact zfy ⟨ρ1,l,S1,v,S',s1,ro.mono e1,hm,p.ext e1⟩
  | true=>cases hm;exact zfo (p ρ1 H1 _ e1 s1 (.bl true))
 | _=>cases hm
theorem zzf (ha:PE3 X a ma):PE3 X (.UnaryOp .Not a pos) (ziu ma):=PE.imp (zwt ha) λσ H Q hx5_=>by
 obtain ⟨ρ,l,S,v,S',sim,ro,hm,p⟩:=hx5_
 obtain ⟨⟨x,S1⟩,h1,hm⟩:=bnd hm
 refine ⟨ρ,l,S,x,S1,sim,ro,h1,λρ1 H1 x' e1 s1 r1=>?_⟩
 cases r1 with
 | bl k=>cases hm;exact ⟨k,rfl,p ρ1 H1 _ e1 s1 (.bl _)⟩
 | _=>cases hm
theorem zjl {mc:TM}(hc:PT3 X c mc) (ha:PE3 X a ma) (hb:PE3 X b mb):PE3 X (.IfExp c a b pos) (zeq mc ma mb):=PE.imp (zoz hc ha hb) λσ H Q hx6_=>by
 obtain ⟨ρ,l,S,v,S',sim,ro,hm,p⟩:=hx6_
 obtain ⟨⟨x,S1⟩,h1,hm⟩:=bnd hm
 refine ⟨ρ,l,S,x,S1,sim,ro,h1,λρ1 H1 e1 s1=>?_⟩
 cases x with
 | true=>exact zfo ⟨ρ1,l,S1,v,S',s1,ro.mono e1,hm,p.ext e1⟩
 | false=>exact zfy ⟨ρ1,l,S1,v,S',s1,ro.mono e1,hm,p.ext e1⟩
theorem zaf:PA3 X [] zab:=PA.imp zhz λσ H Q hx7_=>by
 obtain ⟨ρ,l,S,v,S',sim,ro,hm,p⟩:=hx7_
 cases hm
 exact p ρ H [] (Ext.refl ..) sim .nil
theorem zae (ha:PE3 X a ma) (hr:PA3 X es mA) (hs:starEach (a :: es) X.env=(false,eval a X.env) :: starEach es X.env:=by rfl):PA3 X (a :: es) (zaa ma mA):=PA.imp (zfm ha hr hs) λσ H Q hx8_=>by
 obtain ⟨ρ,l,S,v,S',sim,ro,hm,p⟩:=hx8_
 obtain ⟨⟨x,S1⟩,h1,hm⟩:=bnd hm
 obtain ⟨⟨y,S2⟩,h2,hm⟩:=bnd hm
 cases hm
 exact ⟨ρ,l,S,x,S1,sim,ro,h1,λρ1 H1 x' e1 s1 r1=>⟨ρ1,l,S1,y,_,s1,ro.mono e1,h2,λρ2 H2 vs e2 s2 r2=>p ρ2 H2 _ (e1.trans e2) s2 (.cons (r1.mono e2) r2)⟩⟩
noncomputable def zbl:FM:=λxs S=>if xs.length<=sizeLine then some (.tup xs,S) else none
noncomputable def za3:FM:=λxs S=>if xs.length<=sizeLine then some (.ref S.length,S++[.lst xs]) else none
theorem zb3 {α:Type}{c:Prop} [Decidable c] {a b:α}(h:(if c then some a else none)=some b):c/\a=b:=by
 by_cases hc:c
 ·rw [if_pos hc] at h;exact ⟨hc,qoi h⟩
 ·rw [if_neg hc] at h;cases h
theorem zjm {K:QFg}{ρ:List Addr}{S:Sto}{H:Hp}{xs:List D}{vs:List V}{Q:VK}(sim:Sim K ρ S H) (r:RDs ρ H xs vs) (p:Pv K ρ H (.tup xs) S Q):∀a,H a=none->Q (.ref a) (upd H a (.tup vs)):=λa ha =>
 p ρ _ _ (zff ha) (sim.laid ha) (.tup zfe (r.mono (zff ha)))
theorem zh3 {K:QFg}{ρ:List Addr}{S:Sto}{H:Hp}{xs:List D}{vs:List V}{Q:VK}(sim:Sim K ρ S H) (r:RDs ρ H xs vs) (p:Pv K ρ H (.ref S.length) (S++[.lst xs]) Q):∀a,H a=none->Q (.ref a) (upd H a (.lst vs)):=λa ha =>
 p (ρ++[a]) _ _ (zqb ha) (sim.push ha r) (.ref (by rw [<-sim.len];exact zd5 ρ a))
theorem zel {x1}(h:PA3 X es mA):PE3 X (.Tuple es x1 pos) (zac zbl mA):=PE.imp (zpj h) λσ H Q hx9_=>by
 obtain ⟨ρ,l,S,v,S',sim,ro,hm,p⟩:=hx9_
 obtain ⟨⟨x,S1⟩,h1,hm⟩:=bnd hm
 obtain ⟨hz,e⟩:=zb3 hm
 cases e
 exact ⟨ρ,l,S,x,_,sim,ro,h1,λρ1 H1 vs e1 s1 r1=>⟨by rw [<-r1.length];exact hz,zjm s1 r1 (p.ext e1)⟩⟩
theorem zcb (h:PA3 X es mA):PE3 X (.List es pos) (zac za3 mA):=PE.imp (zyc h) λσ H Q hx10_=>by
 obtain ⟨ρ,l,S,v,S',sim,ro,hm,p⟩:=hx10_
 obtain ⟨⟨x,S1⟩,h1,hm⟩:=bnd hm
 obtain ⟨hz,e⟩:=zb3 hm
 cases e
 exact ⟨ρ,l,S,x,_,sim,ro,h1,λρ1 H1 vs e1 s1 r1=>⟨by rw [<-r1.length];exact hz,zh3 s1 r1 (p.ext e1)⟩⟩
theorem zqd {K:QFg}{f:FM}{r:List V->Hp->VK->Prop}(h3:Fn3 K f r) (σ:St) (H:Hp) (Q:VK) (q:te K (zac f mA) σ H Q):tCB r (ta K mA) σ H Q:=by
 obtain ⟨ρ,l,S,v,S',sim,ro,hm,p⟩:=q
 obtain ⟨⟨x,S1⟩,h1,hm⟩:=bnd hm
 exact ⟨ρ,l,S,x,S1,sim,ro,h1,λρ1 H1 vs e1 s1 r1=>h3 ρ1 S1 H1 x vs v S' Q s1 r1 hm (p.ext e1)⟩
theorem zjn {x:Str}{p:Pos}{id:String}{f:FM}{r:List V->Hp->VK->Prop}(hc:CallR X (.builtin id) r) (h3:Fn3 X.K f r) (hg:Gl X x) (hm:X.mg x=none) (hv:bootBuiltins x=some (.builtin id)) (ha:PA3 X (a :: es) mA) (hn:x≠"__name__":=by decide) (hdb:(x == ("__debug__":Str))=false:=by decide)
  (he:starEach (a :: es) X.env=(false,eval a X.env) :: starEach es X.env:=by rfl) (hpl:(backTo pos (starEach es X.env)).any (·.1)=false:=by rfl):PE3 X (.Call (.Name x p) (a :: es) [] pos) (zac f mA) :=
 PE.imp (zjg hc hg hm hv ha hn hdb he hpl) (zqd h3)
theorem zjo {x:Str}{p:Pos}{T:String}{f:FM}{r:List V->Hp->VK->Prop}(hc:CallR X (.type T) r) (h3:Fn3 X.K f r) (hg:Gl X x) (hm:X.mg x=none) (hv:bootBuiltins x=some (.type T)) (ha:PA3 X (a :: es) mA) (hn:x≠"__name__":=by decide) (hdb:(x == ("__debug__":Str))=false:=by decide)
  (he:starEach (a :: es) X.env=(false,eval a X.env) :: starEach es X.env:=by rfl) (hpl:(backTo pos (starEach es X.env)).any (·.1)=false:=by rfl):PE3 X (.Call (.Name x p) (a :: es) [] pos) (zac f mA) :=
 PE.imp (zpt hc hg hm hv ha hn hdb he hpl) (zqd h3)
end
noncomputable def oI (C:Int->Int->Bool) (g:Int->Int->D):D->D->Sto->Option (D × Sto)
 | .int i,.int j,S=>if C i j=true then some (g i j,S) else none
 | _,_,_=>none
noncomputable def oI0 (g:Int->Int->D):D->D->Sto->Option (D × Sto)
 | .int i,.int j,S=>some (g i j,S)
 | _,_,_=>none
theorem zmr {K:QFg}{C:Int->Int->Bool}{C':Int->Int->Prop}{g:Int->Int->D}{g':Int->Int->V}(hC:∀i j,C i j=true->C' i j) (hg:∀ρ H i j,RD ρ H (g i j) (g' i j)):Op3 K (oI C g) (rI C' g'):=by
 intro ρ S H x y x' y' v S' Q sim rx ry h p
 unfold oI at h
 split at h
 ·rename_i i j
  cases rx;cases ry
  obtain ⟨hc,e⟩:=zb3 h
  cases e
  exact ⟨i,j,rfl,rfl,hC i j hc,p ρ H _ (Ext.refl ..) sim (hg ρ H i j)⟩
 ·cases h
theorem zgn {K:QFg}{g:Int->Int->D}{g':Int->Int->V}(hg:∀ρ H i j,RD ρ H (g i j) (g' i j)):Op3 K (oI0 g) (rI0 g'):=by
 intro ρ S H x y x' y' v S' Q sim rx ry h p
 unfold oI0 at h
 split at h
 ·rename_i i j
  cases rx;cases ry
  cases h
  exact ⟨i,j,rfl,rfl,p ρ H _ (Ext.refl ..) sim (hg ρ H i j)⟩
 ·cases h
theorem Op3.or {K:QFg}{f:D->D->Sto->Option (D × Sto)}{g:D->D->Sto->Option (D × Sto)}{r r':R2}(h:Op3 K f r) (h':Op3 K g r'):Op3 K (λx y S=>match f x y S with|some v=>some v|none=>g x y S) (λx y H Q=>r x y H Q\/r' x y H Q):=by
 intro ρ S H x y x' y' v S' Q sim rx ry hm p
 dsimp only at hm
 cases e:f x y S with
 | some w=>rw [e] at hm;cases hm;exact .inl (h ρ S H x y x' y' _ _ Q sim rx ry e p)
 | none=>rw [e] at hm;exact .inr (h' ρ S H x y x' y' _ _ Q sim rx ry hm p)
noncomputable abbrev zjp:=oI0 λi j=>.int (i-j)
noncomputable abbrev zms:=oI (λi j=>decide (0<j/\j<1073741824)) λi j=>.int (i / j)
noncomputable abbrev zf4:=oI (λi j=>decide (0<j)) λi j=>.int (i % j)
noncomputable abbrev zjq:=oI (λi j=>decide (0<=j/\j<=1000000/\i.natAbs<2 ^ 64)) λi j=>.int (i ^ j.toNat)
noncomputable abbrev dLt:=oI0 λi j=>.bl (decide (i<j))
noncomputable abbrev dLe:=oI0 λi j=>.bl (decide (i<=j))
noncomputable abbrev dGt:=oI0 λi j=>.bl (decide (j<i))
noncomputable abbrev dGe:=oI0 λi j=>.bl (decide (j<=i))
section
variable {X:Cx}{a b:Expr}{ma mb:EM}{pos:Pos}
theorem zqe (ha:PE3 X a ma) (hb:PE3 X b mb):PE3 X (.BinOp a .Sub b pos) (eOp zjp ma mb):=zhg zxo (zgn λ_ _ _ _=>.int _) ha hb
theorem zqf (ha:PE3 X a ma) (hb:PE3 X b mb):PE3 X (.BinOp a .FloorDiv b pos) (eOp zms ma mb):=zhg zxp (zmr (λi j h=>by first|(unfold CMul;exact of_decide_eq_true h)|(unfold zku;exact of_decide_eq_true h)|(unfold zkv;exact of_decide_eq_true h)|exact of_decide_eq_true h) λ_ _ _ _=>.int _) ha hb
theorem zgo (ha:PE3 X a ma) (hb:PE3 X b mb):PE3 X (.BinOp a .Mod b pos) (eOp zf4 ma mb):=zhg zxq (zmr (λi j h=>by first|(unfold CMul;exact of_decide_eq_true h)|(unfold zku;exact of_decide_eq_true h)|(unfold zkv;exact of_decide_eq_true h)|exact of_decide_eq_true h) λ_ _ _ _=>.int _) ha hb
theorem zk1 (ha:PE3 X a ma) (hb:PE3 X b mb):PE3 X (.BinOp a .Pow b pos) (eOp zjq ma mb):=zhg zxr (zmr (λi j h=>by first|(unfold CMul;exact of_decide_eq_true h)|(unfold zku;exact of_decide_eq_true h)|(unfold zkv;exact of_decide_eq_true h)|exact of_decide_eq_true h) λ_ _ _ _=>.int _) ha hb
theorem zmt (ha:PE3 X a ma) (hb:PE3 X b mb):PT3 X (.Compare a [.Lt] [b] pos) (tE (eOp dLt ma mb)):=zfq zxt (zgn λ_ _ _ _=>.bl _) ha hb (ze2 b)
theorem ziw (ha:PE3 X a ma) (hb:PE3 X b mb):PT3 X (.Compare a [.Gt] [b] pos) (tE (eOp dGt ma mb)):=zfq zxu (zgn λ_ _ _ _=>.bl _) ha hb (ze2 b)
theorem zzg (ha:PE3 X a ma) (hb:PE3 X b mb):PT3 X (.Compare a [.GtE] [b] pos) (tE (eOp dGe ma mb)):=zfq zxv (zgn λ_ _ _ _=>.bl _) ha hb (ze2 b)
end
noncomputable def sEq:D->D->Option Bool
 | .non,.non=>some true | .non,.int _=>some false | .int _,.non=>some false | .non,.bl _=>some false | .bl _,.non=>some false | .non,.str _=>some false | .str _,.non=>some false
 | .int i,.int j=>some (decide (i=j)) | .bl i,.bl j=>some (decide (i=j)) | .str i,.str j=>some (decide (i=j))
 | .int _,.str _=>some false | .str _,.int _=>some false | .bl _,.str _=>some false | .str _,.bl _=>some false
 | _,_=>none
noncomputable def dEq:D->D->Sto->Option (D × Sto):=λx y S=>(sEq x y).bind λb=>some (.bl b,S)
noncomputable def dNe:D->D->Sto->Option (D × Sto):=λx y S=>(sEq x y).bind λb=>some (.bl (!b),S)
theorem zqg {ρ:List Addr}{H:Hp}{x y:D}{x' y':V}{b:Bool}(rx:RD ρ H x x') (ry:RD ρ H y y') (h:sEq x y=some b):zmj x' y' = true/\decide (x' = y')=b:=by
 cases rx <;> cases ry <;> first
  | (cases (show (none:Option Bool)=some b from h))
  | (have h:=qoi h;subst h;exact ⟨rfl,rfl⟩)
  | (have h:=qoi h;subst h;exact ⟨rfl,by simp⟩)
theorem zqh {K:QFg}:Op3 K dEq rEq:=by
 intro ρ S H x y x' y' v S' Q sim rx ry h p
 obtain ⟨b,h1,h⟩:=bnd h
 cases h
 obtain ⟨h2,h3⟩:=zqg rx ry h1
 exact ⟨h2,by rw [h3];exact p ρ H _ (Ext.refl ..) sim (.bl b)⟩
theorem zzh {K:QFg}:Op3 K dNe rNe:=by
 intro ρ S H x y x' y' v S' Q sim rx ry h p
 obtain ⟨b,h1,h⟩:=bnd h
 cases h
 obtain ⟨h2,h3⟩:=zqg rx ry h1
 exact ⟨h2,by rw [h3];exact p ρ H _ (Ext.refl ..) sim (.bl _)⟩
noncomputable def zf5:D->Bool
 | .non=>true
 | _=>false
noncomputable def dIs:D->D->Sto->Option (D × Sto)
 | x,.non,S=>some (.bl (zf5 x),S)
 | _,_,_=>none
noncomputable def zjr:D->D->Sto->Option (D × Sto)
 | x,.non,S=>some (.bl (!zf5 x),S)
 | _,_,_=>none
theorem zqi {ρ:List Addr}{H:Hp}{x:D}{x':V}(r:RD ρ H x x'):decide (x' = .non)=zf5 x:=by
 cases r <;> simp [zf5]
theorem zzi {K:QFg}:Op3 K dIs (λx y H Q=>y=.non/\Q (.bl (decide (x=.non))) H):=by
 intro ρ S H x y x' y' v S' Q sim rx ry h p
 unfold dIs at h
 split at h
 ·cases h;cases ry
  exact ⟨rfl,by rw [zqi rx];exact p ρ H _ (Ext.refl ..) sim (.bl _)⟩
 ·cases h
theorem zzj {K:QFg}:Op3 K zjr (λx y H Q=>y=.non/\Q (.bl (!decide (x=.non))) H):=by
 intro ρ S H x y x' y' v S' Q sim rx ry h p
 unfold zjr at h
 split at h
 ·cases h;cases ry
  exact ⟨rfl,by rw [zqi rx];exact p ρ H _ (Ext.refl ..) sim (.bl _)⟩
 ·cases h
section
variable {X:Cx}{a b:Expr}{ma mb:EM}{pos:Pos}
theorem zqj (ha:PE3 X a ma) (hb:PE3 X b mb):PE3 X (.Compare a [.Eq] [b] pos) (eOp dEq ma mb):=zjk zpd zqh ha hb (ze2 b)
theorem zzk (ha:PE3 X a ma) (hb:PE3 X b mb):PE3 X (.Compare a [.IsNot] [b] pos) (eOp zjr ma mb):=zjk zxy zzj ha hb (ze2 b)
theorem zcx (ha:PE3 X a ma) (hb:PE3 X b mb):PT3 X (.Compare a [.Eq] [b] pos) (tE (eOp dEq ma mb)):=zfq zpd zqh ha hb (ze2 b)
theorem zgp (ha:PE3 X a ma) (hb:PE3 X b mb):PT3 X (.Compare a [.NotEq] [b] pos) (tE (eOp dNe ma mb)):=zfq zxs zzh ha hb (ze2 b)
theorem zmu (ha:PE3 X a ma) (hb:PE3 X b mb):PT3 X (.Compare a [.Is] [b] pos) (tE (eOp dIs ma mb)):=zfq zxx zzi ha hb (ze2 b)
end
noncomputable def dIx:D->D->Sto->Option (D × Sto)
 | .tup xs,.int i,S=>(atI xs i).bind λv=>some (v,S)
 | .ref n,.int i,S=>(lstOf S n).bind λxs=>(atI xs i).bind λv=>some (v,S)
 | _,_,_=>none
theorem zqk {ρ:List Addr}{H:Hp}{xs:List D}{vs:List V}{i:Int}{x:D}(r:RDs ρ H xs vs) (h:atI xs i=some x):∃v,atI vs i=some v/\RD ρ H x v:=by
 unfold atI at h ⊢
 rw [<-r.length]
 cases e:ixN xs.length i with
 | none=>rw [e] at h;cases h
 | some j =>
  rw [e] at h
  exact r.get (i:=j) h
theorem zzl {K:QFg}:Op3 K dIx (rIx K):=by
 intro ρ S H x y x' y' v S' Q sim rx ry h p
 unfold dIx at h
 split at h
 ·cases ry
  obtain ⟨w,h1,h⟩:=bnd h
  cases h
  cases rx with
  | tup ha r =>
   obtain ⟨u,h2,r2⟩:=zqk r h1
   exact .inr (.inl ⟨_,_,_,u,rfl,rfl,SqT.of ha,h2,p ρ H u (Ext.refl ..) sim r2⟩)
 ·cases ry
  obtain ⟨xs,h0,h⟩:=bnd h
  obtain ⟨w,h1,h⟩:=bnd h
  cases h
  cases rx with
  | ref hn =>
   obtain ⟨a,vs,ha,sq,r⟩:=sim.lstOf h0
   rw [ha] at hn;cases hn
   obtain ⟨u,h2,r2⟩:=zqk r h1
   exact .inl ⟨_,_,_,u,rfl,rfl,sq,h2,p ρ H u (Ext.refl ..) sim r2⟩
 ·cases h
section
variable {X:Cx}{a b:Expr}{ma mb:EM}{pos:Pos}
end
abbrev OM:=Lo->Sto->Option (Option Int × Sto)
noncomputable def zb4:OM:=λ_ S=>some (none,S)
noncomputable def zbf (m:EM):OM:=λl S=>(m l S).bind λp=>match p.1 with
 | .int i=>some (some i,p.2)
 | _=>none
noncomputable def zez (xs:List D) (lo hi:Option Int):List D:=(xs.drop (HT.sIx xs.length 0 lo)).take (HT.sIx xs.length xs.length hi-HT.sIx xs.length 0 lo)
inductive tO (K:QFg) (m:OM) (σ:St) (H:Hp) (Q:Option Int->Hp->Prop):Prop
 | mk (ρ:_) (l:_) (S:_) (v:_) (S':_) (_:Sim K ρ S H) (_:RO ρ H l σ) (_:m l S=some (v,S')) (_:∀ρ' H',Ext ρ H ρ' H'->Sim K ρ' S' H'->Q v H')
def PO3 (X:Cx) (e:Option Expr) (m:OM):Prop:=PO X e (tO X.K m)
section
variable {X:Cx}{a b:Expr}{ma mb:EM}{pos p2:Pos}{lo hi:Option Expr}{ml mh:OM}
theorem PO.imp {e:Option Expr}{t u:TO}(h:PO X e t) (i:∀σ H Q,u σ H Q->t σ H Q):PO X e u:=λpins s σ H Q I q=>h pins s σ H Q I (i _ _ _ q)
theorem ze5:PO3 X none zb4:=PO.imp zyl λσ H Q hx1_=>by
 obtain ⟨ρ,l,S,v,S',sim,ro,hm,p⟩:=hx1_
 cases hm
 exact p ρ H (Ext.refl ..) sim
theorem zef (h:PE3 X a ma):PO3 X (some a) (zbf ma):=PO.imp (zym h) λσ H Q hx2_=>by
 obtain ⟨ρ,l,S,v,S',sim,ro,hm,p⟩:=hx2_
 obtain ⟨⟨x,S1⟩,h1,hm⟩:=bnd hm
 refine ⟨ρ,l,S,x,S1,sim,ro,h1,λρ1 H1 x' e1 s1 r1=>?_⟩
 cases r1 with
 | int i=>cases hm;exact ⟨i,rfl,p ρ1 H1 e1 s1⟩
 | _=>cases hm
end
end L3
namespace HT
open PySem PyProof.Rows
section
variable {prog:Program}{w:World}{A:Around}{E:Value->Shared->Prop}{s:Shared}
theorem getItem_tuple_whole {t sl:Addr}{items:Array Value}{vl vu:Value}{lo hi:Option Int}{Q:Value->Shared->Prop}(ht:IsTup s.heap t items) (hs:s.heap.IsSliceOf sl vl vu .none) (pl:IsPart vl lo) (pu:IsPart vu hi)
  (hw:sIx items.size 0 lo=0/\sIx items.size items.size hi=items.size)
  (h:Q (.ref t) s):wpAny (model prog w) A (getItem (.ref t) (.ref sl)) Q E s:=by
 obtain ⟨os,hos,hcs,hds⟩:=id hs
 have hTs:s.TypeIs (.ref sl) "slice":=⟨os,hos,hcs⟩
 unfold getItem
 try with_reducible refine wpAny_holding ?_
 first|refine qwb (qwp ?_)|skip
 refine qwb (wpAny_sequenceKey ht.typeIs (by decide) ?_)
 refine qwb (wpAny_callSpecial?_slot (name:=Str.ofString "__getitem__") ht.typeIs PyProof.Rows.slot_tuple_getitem
  (wpAny_call_entry PyProof.Rows.slot_tuple_getitem ht.typeIs entry_tuple_getitem ?_ (args_tuple_getitem _ _)))
 show wpAny _ _ (Builtin.Tuple.tupleItemsOf (.ref t) >>= _) _ _ s
 refine qwb (tupleItemsOf_ ht ?_)
 refine qwb (wpAny_typeOf hTs ?_)
 rw [if_pos (by decide)]
 refine qwb (zpw hs pl pu ?_)
 have hyes:((((sIx items.size 0 lo:Nat):Int) == 0 && (1:Int) == 1 && (sIx items.size items.size hi-sIx items.size 0 lo) == items.size)=true):=by
  rw [hw.1,hw.2];simp
 show wpAny _ _ (if (((sIx items.size 0 lo:Nat):Int) == 0 && (1:Int) == 1 && (sIx items.size items.size hi-sIx items.size 0 lo) == items.size)=true then _ else _) _ _ s
 rw [if_pos hyes]
 unfold Builtin.Tuple.tupleIsExact
 refine qwb (qwb (wpAny_typeOf ht.typeIs (qwp ?_)))
 rw [if_pos (by decide)]
 exact qwb (wpAny_rule (qwb (qwp (qwp ⟨_,rfl,qwp h⟩))))
end
end HT
namespace L3
open PySem PySem.Spec PyProof.Rows L2
section
variable {X:Cx}{a b:Expr}{ma mb:EM}{pos p2:Pos}{lo hi:Option Expr}{ml mh:OM}
def zzm (K:QFg):V->Option Int->Option Int->Hp->VK->Prop:=λx lo hi H Q=>∃a xs,x=.ref a/\SqT K H a xs /\
 (HT.sIx xs.length 0 lo=0/\HT.sIx xs.length xs.length hi=xs.length)/\Q (.ref a) H
theorem zzn:SlR X (zzm X.K):=by
 intro pins s σ H x v vl vu lo hi sl Q I rx hs pl pu h
 obtain ⟨a,xs,rfl,hx,hw,q⟩:=h
 cases rx
 obtain ⟨its,r,ht,hz⟩:=I.tuple hx
 have hlen:its.toArray.size=xs.length:=by rw [List.size_toArray];exact r.length.symm
 refine ⟨"tuple",_,PyProof.Rows.slot_tuple_getitem.lookup,ht.typeIs,?_⟩
 exact HT.getItem_tuple_whole ht hs pl pu (by rw [hlen];exact hw) ⟨.ref a,H,I,rfl,q⟩
theorem zzo (xs:List D) (lo hi:Option Int) (h:HT.sIx xs.length 0 lo=0/\HT.sIx xs.length xs.length hi=xs.length):zez xs lo hi=xs:=by
 unfold zez;rw [h.1,h.2];simp
end
noncomputable def zmv:D->D->Sto->Option (D × Sto)
 | .tup xs,.tup ys,S=>if xs.length+ys.length<=sizeLine then some (.tup (xs++ys),S) else none
 | _,_,_=>none
def zmw (K:QFg):R2:=λx y H Q=>∃a b ys,x=.ref a/\y=.ref b/\SqT K H a []/\SqT K H b ys/\Q (.ref b) H
theorem zzp {X:Cx}:OpR X (binaryOp .Add) (zmw X.K):=by
 intro pins s σ H x y v u Q I rx ry h
 obtain ⟨a,b,ys,rfl,rfl,ha,hb,q⟩:=h
 cases rx
 cases ry
 obtain ⟨its,r1,p1,_⟩:=I.tuple ha
 obtain ⟨its2,r2,p2,_⟩:=I.tuple hb
 cases r1
 obtain ⟨⟨cls,dd,data,sl⟩,ho,hc,n,hd⟩:=id p1
 obtain ⟨⟨cls2,dd2,data2,sl2⟩,ho2,hc2,n2,hd2⟩:=id p2
 simp only at hc hd hc2 hd2
 subst hc hd hc2 hd2
 exact concat_meets ⟨_,ho,rfl⟩ ⟨_,ho2,rfl⟩ noFill_tuple_add seq_tuple_add PySem.F.slot_tuple_add PySem.F.entry_tuple_add (PySem.F.args_tuple_add_2 _ _)
   (tuple_addW0 a b ([]:List Value).toArray its2.toArray n n2 dd dd2 sl sl2 (by simp)) ⟨ho,ho2,⟨.ref b,H,I,rfl,q⟩⟩
theorem zzq {K:QFg}:Op3 K zmv (λx y H Q=>zmk K x y H Q\/zmw K x y H Q):=by
 intro ρ S H x y x' y' v S' Q sim rx ry h p
 unfold zmv at h
 split at h
 ·obtain ⟨hz,e⟩:=zb3 h
  cases e
  cases rx with
  | @tup xs a vs ha r =>
   cases ry with
   | @tup ys b ws hb q =>
    cases r with
    | nil=>exact .inr ⟨a,b,ws,rfl,rfl,SqT.of ha,SqT.of hb,p ρ H _ (Ext.refl ..) sim (.tup hb q)⟩
    | cons r1 r2 =>
     refine .inl ⟨a,b,_,ws,rfl,rfl,SqT.of ha,SqT.of hb,by simp,by rw [<-(RDs.cons r1 r2).length,<-q.length];exact hz,λe=>?_,λ_=>?_⟩
     ·subst e
      cases q
      rw [List.append_nil] at p
      exact p ρ H _ (Ext.refl ..) sim (.tup ha (.cons r1 r2))
     ·exact zjm sim ((RDs.cons r1 r2).append q) p
 ·cases h
section
variable {X:Cx}{a b:Expr}{ma mb:EM}{pos:Pos}
end
noncomputable def zjs:FM
 | [.tup xs],S=>some (.int xs.length,S)
 | [.ref n],S=>(lstOf S n).bind λxs=>some (.int xs.length,S)
 | _,_=>none
noncomputable def zmx:FM
 | [.int i],S=>some (.int i,S)
 | [.bl b],S=>some (.int (if b then 1 else 0),S)
 | _,_=>none
noncomputable def zc9:FM
 | [.tup xs],S=>some (.tup xs,S)
 | [.ref n],S=>(lstOf S n).bind λxs=>some (.tup xs,S)
 | _,_=>none
noncomputable def zg3:FM
 | [.tup xs],S=>some (.ref S.length,S++[.lst xs])
 | [.ref n],S=>(lstOf S n).bind λxs=>some (.ref S.length,S++[.lst xs])
 | _,_=>none
noncomputable def zjt:FM
 | [.int i,.int j],S=>some (.int (if j<i then j else i),S)
 | _,_=>none
noncomputable def zju:FM
 | [.int i,.int j],S=>some (.int (if j > i then j else i),S)
 | _,_=>none
section
variable {K:QFg}
theorem zzr:Fn3 K zjs (λxs H Q=>∃p ys,xs=[.ref p]/\(SqL K H p ys\/SqT K H p ys)/\Q (.int ys.length) H):=by
 intro ρ S H xs vs v S' Q sim r h p
 unfold zjs at h
 split at h
 ·cases h
  obtain ⟨w,rfl,rw'⟩:=r.one
  cases rw' with
  | tup ha r2=>exact ⟨_,_,rfl,.inr (SqT.of ha),by rw [<-r2.length];exact p ρ H _ (Ext.refl ..) sim (.int _)⟩
 ·obtain ⟨ys,h1,h⟩:=bnd h
  cases h
  obtain ⟨w,rfl,rw'⟩:=r.one
  obtain ⟨a,us,ha,sq,r2⟩:=sim.lstOf h1
  cases rw' with
  | ref hn =>
   rw [ha] at hn;cases hn
   exact ⟨_,_,rfl,.inl sq,by rw [<-r2.length];exact p ρ H _ (Ext.refl ..) sim (.int _)⟩
 ·cases h
theorem zzs:Fn3 K zmx (λxs H Q=>(∃i,xs=[.int i]/\Q (.int i) H)\/∃k,xs=[.bl k]/\Q (.int (if k then 1 else 0)) H):=by
 intro ρ S H xs vs v S' Q sim r h p
 unfold zmx at h
 split at h
 ·cases h
  obtain ⟨w,rfl,rw'⟩:=r.one
  cases rw'
  exact .inl ⟨_,rfl,p ρ H _ (Ext.refl ..) sim (.int _)⟩
 ·cases h
  obtain ⟨w,rfl,rw'⟩:=r.one
  cases rw'
  exact .inr ⟨_,rfl,p ρ H _ (Ext.refl ..) sim (.int _)⟩
 ·cases h
theorem zzt:Fn3 K zjt (λxs H Q=>∃i j,xs=[.int i,.int j]/\Q (.int (if j<i then j else i)) H):=by
 intro ρ S H xs vs v S' Q sim r h p
 unfold zjt at h
 split at h
 ·cases h
  obtain ⟨w,u,rfl,rw',ru⟩:=r.two
  cases rw';cases ru
  exact ⟨_,_,rfl,p ρ H _ (Ext.refl ..) sim (.int _)⟩
 ·cases h
theorem zzu:Fn3 K zju (λxs H Q=>∃i j,xs=[.int i,.int j]/\Q (.int (if j > i then j else i)) H):=by
 intro ρ S H xs vs v S' Q sim r h p
 unfold zju at h
 split at h
 ·cases h
  obtain ⟨w,u,rfl,rw',ru⟩:=r.two
  cases rw';cases ru
  exact ⟨_,_,rfl,p ρ H _ (Ext.refl ..) sim (.int _)⟩
 ·cases h
theorem zzv:Fn3 K zc9 (λxs H Q=>∃p ys,xs=[.ref p]/\((SqL K H p ys/\∀l,H l=none->Q (.ref l) (upd H l (.tup ys)))\/(SqT K H p ys/\Q (.ref p) H))):=by
 intro ρ S H xs vs v S' Q sim r h p
 unfold zc9 at h
 split at h
 ·cases h
  obtain ⟨w,rfl,rw'⟩:=r.one
  cases rw' with
  | tup ha r2=>exact ⟨_,_,rfl,.inr ⟨SqT.of ha,p ρ H _ (Ext.refl ..) sim (.tup ha r2)⟩⟩
 ·obtain ⟨ys,h1,h⟩:=bnd h
  cases h
  obtain ⟨w,rfl,rw'⟩:=r.one
  obtain ⟨a,us,ha,sq,r2⟩:=sim.lstOf h1
  cases rw' with
  | ref hn =>
   rw [ha] at hn;cases hn
   exact ⟨_,_,rfl,.inl ⟨sq,zjm sim r2 p⟩⟩
 ·cases h
theorem zzw:Fn3 K zg3 (λxs H Q=>∃p ys,xs=[.ref p]/\(SqL K H p ys\/SqT K H p ys)/\∀l,H l=none->Q (.ref l) (upd H l (.lst ys))):=by
 intro ρ S H xs vs v S' Q sim r h p
 unfold zg3 at h
 split at h
 ·cases h
  obtain ⟨w,rfl,rw'⟩:=r.one
  cases rw' with
  | tup ha r2=>exact ⟨_,_,rfl,.inr (SqT.of ha),zh3 sim r2 p⟩
 ·obtain ⟨ys,h1,h⟩:=bnd h
  cases h
  obtain ⟨w,rfl,rw'⟩:=r.one
  obtain ⟨a,us,ha,sq,r2⟩:=sim.lstOf h1
  cases rw' with
  | ref hn =>
   rw [ha] at hn;cases hn
   exact ⟨_,_,rfl,.inl sq,zh3 sim r2 p⟩
 ·cases h
end
noncomputable def tyD (S:Sto):D->Option String
 | .non=>some "NoneType" | .bl _=>some "bool" | .int _=>some "int" | .str _=>some "str" | .tup _=>some "tuple"
 | .ref n=>match S[n]? with
  | some (.lst _)=>some "list"
  | some (.dct _)=>some "dict"
  | _=>none
 | .fn _=>none
noncomputable def isI (T U:String):Bool:=T == U || (T == "bool" && U == "int")
noncomputable def zjv (U:String):D->Sto->Option (D × Sto):=λx S=>(tyD S x).bind λT=>some (.bl (isI T U),S)
noncomputable def ze6:D->List D->Sto->Option (D × Sto)
 | .ref n,[x],S=>match S[n]? with
  | some (.lst xs)=>if xs.length<sizeLine then some (.non,S.set n (.lst (xs++[x]))) else none
  | _=>none
 | _,_,_=>none
section
variable {K:QFg}
theorem zzx:Mt3 K ze6 zp3:=by
 intro ρ S H x x' xs vs v S' Q sim rx r h p
 unfold ze6 at h
 split at h
 ·split at h
  ·rename_i n y S ys e
   obtain ⟨hz,e2⟩:=zb3 h
   cases e2
   obtain ⟨w,rfl,rw'⟩:=r.one
   obtain ⟨a,us,ha,hH,r2⟩:=sim.lst e
   cases rx with
   | ref hn =>
    rw [ha] at hn;cases hn
    exact ⟨a,us,w,rfl,rfl,hH,by rw [<-r2.length];exact hz,p ρ _ _ (zqa ha hH) (sim.set ha e hH (r2.append (.cons rw' .nil))) .non⟩
  ·cases h
 ·cases h
end
noncomputable def zix:D->Sto->Option (List D)
 | .ref n,S=>lstOf S n
 | _,_=>none
noncomputable def zfg (f:D->List D->Sto->Option (D × Sto)) (o:EM) (as:AM):EM:=λl S=>(o l S).bind λp=>(zix p.1 p.2).bind λ_=>(as l p.2).bind λq=>f p.1 q.1 q.2
section
variable {X:Cx}{a o e:Expr}{es:List Expr}{mo:EM}{mA:AM}{name:Str}{apos cpos pos:Pos}{id:String}{f:D->List D->Sto->Option (D × Sto)}{r:V->List V->Hp->VK->Prop}
theorem zzy {K:QFg}{ρ:List Addr}{S:Sto}{H:Hp}{x:D}{x':V}{xs:List D}(sim:Sim K ρ S H) (rx:RD ρ H x x') (h:zix x S=some xs):tyV K "list" x' H:=by
 unfold zix at h
 split at h
 ·obtain ⟨a,us,ha,sq,r2⟩:=sim.lstOf h
  cases rx with
  | ref hn =>
   rw [ha] at hn;cases hn
   exact .inl ⟨rfl,us,sq⟩
 ·cases h
theorem zzz (slot:Slot "list" name id) (hty:typeOf (.builtin id)=pure (.type "method_descriptor")) (hm:MtM X id r) (h3:Mt3 X.K f r) (ho:PE3 X o mo) (ha:PA3 X (e :: es) mA)
  (hbase:attributeBase o name X.env (eval o X.env)=eval o X.env:=by rfl)
  (hfew:((backTo cpos (starEach (e :: es) X.env)).all (λx=>!x.1) && (backToKw cpos (keywordEach [] X.env)).all (λx=>x.1.isSome)
   && decide ((e :: es).length+([]:List Keyword).length+(if ([]:List Keyword).isEmpty then 0 else 1)<30))=true:=by rfl)
  (hline:(apos.endLine == cpos.line)=true:=by rfl) (hs:starEach (e :: es) X.env=(false,eval e X.env) :: starEach es X.env:=by rfl) (hplain:(backTo cpos (starEach es X.env)).any (·.1)=false:=by rfl) :
  PE3 X (.Call (.Attribute o name apos) (e :: es) [] cpos) (zfg f mo mA) :=
 PE.imp (zkw PySem.F.plainAttrs_list slot hty hm ho ha hbase hfew hline hs hplain) λσ H Q hx1_=>by
  obtain ⟨ρ,l,S,v,S',sim,ro,hq,p⟩:=hx1_
  obtain ⟨⟨x,S1⟩,h1,hq⟩:=bnd hq
  obtain ⟨xs,h2,hq⟩:=bnd hq
  obtain ⟨⟨ys,S2⟩,h4,hq⟩:=bnd hq
  exact ⟨ρ,l,S,x,S1,sim,ro,h1,λρ1 H1 x' e1 s1 r1=>⟨zzy s1 r1 h2,ρ1,l,S1,ys,S2,s1,ro.mono e1,h4,λρ2 H2 vs e2 s2 r2=>h3 ρ2 S2 H2 x x' ys vs v S' Q s2 (r1.mono e2) r2 hq (p.ext (e1.trans e2))⟩⟩
theorem ziy {m:EM}(ho:PE3 X o mo) (he:PE3 X e m)
  (hbase:attributeBase o "append" X.env (eval o X.env)=eval o X.env:=by rfl)
  (hfew:((backTo cpos (starEach [e] X.env)).all (λx=>!x.1) && (backToKw cpos (keywordEach [] X.env)).all (λx=>x.1.isSome)
   && decide ([e].length+([]:List Keyword).length+(if ([]:List Keyword).isEmpty then 0 else 1)<30))=true:=by rfl)
  (hline:(apos.endLine == cpos.line)=true:=by rfl) (hs:starEach [e] X.env=(false,eval e X.env) :: starEach [] X.env:=by rfl) :
  PE3 X (.Call (.Attribute o "append" apos) [e] [] cpos) (zfg ze6 mo (zaa m zab)) :=
 zzz PySem.F.slot_list_append PySem.F.type_list_append zp4 zzx ho (zae he zaf hs) hbase hfew hline hs
end
section
variable {X:Cx}{a:Expr}{ma:EM}{pos p p2:Pos}
theorem zz0 {K:QFg}{T U:String}(hT:T∈["NoneType","bool","int","str","tuple","list","dict"]) (hU:U∈["bool","int","str","tuple","list"]):PySem.W.kitOne K (.type T) (.type U)=some (isI T U):=by
 simp only [List.mem_cons,List.not_mem_nil,or_false] at hT hU
 rcases hT with rfl|rfl|rfl|rfl|rfl|rfl|rfl <;> rcases hU with rfl|rfl|rfl|rfl|rfl <;> rfl
theorem zql {U:String}{y:Str}(hg:Gl X "isinstance") (hm:X.mg "isinstance" = none) (hgy:Gl X y) (hmy:X.mg y=none) (hv:bootBuiltins y=some (.type U)) (hU:U∈["bool","int","str","tuple","list"]) (ha:PE3 X a ma)
  (hn:y≠"__name__":=by decide) (hdb:(y == ("__debug__":Str))=false:=by decide)
  (he:starEach (a :: [.Name y p2]) X.env=(false,eval a X.env) :: starEach [.Name y p2] X.env:=by rfl) (he2:starEach [.Name y p2] X.env=(false,eval (.Name y p2) X.env) :: starEach [] X.env:=by rfl) (hpl:(backTo pos (starEach [.Name y p2] X.env)).any (·.1)=false:=by rfl) :
  PE3 X (.Call (.Name "isinstance" p) [a,.Name y p2] [] pos) (eUn (zjv U) ma):=by
 have hy:PE X (.Name y p2) (tC (.ty U)):=zoy hgy hmy hv rfl hn hdb
 refine PE.imp (zjg (id:="isinstance") (r:=λxs H Q=>∃x T,xs=[x,.ty U]/\TyOf X.K H x (.type T)/\T∈["NoneType","bool","int","str","tuple","list","dict"]/\Q (.bl (isI T U)) H) ?_ hg hm (by decide +kernel) (zfm ha (zfm hy zhz he2) he) (by decide) (by decide) he hpl) ?_
 ·intro pins s σ H xs us Q I r h
  obtain ⟨x,T,rfl,ty,hT,q⟩:=h
  obtain ⟨u1,u2,rfl,r1,r2⟩:=r.two
  cases r2
  exact zx8 I r1 ty (zz0 hT hU) λtk=>⟨.bl _,H,I.tok tk,rfl,q⟩
 ·rintro σ H Q ⟨ρ,l,S,v,S',sim,ro,hq,p⟩
  obtain ⟨⟨x,S1⟩,h1,hq⟩:=bnd hq
  obtain ⟨T,h2,hq⟩:=bnd hq
  cases hq
  refine ⟨ρ,l,S,x,_,sim,ro,h1,λρ1 H1 x' e1 s1 r1=>⟨x',T,rfl,?_⟩⟩
  have fin:=p ρ1 H1 _ e1 s1 (.bl (isI T U))
  cases r1 with
  | non=>cases h2;exact ⟨.non,by decide,fin⟩
  | bl b=>cases h2;exact ⟨.bl b,by decide,fin⟩
  | int b=>cases h2;exact ⟨.int b,by decide,fin⟩
  | str b=>cases h2;exact ⟨.str b,by decide,fin⟩
  | tup hh rr=>cases h2;exact ⟨.tup hh,by decide,fin⟩
  | @ref n b hn =>
   unfold tyD at h2
   dsimp only at h2
   split at h2
   ·rename_i ys ey
    cases h2
    obtain ⟨a',us,ha',hH,r2⟩:=s1.lst ey
    rw [ha'] at hn;cases hn
    exact ⟨.lst hH,by decide,fin⟩
   ·rename_i kvs ey
    cases h2
    obtain ⟨us,hH,r2⟩:=s1.at' n b _ hn ey
    exact ⟨.dK hH,by decide,fin⟩
   ·cases h2
  | fn b=>cases h2
end
def sp3 (K:QFg) (n:Nat) (f:FM):Sp:=λvs H Q _=>vs.length=n/\∃ρ ds S v S',Sim K ρ S H/\RDs ρ H ds vs/\f ds S=some (v,S')/\Pv K ρ H v S' Q
section
variable {X:Cx}{a:Expr}{es:List Expr}{mA:AM}{pos p:Pos}{x:Str}{k:Nat}{f:Addr}{fd:FuncData}{ps:List Str}{m:FM}
theorem zz1 {n:Nat}(F:FnOk X.prog X.w X.K X.mg X.base CX0 k f fd ps (sp3 X.K n m)) (hr:Room k X.A) (hg:Gl X x) (hm:X.mg x=some (.ref f)) (hk:PySem.W.keepIn X.K (.ref f)=true) (hb:Binds X.K fd ps [])
  (ha:PA3 X (a :: es) mA) (hl:∀l S v S',mA l S=some (v,S')->v.length=n) (hdb:(x == ("__debug__":Str))=false:=by decide) (he:starEach (a :: es) X.env=(false,eval a X.env) :: starEach es X.env:=by rfl) (hpl:(backTo pos (starEach es X.env)).any (·.1)=false:=by rfl) :
  PE3 X (.Call (.Name x p) (a :: es) [] pos) (zac m mA) :=
 PE.imp (zpm F hr hg hm hk hb .nil zp8 ha hdb he hpl) λσ H Q hx3_=>by
  obtain ⟨ρ,l,S,v,S',sim,ro,hq,p⟩:=hx3_
  obtain ⟨⟨xs,S1⟩,h1,hq⟩:=bnd hq
  exact ⟨ρ,l,S,xs,S1,sim,ro,h1,λρ1 H1 vs e1 s1 r1=>⟨by rw [List.append_nil,<-r1.length];exact hl _ _ _ _ h1,ρ1,xs,S1,v,S',s1,by rw [List.append_nil];exact r1,hq,p.ext e1⟩⟩
theorem zam:∀l S v S',zab l S=some (v,S')->v.length=0:=λl S v S' h=>by cases h;rfl
theorem zag {n:Nat}{m:EM}{mA:AM}(h:∀l S v S',mA l S=some (v,S')->v.length=n):∀l S v S',zaa m mA l S=some (v,S')->v.length=n+1:=λl S v S' q=>by
 obtain ⟨⟨x,S1⟩,h1,q⟩:=bnd q
 obtain ⟨⟨y,S2⟩,h2,q⟩:=bnd q
 cases q
 rw [List.length_cons,h _ _ _ _ h2]
end
noncomputable def zaq:SM:=λl S=>some (.nx,l,S)
noncomputable def zah (a b:SM):SM:=λl S=>(a l S).bind λp=>match p.1 with
 | .nx=>b p.2.1 p.2.2
 | f=>some (f,p.2)
noncomputable def zdq (e:EM):SM:=λl S=>(e l S).bind λp=>some (.nx,l,p.2)
noncomputable def sRet (e:EM):SM:=λl S=>(e l S).bind λp=>some (.rt p.1,l,p.2)
noncomputable def sIf (c:TM) (a b:SM):SM:=λl S=>(c l S).bind λp=>if p.1=true then a l p.2 else b l p.2
noncomputable def zak (e:EM) (g:GM):SM:=λl S=>(e l S).bind λp=>(g p.1 l p.2).bind λq=>some (.nx,q)
noncomputable def gName3 (i:Nat):GM:=λd l S=>some (l.set i (some d),S)
noncomputable def zk2:GsM
 | [],l,S=>some (l,S)
 | _,_,_=>none
noncomputable def ziz (g:GM) (r:GsM):GsM
 | x :: xs,l,S=>(g x l S).bind λp=>r xs p.1 p.2
 | _,_,_=>none
noncomputable def zk3 (n:Nat) (g:GsM):GM
 | .tup xs,l,S=>if xs.length=n then g xs l S else none
 | _,_,_=>none
noncomputable def zf6:D->D->D->Sto->Option Sto
 | .ref n,.int i,v,S=>match S[n]? with
  | some (.lst xs)=>(ixN xs.length i).bind λj=>some (S.set n (.lst (xs.set j v)))
  | _=>none
 | _,_,_,_=>none
noncomputable def zh4 (o i:EM):GM:=λv l S=>(o l S).bind λp=>(i l p.2).bind λq=>(zf6 p.1 q.1 v q.2).bind λS'=>some (l,S')
section
variable {X:Cx}{st:Stmt}{rest:List Stmt}{m n:SM}{e c:Expr}{me:EM}{pos:Pos}
theorem zbj:ze3 X [] zaq:=PSs.imp zwx λE σ H hx1_=>by
 obtain ⟨ρ,l,S,f,l',S',sim,ro,hm,p⟩:=hx1_
 cases hm
 exact p ρ H σ (Ext.refl ..) sim ro
theorem zal (h1:PS3 X st m) (h2:ze3 X rest n):ze3 X (st :: rest) (zah m n):=PSs.imp (zme h1 h2) λE σ H hx2_=>by
 obtain ⟨ρ,l,S,f,l',S',sim,ro,hm,p⟩:=hx2_
 obtain ⟨⟨g,l1,S1⟩,q1,hm⟩:=bnd hm
 refine ⟨ρ,l,S,g,l1,S1,sim,ro,q1,λρ1 H1 σ1 e1 s1 r1=>?_⟩
 cases g with
 | nx=>exact ⟨ρ1,l1,S1,f,l',S',s1,r1,hm,λρ2 H2 σ2 e2 s2 r2=>p ρ2 H2 σ2 (e1.trans e2) s2 r2⟩
 | bk=>cases hm;exact p ρ1 H1 σ1 e1 s1 r1
 | ct=>cases hm;exact p ρ1 H1 σ1 e1 s1 r1
 | rt d=>cases hm;exact p ρ1 H1 σ1 e1 s1 r1
theorem zan (h1:PS3 X st m):ze3 X [st] m:=zwy h1
theorem zgq (he:PE3 X e me) (hs:swapsWith e none pos.line X.env=pure false:=by rfl):PS3 X (.Expr e pos) (zdq me):=PS.imp (zo0 he hs) λE σ H hx6_=>by
 obtain ⟨ρ,l,S,f,l',S',sim,ro,hm,p⟩:=hx6_
 obtain ⟨⟨x,S1⟩,q1,hm⟩:=bnd hm
 cases hm
 exact ⟨ρ,l,S,x,_,sim,ro,q1,λρ1 H1 x' e1 s1 _=>p ρ1 H1 σ e1 s1 (ro.mono e1)⟩
theorem za4 (he:PE3 X e me):PS3 X (.Return (some e) pos) (sRet me):=PS.imp (zo1 he) λE σ H hx7_=>by
 obtain ⟨ρ,l,S,f,l',S',sim,ro,hm,p⟩:=hx7_
 obtain ⟨⟨x,S1⟩,q1,hm⟩:=bnd hm
 cases hm
 exact ⟨ρ,l,S,x,_,sim,ro,q1,λρ1 H1 x' e1 s1 r1=>p ρ1 H1 σ e1 s1 (ro.mono e1) x' r1⟩
theorem zbh {c:Expr}{a b:List Stmt}{mc:TM}(hc:PT3 X c mc) (ha:ze3 X a m) (hb:ze3 X b n):PS3 X (.If c a b pos) (sIf mc m n):=PS.imp (zo2 hc ha hb) λE σ H hx9_=>by
 obtain ⟨ρ,l,S,f,l',S',sim,ro,hm,p⟩:=hx9_
 obtain ⟨⟨x,S1⟩,q1,hm⟩:=bnd hm
 refine ⟨ρ,l,S,x,S1,sim,ro,q1,λρ1 H1 e1 s1=>?_⟩
 cases x with
 | true=>exact zfo ⟨ρ1,l,S1,f,l',S',s1,ro.mono e1,hm,λρ2 H2 σ2 e2 s2 r2=>p ρ2 H2 σ2 (e1.trans e2) s2 r2⟩
 | false=>exact zfy ⟨ρ1,l,S1,f,l',S',s1,ro.mono e1,hm,λρ2 H2 σ2 e2 s2 r2=>p ρ2 H2 σ2 (e1.trans e2) s2 r2⟩
noncomputable def zea:SM:=λ_ _=>none
theorem zg4:PS3 X st zea:=PS.imp zw3 λE σ H hx10_=>by obtain ⟨ρ,l,S,f,l',S',sim,ro,hm,p⟩:=hx10_;cases hm
variable {tgt o i:Expr}{g:GM}{gs:GsM}{ts':List Expr}{mo mi:EM}
theorem zbq (j:Nat) {x:Str}(hN:X.N.Nodup) (hi:X.N[j]? = some x:=by rfl) (hx:Loc X.env.scope x:=by first|exact Or.inl rfl|exact Or.inr rfl) (hf:X.fn x=true\/X.env.scope.names.lookup x=some .local:=by first|exact .inl rfl|exact .inr rfl|assumption):PG3 X (.Name x pos) (gName3 j) :=
 PG.imp (zw4 hN hi hx hf) λv σ H Q hx11_=>by
  obtain ⟨ρ,l,S,d,l',S',sim,ro,rd,hm,p⟩:=hx11_
  cases hm
  exact p ρ H _ (Ext.refl ..) sim (ro.set j rd)
theorem zqm:zkz X [] zk2:=PGs.imp zw7 λv σ H Q hx12_=>by
 obtain ⟨ρ,l,S,d,l',S',sim,ro,rd,hm,p⟩:=hx12_
 cases rd with
 | nil=>cases hm;exact ⟨rfl,p ρ H _ (Ext.refl ..) sim ro⟩
 | cons _ _=>cases hm
theorem zk4 (h1:PG3 X tgt g) (h2:zkz X ts' gs) (hs:(assignEach (tgt :: ts') X.env).map (·.2)=assign tgt X.env :: (assignEach ts' X.env).map (·.2):=by rfl):zkz X (tgt :: ts') (ziz g gs):=PGs.imp (zw8 h1 h2 hs) λv σ H Q hx13_=>by
 obtain ⟨ρ,l,S,d,l',S',sim,ro,rd,hm,p⟩:=hx13_
 cases rd with
 | nil=>cases hm
 | @cons x v' xs vs r1 r2 =>
  obtain ⟨⟨l1,S1⟩,q1,hm⟩:=bnd hm
  exact ⟨v',vs,rfl,ρ,l,S,x,l1,S1,sim,ro,r1,q1,λρ1 H1 σ1 e1 s1 ro1=>⟨ρ1,l1,S1,xs,l',S',s1,ro1,r2.mono e1,hm,λρ2 H2 σ2 e2 s2 ro2=>p ρ2 H2 σ2 (e1.trans e2) s2 ro2⟩⟩
theorem zqn {es:List Expr}{k n:Nat}(hc:X.calm=true) (h:zkz X es gs) (hn:(assignEach es X.env).length=n:=by rfl) (hst:(assignEach es X.env).findIdx? (·.1)=none:=by rfl):PG3 X (.Tuple es k pos) (zk3 n gs) :=
 PG.imp (zxa hc h hn hst) λv σ H Q hx14_=>by
  obtain ⟨ρ,l,S,d,l',S',sim,ro,rd,hm,p⟩:=hx14_
  cases rd with
  | @tup xs a vs ha r =>
   have hm:(if xs.length=n then gs xs l S else none)=some (l',S'):=hm
   by_cases hl:xs.length=n
   ·rw [if_pos hl] at hm
    exact ⟨a,vs,rfl,SqT.of ha,by rw [<-r.length];exact hl,ρ,l,S,xs,l',S',sim,ro,r,hm,p⟩
   ·rw [if_neg hl] at hm;cases hm
  | _=>cases hm
theorem zz2 {K:QFg}{ρ:List Addr}{S S':Sto}{H:Hp}{x y z:D}{x' y' z':V}{Q:Hp->Prop}(sim:Sim K ρ S H) (rx:RD ρ H x x') (ry:RD ρ H y y') (rz:RD ρ H z z') (h:zf6 x y z S=some S') (q:∀H',Ext ρ H ρ H'->Sim K ρ S' H'->Q H'):rSetL x' y' z' H Q:=by
 unfold zf6 at h
 split at h
 ·split at h
  ·rename_i hx
   obtain ⟨j,hj,h⟩:=bnd h
   cases h
   cases ry
   obtain ⟨a,us,ha',hH,r3⟩:=sim.lst hx
   cases rx with
   | ref hn =>
    rw [ha'] at hn;cases hn
    exact ⟨a,us,_,j,rfl,rfl,hH,by rw [<-r3.length];exact hj,q _ (zqa ha' hH) (sim.set ha' hx hH (r3.set rz j))⟩
  ·cases h
 ·cases h
theorem zmy (ho:PE3 X o mo) (hi:PE3 X i mi)
  (ha:∀v,assign (.Subscript o i pos) X.env v=(do
   let ov <-holding [v] (eval o X.env)
   let iv <-holding [v,ov] (eval i X.env)
   standAt pos
   holding [v,ov,iv] (setItem ov iv v)
   release [v,ov,iv] []):=by intro _;rfl):PG3 X (.Subscript o i pos) (zh4 mo mi) :=
 PG.imp (zxc ho hi zyt ha) λv σ H Q hx15_=>by
  obtain ⟨ρ,l,S,d,l',S',sim,ro,rd,hm,p⟩:=hx15_
  obtain ⟨⟨x,S1⟩,q1,hm⟩:=bnd hm
  obtain ⟨⟨y,S2⟩,q2,hm⟩:=bnd hm
  obtain ⟨S3,q3,hm⟩:=bnd hm
  cases hm
  exact ⟨ρ,l,S,x,S1,sim,ro,q1,λρ1 H1 x' e1 s1 r1=>⟨ρ1,l,S1,y,S2,s1,ro.mono e1,q2,λρ2 H2 y' e2 s2 r2=>zz2 s2 (r1.mono e2) r2 (rd.mono (e1.trans e2)) q3 λH3 e3 s3=>p ρ2 H3 σ (e1.trans (e2.trans e3)) s3 (ro.mono (e1.trans (e2.trans e3)))⟩⟩
theorem zmz (he:PE3 X e me) (hg:PG3 X tgt g) (hs:swapsWithSole [tgt] e pos.line X.env=pure false:=by rfl) (hw:swappedStores [tgt] e X.env=pure none:=by rfl)
  (h1:(assignEach [tgt] X.env).map (·.2)=[assign tgt X.env]:=by rfl):PS3 X (.Assign [tgt] e pos) (zak me g):=PS.imp (zo4 he hg hs hw h1) λE σ H hx16_=>by
 obtain ⟨ρ,l,S,f,l',S',sim,ro,hm,p⟩:=hx16_
 obtain ⟨⟨x,S1⟩,q1,hm⟩:=bnd hm
 obtain ⟨⟨l2,S2⟩,q2,hm⟩:=bnd hm
 cases hm
 exact ⟨ρ,l,S,x,S1,sim,ro,q1,λρ1 H1 x' e1 s1 r1=>⟨ρ1,l,S1,x,_,_,s1,ro.mono e1,r1,q2,λρ2 H2 σ2 e2 s2 r2=>p ρ2 H2 σ2 (e1.trans e2) s2 r2⟩⟩
theorem za0 (j:Nat) {x:Str}{pos':Pos}(hN:X.N.Nodup) (he:PE3 X e me) (hi:X.N[j]? = some x:=by rfl) (hx:Loc X.env.scope x:=by first|exact Or.inl rfl|exact Or.inr rfl) (hs:swapsWith e (some (.Name x pos')) pos.line X.env=pure false:=by rfl) (hf:X.fn x=true\/X.env.scope.names.lookup x=some .local:=by first|exact .inl rfl|exact .inr rfl|assumption) :
  PS3 X (.Assign [.Name x pos'] e pos) (zak me (gName3 j)):=PS.imp (zxd hN hi hx he hs hf) λE σ H hx17_=>by
 obtain ⟨ρ,l,S,f,l',S',sim,ro,hm,p⟩:=hx17_
 obtain ⟨⟨x,S1⟩,q1,hm⟩:=bnd hm
 cases hm
 exact ⟨ρ,l,S,x,_,sim,ro,q1,λρ1 H1 x' e1 s1 r1=>p ρ1 H1 _ e1 s1 ((ro.mono e1).set j r1)⟩
end
noncomputable def zfr (g:GM) (b:SM):List D->SM
 | [],l,S=>some (.nx,l,S)
 | x :: xs,l,S=>(g x l S).bind λp=>(b p.1 p.2).bind λq=>match q.1 with
  | .nx=>zfr g b xs q.2.1 q.2.2
  | .ct=>zfr g b xs q.2.1 q.2.2
  | .bk=>some (.nx,q.2)
  | .rt d=>some (.rt d,q.2)
noncomputable def zfs (g:GM) (b:SM) (n:Nat):Nat->Nat->SM
 | 0,_,_,_=>none
 | k+1,i,l,S=>(lstOf S n).bind λxs=>match xs[i]? with
  | none=>some (.nx,l,S)
  | some x=>(g x l S).bind λp=>(b p.1 p.2).bind λq=>match q.1 with
   | .nx=>zfs g b n k (i+1) q.2.1 q.2.2
   | .ct=>zfs g b n k (i+1) q.2.1 q.2.2
   | .bk=>some (.nx,q.2)
   | .rt d=>some (.rt d,q.2)
noncomputable def zfh (e:EM) (g:GM) (b:SM):SM:=λl S=>(e l S).bind λp=>match p.1 with
 | .tup xs=>zfr g b xs l p.2
 | .ref n=>(lstOf p.2 n).bind λxs=>zfs g b n (xs.length+1) 0 l p.2
 | _=>none
noncomputable def zda (lo:Int) (n:Nat):List D:=(List.range n).map λ(i:Nat)=>.int (lo+i)
noncomputable def zdb (as:AM):Lo->Sto->Option ((Int × Nat) × Sto):=λl S=>(as l S).bind λp=>match p.1 with
 | [.int j]=>if -(2 ^ 62)<=j/\j<2 ^ 62 then some ((0,j.toNat),p.2) else none
 | _=>none
noncomputable def zfi (r:Lo->Sto->Option ((Int × Nat) × Sto)) (g:GM) (b:SM):SM:=λl S=>(r l S).bind λp=>zfr g b (zda p.1.1 p.1.2) l p.2
section
variable {K:QFg}{g:GM}{b:SM}{E:Ends}
theorem zm0 {next:SM}{x:D}{v:V}{ρ:List Addr}{l:Lo}{S:Sto}{H:Hp}{σ:St}{f:Fl}{l':Lo}{S':Sto}(sim:Sim K ρ S H) (ro:RO ρ H l σ) (rx:RD ρ H x v)
  (hm:((g x l S).bind λp=>(b p.1 p.2).bind λq=>match q.1 with
   | .nx=>next q.2.1 q.2.2
   | .ct=>next q.2.1 q.2.2
   | .bk=>some (.nx,q.2)
   | .rt d=>some (.rt d,q.2))=some (f,l',S')) (p:∀ρ' H' σ',Ext ρ H ρ' H'->Sim K ρ' S' H'->RO ρ' H' l' σ'->zji ρ' H' E σ' f)
  {N:St->Hp->Prop} (hN:∀ρ1 H1 σ1 l1 S1,Ext ρ H ρ1 H1->Sim K ρ1 S1 H1->RO ρ1 H1 l1 σ1->next l1 S1=some (f,l',S')->N σ1 H1) :
  tg K g v σ H λσ2 H2=>ts K b { E with nx:=N,ct:=N,bk:=E.nx } σ2 H2:=by
 obtain ⟨⟨l1,S1⟩,q1,hm⟩:=bnd hm
 obtain ⟨⟨fl,l2,S2⟩,q2,hm⟩:=bnd hm
 refine ⟨ρ,l,S,x,l1,S1,sim,ro,rx,q1,λρ1 H1 σ1 e1 s1 r1=>⟨ρ1,l1,S1,fl,l2,S2,s1,r1,q2,λρ2 H2 σ2 e2 s2 r2=>?_⟩⟩
 cases fl with
 | nx=>exact hN ρ2 H2 σ2 l2 S2 (e1.trans e2) s2 r2 hm
 | ct=>exact hN ρ2 H2 σ2 l2 S2 (e1.trans e2) s2 r2 hm
 | bk=>cases hm;exact p ρ2 H2 σ2 (e1.trans e2) s2 r2
 | rt d=>cases hm;exact p ρ2 H2 σ2 (e1.trans e2) s2 r2
end
section
variable {X:Cx}{tgt iter:Expr}{body:List Stmt}{g:GM}{b:SM}{m:EM}{pos:Pos}
theorem zqo {K:QFg}{J:It}{vs:List V}{xs:List D}{ρ:List Addr}{l:Lo}{S:Sto}{H:Hp}{σ:St}{f:Fl}{l':Lo}{S':Sto}{E:Ends}(R:List Addr->Hp->Prop) (hR:∀ρ H ρ' H',Ext ρ H ρ' H'->R ρ H->R ρ' H')
  (hgo:∀(i:Nat) ρ H v,R ρ H->vs[i]? = some v->J.go i H) (hy:∀(i:Nat) ρ H v H',R ρ H->i<vs.length->J.yld i H v H'->H' = H/\vs[i]? = some v) (hst:∀ρ H,R ρ H->J.stop vs.length H)
  (hv:∀ρ H,R ρ H->RDs ρ H xs vs) (r0:R ρ H)
  (sim:Sim K ρ S H) (ro:RO ρ H l σ) (hm:zfr g b xs l S=some (f,l',S')) (p:∀ρ' H' σ',Ext ρ H ρ' H'->Sim K ρ' S' H'->RO ρ' H' l' σ'->zji ρ' H' E σ' f) :
  ∃W:Nat->Nat->St->Hp->Prop,(∃m,W 0 m σ H)/\∀i m σ H,W i m σ H ->
   (J.stop i H/\E.nx σ H)\/(J.go i H/\∃N:St->Hp->Prop,(∀σ' H',N σ' H'->∃m',m' < m/\W (i+1) m' σ' H')/\∀x H',J.yld i H x H'->tg K g x σ H' λσ2 H2=>ts K b { E with nx:=N,ct:=N,bk:=E.nx } σ2 H2):=by
 refine ⟨λi m σ1 H1=>m=xs.length-i/\i<=xs.length/\∃ρ1 l1 S1,Ext ρ H ρ1 H1/\Sim K ρ1 S1 H1/\RO ρ1 H1 l1 σ1/\zfr g b (xs.drop i) l1 S1=some (f,l',S'),⟨xs.length,by simp,Nat.zero_le _,ρ,l,S,Ext.refl ..,sim,ro,hm⟩,?_⟩
 rintro i m σ1 H1 ⟨rfl,hi,ρ1,l1,S1,e1,s1,ro1,hm1⟩
 have R1:=hR _ _ _ _ e1 r0
 have hlen:=(hv _ _ r0).length
 by_cases hlt:i<xs.length
 ·have hx:xs[i]? = some xs[i]:=qge hlt
  obtain ⟨v,hvi,rv⟩:=(hv _ _ R1).get hx
  rw [List.drop_eq_getElem_cons hlt] at hm1
  refine .inr ⟨hgo i ρ1 H1 v R1 hvi,_,λσ' H' h=>h,λy H' hyl=>?_⟩
  obtain ⟨e,hy2⟩:=hy i ρ1 H1 y H' R1 (by omega) hyl
  subst e
  rw [hvi] at hy2;cases hy2
  refine zm0 (next:=zfr g b (xs.drop (i+1))) s1 ro1 rv hm1 (λρ' H' σ' e'=>p ρ' H' σ' (e1.trans e')) λρ2 H2 σ2 l2 S2 e2 s2 ro2 hm2=>?_
  exact ⟨xs.length-(i+1),by omega,rfl,hlt,ρ2,l2,S2,e1.trans e2,s2,ro2,hm2⟩
 ·have hil:i=xs.length:=by omega
  subst hil
  rw [List.drop_length] at hm1
  cases hm1
  exact .inl ⟨by rw [hlen];exact hst _ _ R1,p ρ1 H1 σ1 e1 s1 ro1⟩
theorem zz3 (ρ:List Addr) (H:Hp) (lo:Int) (n:Nat):RDs ρ H (zda lo n) ((List.range n).map λ(i:Nat)=>V.int (lo+i)):=by
 unfold zda
 generalize List.range n=l
 induction l with
 | nil=>exact .nil
 | cons a r ih=>exact .cons (.int _) ih
theorem zz4 {lo:Int}{n i:Nat}{v:V}(h:i<n) (hv:v=.int (lo+i)):((List.range n).map λ(i:Nat)=>V.int (lo+i))[i]? = some v:=by
 rw [qgm,List.getElem?_range h,hv];rfl
theorem PI.or {wi wj:TI}(h:PI X tgt iter wi) (h':PI X tgt iter wj):PI X tgt iter (λσ H R=>wi σ H R\/wj σ H R):=by
 intro pins s σ H R I q
 rcases q with q|q
 ·exact h pins s σ H R I q
 ·exact h' pins s σ H R I q
theorem zz5 {K:QFg}{n:Nat}{a:Addr}{ρ:List Addr}{l:Lo}{S:Sto}{H:Hp}{σ:St}{f:Fl}{l':Lo}{S':Sto}{E:Ends}{k:Nat}(ha:ρ[n]? = some a)
  (sim:Sim K ρ S H) (ro:RO ρ H l σ) (hm:zfs g b n k 0 l S=some (f,l',S')) (p:∀ρ' H' σ',Ext ρ H ρ' H'->Sim K ρ' S' H'->RO ρ' H' l' σ'->zji ρ' H' E σ' f) :
  ∃W:Nat->Nat->St->Hp->Prop,(∃m,W 0 m σ H)/\∀i m σ H,W i m σ H ->
   ((Itl K a).stop i H/\E.nx σ H)\/((Itl K a).go i H/\∃N:St->Hp->Prop,(∀σ' H',N σ' H'->∃m',m' < m/\W (i+1) m' σ' H')/\∀x H',(Itl K a).yld i H x H'->tg K g x σ H' λσ2 H2=>ts K b { E with nx:=N,ct:=N,bk:=E.nx } σ2 H2):=by
 refine ⟨λi m σ1 H1=>∃ρ1 l1 S1,Ext ρ H ρ1 H1/\Sim K ρ1 S1 H1/\RO ρ1 H1 l1 σ1/\zfs g b n m i l1 S1=some (f,l',S'),⟨k,ρ,l,S,Ext.refl ..,sim,ro,hm⟩,?_⟩
 rintro i m σ1 H1 ⟨ρ1,l1,S1,e1,s1,ro1,hm1⟩
 cases m with
 | zero=>cases hm1
 | succ m =>
  have ha1:=e1.pre n a ha
  unfold zfs at hm1
  obtain ⟨xs,hx,hm1⟩:=bnd hm1
  obtain ⟨a',vs,ha',sq,rv⟩:=s1.lstOf hx
  rw [ha1] at ha';cases ha'
  cases hi:xs[i]? with
  | none =>
   rw [hi] at hm1
   cases hm1
   have hl:xs.length<=i:=List.getElem?_eq_none_iff.mp hi
   exact .inl ⟨⟨vs,sq,by rw [<-rv.length];exact hl⟩,p ρ1 H1 σ1 e1 s1 ro1⟩
  | some x =>
   rw [hi] at hm1
   obtain ⟨v,hvi,r⟩:=rv.get hi
   refine .inr ⟨⟨vs,v,sq,hvi⟩,_,λσ' H' h=>h,λy H' hyl=>?_⟩
   obtain ⟨e,hy2⟩:=hyl
   subst e
   have hy3:=hy2 vs sq
   rw [hvi] at hy3;cases hy3
   refine zm0 (next:=zfs g b n m (i+1)) s1 ro1 r hm1 (λρ' H' σ' e'=>p ρ' H' σ' (e1.trans e')) λρ2 H2 σ2 l2 S2 e2 s2 ro2 hm2=>?_
   exact ⟨m,Nat.lt_succ_self m,ρ2,l2,S2,e1.trans e2,s2,ro2,hm2⟩
theorem zk5 (hp:PassesOwn (model X.prog X.w) X.A X.env X.xe) (hc:X.calm=true) (hi:PE3 X iter m) (hg:PG3 X tgt g) (hb:ze3 X body b)
  (hs:∀x,foldedSetIterable iter X.env x=pure x:=by intro _;rfl):PS3 X (.For tgt iter body [] pos) (zfh m g b) :=
 PS.imp (zmh hp hc (PI.or (zo5 hi) (zo6 hi)) hg hb hs) λE σ H hx18_=>by
  obtain ⟨ρ,l,S,f,l',S',sim,ro,hm,p⟩:=hx18_
  obtain ⟨⟨x,S1⟩,q1,hm⟩:=bnd hm
  dsimp only at hm
  split at hm
  ·rename_i xs
   refine .inr ⟨ρ,l,S,.tup xs,S1,sim,ro,q1,λρ1 H1 x' e1 s1 r1=>?_⟩
   cases r1 with
   | @tup xs a vs ha r =>
    refine ⟨a,rfl,⟨vs,SqT.of ha⟩,zqo (vs:=vs) (λρ' H'=>H' a=some (.tup vs)/\RDs ρ' H' xs vs) (λρ H ρ' H' e ⟨h1,h2⟩=>⟨e.tup _ _ h1,h2.mono e⟩)
     (λi ρ H v ⟨h1,_⟩ hv=>⟨vs,v,SqT.of h1,hv⟩) (λi ρ H v H' ⟨h1,_⟩ _ hy=>⟨hy.1,hy.2 vs (SqT.of h1)⟩) (λρ H ⟨h1,_⟩=>⟨vs,SqT.of h1,qlr _⟩) (λρ H h=>h.2) ⟨ha,r⟩ s1 (ro.mono e1) hm λρ' H' σ' e'=>p ρ' H' σ' (e1.trans e')⟩
  ·rename_i n
   obtain ⟨xs,hx,hm⟩:=bnd hm
   refine .inl ⟨ρ,l,S,.ref n,S1,sim,ro,q1,λρ1 H1 x' e1 s1 r1=>?_⟩
   obtain ⟨a,vs,ha,sq,rv⟩:=s1.lstOf hx
   cases r1 with
   | ref hn =>
    rw [ha] at hn;cases hn
    exact ⟨a,rfl,⟨vs,sq⟩,zz5 ha s1 (ro.mono e1) hm (λρ' H' σ' e'=>p ρ' H' σ' (e1.trans e'))⟩
  ·cases hm
theorem zi0 {a:Expr}{mA:AM}{p0 pos':Pos}(hp:PassesOwn (model X.prog X.w) X.A X.env X.xe) (hc:X.calm=true) (hgl:Gl X "range") (hmg:X.mg "range" = none) (ha:PA3 X [a] mA) (hg:PG3 X tgt g) (hb:ze3 X body b)
  (hs:∀x,foldedSetIterable (.Call (.Name "range" p0) [a] [] pos') X.env x=pure x:=by intro _;rfl) (hst:starEach [a] X.env=[(false,eval a X.env)]:=by rfl):PS3 X (.For tgt (.Call (.Name "range" p0) [a] [] pos') body [] pos) (zfi (zdb mA) g b) :=
 PS.imp (zmh hp hc (zo7 hgl hmg ha hst) hg hb hs) λE σ H hx19_=>by
  obtain ⟨ρ,l,S,f,l',S',sim,ro,hm,p⟩:=hx19_
  obtain ⟨⟨⟨lo,n⟩,S1⟩,q1,hm⟩:=bnd hm
  obtain ⟨⟨xs,S2⟩,q2,q1⟩:=bnd q1
  dsimp only at q1 hm
  split at q1
  ·rename_i j
   obtain ⟨hz,e⟩:=zb3 q1
   cases e
   refine ⟨ρ,l,S,[.int j],S1,sim,ro,q2,λρ1 H1 vs e1 s1 r1=>?_⟩
   obtain ⟨v,rfl,rv⟩:=r1.one
   cases rv
   refine ⟨j,rfl,hz.1,hz.2,zqo (vs:=(List.range j.toNat).map λ(i:Nat)=>V.int (0+i)) (λ_ _=>True) (λ_ _ _ _ _ h=>h) (λi ρ H v _ hv=>?_) (λi ρ H v H' _ hl hy=>⟨hy.1,?_⟩) (λρ H _=>?_) (λρ H _=>zz3 ρ H 0 j.toNat) trivial s1 (ro.mono e1) hm λρ' H' σ' e'=>p ρ' H' σ' (e1.trans e')⟩
   ·have:=(qme hv).1
    simp at this
    show i<j.toNat
    omega
   ·obtain ⟨_,hy⟩:=hy
    exact zz4 (by simpa using hl) hy
   ·show j.toNat<=_
    simp
  ·cases q1
end
noncomputable def zbm (n:Nat) (b:SM):FM:=λds S=>(b (ds.map some++List.replicate (n-ds.length) none) S).bind λp=>match p.1 with
 | .rt d=>some (d,p.2.2)
 | .nx=>some (.non,p.2.2)
 | _=>none
theorem RDs.locals {ρ:List Addr}{H:Hp}{ds:List D}{vs:List V}(r:RDs ρ H ds vs) (N:List Str):RO ρ H (ds.map some++List.replicate (N.length-ds.length) none) (L2.start N vs):=by
 unfold L2.start
 rw [<-r.length]
 refine ⟨by simp [r.length],λi d h=>?_⟩
 by_cases hl:i<ds.length
 ·rw [List.getElem?_append_left (by simpa using hl),qgm] at h
  cases e:ds[i]? with
  | none=>rw [e] at h;cases h
  | some d' =>
   rw [e] at h
   have h':some (some d')=some (some d):=h
   cases h'
   obtain ⟨v,h1,h2⟩:=r.get e
   exact ⟨v,by rw [List.getElem?_append_left (by rw [qlm,<-r.length];exact hl),qgm,h1];rfl,h2⟩
 ·rw [List.getElem?_append_right (by simpa using hl),List.getElem?_replicate] at h
  split at h
  ·cases h
  ·cases h
theorem zqp {P:Program}{w:World}{K:QFg}{mg:Str->Option Value}{base:Heap}{x qual:Str}{st:Stmt}{f:Addr}{fd:FuncData}{N ps:List Str}{k n:Nat}{b:SM}(F:Fun K x qual st f fd) (S:FnScope N ps (zas st)) (hn:ps.length=n)
  (hbody:∀(cdv:Value),PySem.W.codeIn K cdv qual=true->∀(A:Around) (outer:List Env) (s:Shared) (H:Hp) (E:XK),Room k (A.deeper (envOfC qual (zas st) s.heap.objs.size f cdv)) ->
   ze3 (zcj CX0 P w K mg base N qual (zas st) f cdv A outer s H E).nox (zfn st) b):FnOk P w K mg base CX0 (k+1) f fd ps (sp3 K n (zbm N.length b)):=by
 obtain ⟨oc,od,kV,doc,pm,an,cdv,ct,osl,rfl,lk,hcd⟩:=F.ex
 refine zps lk hcd S (λvs H Q E h=>by rw [h.1,hn]) λA outer s H vs Q E hr h=>?_
 obtain ⟨hl,ρ,ds,S0,v,S',sim,rd,hm,p⟩:=h
 refine ⟨_,PSs.nox (hbody cdv hcd A outer s H E hr),?_⟩
 obtain ⟨⟨fl,l',S1⟩,q,hm⟩:=bnd hm
 refine ⟨ρ,_,S0,fl,l',S1,sim,rd.locals N,q,λρ' H' σ' e' s' r'=>?_⟩
 cases fl with
 | nx=>cases hm;exact p ρ' H' _ e' s' .non
 | rt d=>cases hm;exact λv' rv=>p ρ' H' v' e' s' rv
 | bk=>cases hm
 | ct=>cases hm
noncomputable def zem (env:Env):List (Str × NameKind)->List (Str × Addr)->List (Str × Addr)
 | [],cs=>cs
 | (n,k) :: r,cs=>if k == .free then (match env.cells.lookup n with|some c=>zem env r ((n,c) :: cs)|none=>zem env r cs) else zem env r cs
theorem zqq (env:Env):∀(names:List (Str × NameKind)) (cs:List (Str × Addr)),(∀x∈names,x.2=.free->∃c,env.cells.lookup x.1=some c) ->
  (forIn names cs (λx r=>if (x.2 == NameKind.free)=true then do let c <-cellOf env x.1;pure (ForInStep.yield ((x.1,c) :: r)) else pure (ForInStep.yield r)):Sem (List (Str × Addr)))=pure (zem env names cs)
 | [],cs,_=>rfl
 | (n,k) :: r,cs,h=>by
  have ih:=λcs=>zqq env r cs λx hx=>h x (List.mem_cons_of_mem _ hx)
  rw [List.forIn_cons]
  by_cases hk:k=.free
  ·subst hk
   obtain ⟨c,hc⟩:=h (n,.free) List.mem_cons_self rfl
   simp only [beq_self_eq_true,if_true,cellOf,hc,zem,pure_bind,bind_assoc]
   exact ih _
  ·have hb:(k == NameKind.free)=false:=by simpa using hk
   simp only [hb,qbf,if_false,zem,pure_bind]
   exact ih _
theorem zz6 (scope:Scope) (env:Env) (h:∀x∈scope.names,x.2=.free->∃c,env.cells.lookup x.1=some c):closureFor scope env=pure (zem env scope.names []):=by
 have e:=zqq env scope.names [] h
 unfold closureFor
 show (forIn scope.names ([]:List (Str × Addr)) (λ(x:Str × NameKind) (r:List (Str × Addr))=>if (x.2 == NameKind.free)=true then do let c <-cellOf env x.1;pure (ForInStep.yield ((x.1,c) :: r)) else pure (ForInStep.yield r)) >>= λcs=>pure cs)=_
 rw [e,pure_bind]
theorem zk6 (env:Env):∀(names:List (Str × NameKind)) (cs:List (Str × Addr)),(∀x c,cs.lookup x=some c->env.cells.lookup x=some c)->∀x c,(zem env names cs).lookup x=some c->env.cells.lookup x=some c
 | [],cs,h,x,c,q=>h x c q
 | (n,k) :: r,cs,h,x,c,q=>by
  unfold zem at q
  split at q
  ·split at q
   ·rename_i c' e
    refine zk6 env r _ (λy d hy=>?_) x c q
    rw [List.lookup_cons] at hy
    split at hy
    ·rename_i hb
     have:y=n:=by simpa using hb
     cases hy
     rw [this];exact e
    ·exact h y d hy
   ·exact zk6 env r cs h x c q
  ·exact zk6 env r cs h x c q
theorem zjw (env:Env):∀(names:List (Str × NameKind)) (cs:List (Str × Addr)) (x:Str),((x,NameKind.free)∈names\/∃c,cs.lookup x=some c)->(∃c,env.cells.lookup x=some c)->∃c,(zem env names cs).lookup x=some c
 | [],cs,x,h,_=>by
  rcases h with h|h
  ·cases h
  ·exact h
 | (n,k) :: r,cs,x,h,hx=>by
  unfold zem
  by_cases hk:(k == NameKind.free)=true
  ·rw [if_pos hk]
   split
   ·rename_i c' e
    refine zjw env r _ x ?_ hx
    by_cases hxn:x=n
    ·exact .inr ⟨c',by rw [hxn,List.lookup_cons];simp⟩
    ·rcases h with h|⟨c,h⟩
     ·rcases List.mem_cons.mp h with h|h
      ·cases h;exact absurd rfl hxn
      ·exact .inl h
     ·exact .inr ⟨c,by
       rw [List.lookup_cons]
       have:(x == n)=false:=by simpa using hxn
       rw [this];exact h⟩
   ·rename_i e
    refine zjw env r _ x ?_ hx
    rcases h with h|h
    ·rcases List.mem_cons.mp h with h|h
     ·cases h
      obtain ⟨c,hc⟩:=hx
      rw [hc] at e;cases e
     ·exact .inl h
    ·exact .inr h
  ·rw [if_neg hk]
   refine zjw env r _ x ?_ hx
   rcases h with h|h
   ·rcases List.mem_cons.mp h with h|h
    ·cases h;exact absurd rfl hk
    ·exact .inl h
   ·exact .inr h
noncomputable def cxC (X:Cx) (N':List Str) (scope:Scope) (C:Addr) (s:Shared) (H:Hp) (fp:List Addr) (pins:List (Addr × Obj)):Cx where
 prog:=X.prog
 w:=X.w
 K:=X.K
 mg:=X.mg
 base:=X.base
 A:=X.A
 N:=N'
 s₀:=s
 H₀:=H
 env:=compEnvC scope (zem X.env scope.names []) C X.env
 outer:=X.stack
 stack:=X.stack
 ex:=fp
 fn:=λ_=>false
 calm:=X.calm
 pn:=X.pn++pins
 xe:=λ_ _=>False
section
variable {prog:Program}{w:World}{A:Around}{R:Result->Shared->Prop}{s:Shared}
theorem zz7 {elt target iter:Expr}{ifs:List Expr}{scope:Scope}{pos:Pos}{it acc:Value}{env:Env}(I:Nat->Shared->Prop)
  (turn:∀n s,I n s->wpAny (model prog w) A (pyNext it) (λr s₁=>match r with
   | none=>R (.ok .next) s₁
   | some v=>wpAny (model prog w) A (letOwnedTupleGo target it v) (λ_ s₁'=>wpAny (model prog w) A (assign target env v) (λ_ s₂ =>
     wpAny (model prog w) A (forIn ifs true λc r=>if r=true then do let ok <-isTrue c env (eval c env);pure (ForInStep.yield ok) else pure (ForInStep.yield r)) (λok s₃ =>
      if ok=true then wpAny (model prog w) A (eval elt env) (λx s₄ =>
       wpAny (model prog w) A (call (.builtin "list.append") [acc,x]) (λ_ s₅=>∃m,m<n/\I m s₅) (notedBy (model prog w) A env λe s'=>R (.error e) s') s₄) (notedBy (model prog w) A env λe s'=>R (.error e) s') s₃
      else ∃m,m<n/\I m s₃) (notedBy (model prog w) A env λe s'=>R (.error e) s') s₂) (notedBy (model prog w) A env λe s'=>R (.error e) s') s₁') (notedBy (model prog w) A env λe s'=>R (.error e) s') s₁) (notedBy (model prog w) A env λe s'=>R (.error e) s') s)
  (n:Nat) (h:I n s) :
  codeAny (model prog w) A (.compLoop (.ListComp elt [⟨target,iter,ifs,0⟩] scope pos) 0 it acc env) R s:=by
 refine codeAny_loop rfl I (λn s hI=>?_) n h
 show wpAny _ A ((compTurn (.ListComp elt [⟨target,iter,ifs,0⟩] scope pos) 0 it acc env).onRaise (λx=>do noteFrame x env;theTreesLotGoes x)) _ _ s
 refine wpAny_noted ?_
 rw [compTurn_list]
 refine qwb (wpAny_standAt (qwb (wpAny_mono (turn n s hI) (λr s₁ h₁=>?_) λ_ _ h'=>h')))
 cases r with
 | none=>exact qwp h₁
 | some v =>
  refine qwb (wpAny_mono h₁ (λ_ s₁' h₁=>?_) λ_ _ h'=>h')
  refine qwb (wpAny_mono h₁ (λ_ s₂ h₂=>qwb (wpAny_mono h₂ (λok s₃ h₃=>?_) λ_ _ h'=>h')) λ_ _ h'=>h')
  cases ok with
  | false=>exact qwp ⟨rfl,h₃⟩
  | true =>
   exact qwb (qwb (wpAny_mono h₃ (λx s₄ h₄=>qwb (wpAny_mono h₄ (λ_ s₅ h₅=>qwp (qwp ⟨rfl,h₅⟩)) λ_ _ h'=>h')) λ_ _ h'=>h'))
end
def PTs (X:Cx) (ifs:List Expr) (t:TT):Prop:=∀(pins:List (Addr × Obj)) (s:Shared) (σ:St) (H:Hp) (Q:Bool->Hp->Prop),Inv X pins σ H s->t σ H Q ->
 wpAny (model X.prog X.w) X.A (forIn ifs true λc r=>if r=true then do let ok <-isTrue c X.env (eval c X.env);pure (ForInStep.yield ok) else pure (ForInStep.yield r)) (TP X pins σ Q) X.xe s
theorem zz8 {X:Cx}:PTs X [] (λ_ H Q=>Q true H):=λ_ _ _ H _ I h=>wpAny_tests_nil ⟨H,I,h⟩
theorem zz9 {X:Cx}{c:Expr}{t:TT}(h:PT X c t):PTs X [c] t:=λpins s σ H Q I q=>wpAny_tests_one (h pins s σ H Q I q)
def zi1 (K:QFg) (wi:TI) (src:St->St) (g:TG) (tts:TT) (t:TE):TE:=λσ H Q=>wi σ H λJ H1=>∀D,H1 D=none->K.lookup D=none->∃W:Nat->Nat->St->Hp->Prop,
 (∃m,W 0 m (src σ) (upd H1 D (.lst [])))/\∀i m σ' H',W i m σ' H' ->
  (J.stop i H'/\Q (.ref D) H')\/(J.go i H'/\∃N:St->Hp->Prop,(∀σ' H',N σ' H'->∃m',m' < m/\W (i+1) m' σ' H') /\
   ∀x H'',J.yld i H' x H''->g x σ' H'' λσ2 H2=>tts σ2 H2 λb H3=>if b=true then t σ2 H3 (λv H4=>∃ys,H4 D=some (.lst ys)/\ys.length<sizeLine/\N σ2 (upd H4 D (.lst (ys++[v])))) else N σ2 H3)
theorem zqr {scope:Scope}{env:Env}:∀{names:List (Str × NameKind)}{x:Str},names.lookup x=some .free ->
  ((names.map λ(n,k)=>if (k == NameKind.free && env.scope.kind == .function && env.kindOf n == some .cell) then (n,NameKind.cell) else (n,k)).lookup x=some .cell \/
   (names.map λ(n,k)=>if (k == NameKind.free && env.scope.kind == .function && env.kindOf n == some .cell) then (n,NameKind.cell) else (n,k)).lookup x=some .free)
 | [],x,h=>by simp at h
 | (n,k) :: r,x,h=>by
  have ih:=@zqr scope env r x
  show List.lookup x ((if (k == NameKind.free && env.scope.kind == .function && env.kindOf n == some .cell)=true then (n,NameKind.cell) else (n,k)) :: _)=_\/List.lookup x ((if (k == NameKind.free && env.scope.kind == .function && env.kindOf n == some .cell)=true then (n,NameKind.cell) else (n,k)) :: _)=_
  cases hx:x == n with
  | true =>
   simp only [List.lookup_cons,hx] at h
   cases h
   by_cases hc:(NameKind.free == NameKind.free && env.scope.kind == .function && env.kindOf n == some .cell)=true
   ·rw [if_pos hc];simp [List.lookup_cons,hx]
   ·rw [if_neg hc];simp [List.lookup_cons,hx]
  | false =>
   simp only [List.lookup_cons,hx] at h
   by_cases hc:(k == NameKind.free && env.scope.kind == .function && env.kindOf n == some .cell)=true
   ·rw [if_pos hc];simp only [List.lookup_cons,hx];exact ih h
   ·rw [if_neg hc];simp only [List.lookup_cons,hx];exact ih h
structure CompSc (X:Cx) (N':List Str) (scope:Scope) (src:St->St):Prop where
 kind:scope.kind=.function
 nocell:∀y∈scope.names,y.2≠.cell
 names:∀y∈scope.names,y.2=.local->scope.names.lookup y.1=some .local
 free:∀y∈scope.names,y.2=.free->X.env.kindOf y.1=some .cell\/X.env.kindOf y.1=some .free
 rel:∀y,(relabel scope X.env).names.lookup y=some .cell\/(relabel scope X.env).names.lookup y=some .free->(y,NameKind.free)∈scope.names
 len:∀σ,(src σ).length=N'.length
 src:∀σ (i:Nat) v x,(src σ)[i]? = some (some v)->N'[i]? = some x->∃j:Nat,X.N[j]? = some x/\σ[j]? = some (some v)/\scope.names.lookup x=some .free
theorem zm1 {X:Cx}{N':List Str}{elt iter tgt:Expr}{ifs:List Expr}{scope:Scope}{pos pos':Pos}{use:Option (Value->Sem Unit)}{R:Value->Shared->Prop}{pins:List (Addr × Obj)}{s:Shared}{σ:St}{H:Hp}{Q:VK}{wi:TI}{src:St->St}{g:TG}{tts:TT}{t:TE}{xb:Addr->Value->Shared->Prop}{B:Addr->Shared->Hp->List Addr->List (Addr × Obj)->Prop}(hcalm:X.calm=true) (sc:CompSc X N' scope src)
  (hi:PI X tgt iter wi) (hg:∀C s H fp pins,PG ((cxC X N' scope C s H fp pins).wish (xb C)) tgt g) (ht:∀C s H fp pins,PTs ((cxC X N' scope C s H fp pins).wish (xb C)) ifs tts) (he:∀C s H fp pins,B C s H fp pins->PE ((cxC X N' scope C s H fp pins).wish (xb C)) elt t)
  (hxb:∀D C x s',xb C x s'->notedBy (model X.prog X.w) X.A (compEnvC scope (zem X.env scope.names []) C X.env) (λx s''=>compPost (model X.prog X.w) X.A X.xe use R (.ref D) C (.error x) s'') x s')
  (hB:∀s3 H3 fp,Inv X pins σ H3 s3->(∀b∈fp,zfl X pins H3 b)->B s3.heap.objs.size s3 H3 fp pins)
  (hs:∀x,foldedSetIterable iter X.env x=pure x) (I:Inv X pins σ H s) (h:zi1 X.K wi src g tts t σ H Q)
  (fin:∀D H5 s6 C mC,Inv X pins σ H5 s6->zfl X pins H5 C->s6.heap.Ns C mC->Q (.ref D) H5->compPost (model X.prog X.w) X.A X.xe use R (.ref D) C (.ok .next) s6) :
  wpAny (model X.prog X.w) X.A (comprehension (.ListComp elt [⟨tgt,iter,ifs,0⟩] scope pos) scope X.env pos' (newList []) false (eval iter X.env) use) R X.xe s:=by
 have hasC:∀x∈scope.names,x.2=.free->∃c,X.env.cells.lookup x.1=some c:=λx hx hf=>I.ok.has x.1 (sc.free x hx hf)
 refine wpAny_comprehension_free (use:=use) (env:=X.env) rfl hs (zz6 scope X.env hasC) sc.kind sc.names ?_
 show wpAny (model X.prog X.w) X.A (eval iter X.env) _ _ s
 refine wpAny_mono (hi pins s σ H _ I h) (λv s1 h1=>wpAny_mono h1 (λitv s2 h2=>?_) λ_ _ z=>z) λ_ _ z=>z
 obtain ⟨it,fp,tn,J,H2,rfl,I2,T,st2,f2,q⟩:=h2
 refine wpAny_newObj_type ?_ (by show 0<=sizeLine;exact Nat.zero_le _)
 have hD:H2 s2.heap.objs.size=none:=I2.hok.fresh (qlr _)
 have I3:Inv X pins σ (upd H2 s2.heap.objs.size (.lst [])) { s2 with heap:=s2.heap.push { cls:=.type "list",data:=.seq ([]:List Value).toArray } }:=I2.lnew (t':=s2.toks) .nil (Nat.zero_le _)
 obtain ⟨W,⟨m0,w0⟩,turn⟩:=q s2.heap.objs.size hD (by
  cases e:X.K.lookup s2.heap.objs.size with
  | none=>rfl
  | some o=>exact absurd (Heap.lt_size (I2.kIn _ o e)) (Nat.lt_irrefl _))
 refine wpAny_newFunctionEnv sc.nocell (by intro y hy;simp at hy) (λh' hns hsb=>?_) sc.kind
 have fpIn:∀b∈fp,∃o,s2.heap.get? b=some o/\∀v,o.data≠.cell v:=T.obj 0 s2.heap st2
 have fpD:∀b∈fp,b≠s2.heap.objs.size:=λb hb=>let ⟨o,e,_⟩:=fpIn b hb;Nat.ne_of_lt (Heap.lt_size e)
 have f3:∀b∈fp,zfl X pins (upd H2 s2.heap.objs.size (.lst [])) b:=λb hb=>⟨by rw [za2 (fpD b hb)];exact (f2 b hb).1,(f2 b hb).2⟩
 have st3:tn 0 (s2.heap.push { cls:=.type "list",data:=.seq ([]:List Value).toArray }):=T.keep _ _ _ st2 λb hb o e=>qps _ e
 clear q hD h st2 f2 fpD
 generalize upd H2 s2.heap.objs.size (.lst [])=H3 at *
 generalize hDe:s2.heap.objs.size=D at *
 have fpIn3:∀b∈fp,∃o,(s2.heap.push { cls:=.type "list",data:=.seq ([]:List Value).toArray }).get? b=some o/\∀v,o.data≠.cell v:=T.obj 0 _ st3
 clear fpIn
 generalize s2.heap.push { cls:=.type "list",data:=.seq ([]:List Value).toArray }=h3 at *
 have old:∀b o,h3.get? b=some o->h'.get? b=some o:=λb o e=>hsb.extBut b o (Nat.ne_of_lt (Heap.lt_size e)) (qps _ e)
 have stkNo:∀b,b≠X.env.locals->b ∉ X.fs->b ∉ frs X.stack:=λb h1 h2 hb=>by
  rcases List.mem_cons.mp (I3.stkSub b hb) with z|z
  ·exact h1 z
  ·exact h2 z
 have sub:=zk6 X.env scope.names [] (λx c z=>by simp at z)
 have cNe:∀b o,h3.get? b=some o->b≠h3.objs.size:=λb o e=>Nat.ne_of_lt (Heap.lt_size e)
 have I4:Inv (cxC X N' scope h3.objs.size { s2 with heap:=h3 } H3 fp pins) [] (src σ) H3 { s2 with heap:=h',toks:=s2.toks+([]:List (Str × Value)).length }:=by
  refine ⟨⟨I3.ok.mod,sc.kind,I3.ok.glob,I3.ok.blt,qlr _,λx y c h1 h2=>I3.ok.inj x y c (sub x c h1) (sub y c h2),λx hx=>?_,λx c z=>absurd (show false=true from z) Bool.false_ne_true,I3.ok.hd,I3.ok.frames,.inl rfl,λb hb=>⟨?_,λx c z=>(f3 b hb).2.2.2.2.1 x c (sub x c z)⟩,λb o e=>I3.bs b o e,Nat.le_trans I3.ok.bsz I3.sz,λb o e hb=>?_,λb hb=>stkNo b (f3 b hb).2.1 (f3 b hb).2.2.1,I3.stack,I3.stkFree⟩,
   rfl,I3.bare,Un.kept old,⟨_,hns,λi x v h1 h2 h3'=>?_⟩,λx c z=>?_,I3.hok.fresh (qlr _),λx c z=>I3.freeC x c (sub x c z),λp hp=>?_,I3.hok.kept old,sc.len σ⟩
  ·have hm:=sc.rel x hx
   exact zjw X.env scope.names [] x (.inl hm) (hasC _ hm rfl)
  ·obtain ⟨o,e,_⟩:=fpIn3 b hb
   exact cNe b o e
  ·rcases (f3 b hb).2.2.2.1 with z|z
   ·exact I3.ok.noex b o e z
   ·have:=Heap.lt_size (I3.ok.bs b o e).1
    exact absurd (Nat.lt_of_lt_of_le this z) (Nat.lt_irrefl _)
  ·obtain ⟨j,e1,e2,e3⟩:=sc.src σ i v x h2 h1
   obtain ⟨m,hn,hl⟩:=I3.loc
   have hmem:=PySem.mem_of_lookup e3
   have hk:=sc.free (x,.free) hmem rfl
   have vis:Vis X.env.scope x:=by
    rcases hk with k|k
    ·exact .inr (.inl k)
    ·exact .inr (.inr k)
   obtain ⟨u,r,lk⟩:=hl j x v e1 e2 vis
   refine ⟨u,r,.inr ⟨?_,?_⟩⟩
   ·exact zqr (scope:=scope) e3
   ·rcases lk with ⟨k,_⟩|⟨_,c,hc,hcell⟩
    ·rcases hk with k' | k' <;> (rw [k] at k';cases k')
    ·obtain ⟨c',hc'⟩:=zjw X.env scope.names [] x (.inl hmem) ⟨c,hc⟩
     have:=sub x c' hc'
     rw [hc] at this;cases this
     obtain ⟨o,ho,hd⟩:=hcell
     exact ⟨c,hc',o,old _ _ ho,hd⟩
  ·obtain ⟨v,o,ho,hd⟩:=I3.cell x c (sub x c z)
   exact ⟨v,o,old _ _ ho,hd⟩
  ·have hp':p∈X.pn++pins:=by simpa [cxC] using hp
   obtain ⟨e,n,ne,nf,d⟩:=I3.pin p hp'
   exact ⟨old _ _ e,n,cNe _ _ e,stkNo _ ne nf,d⟩
 have I4:=I4.wish (xb h3.objs.size)
 have hb:B h3.objs.size { s2 with heap:=h3 } H3 fp pins:=hB { s2 with heap:=h3 } H3 fp I3 f3
 have st4:tn 0 h':=T.keep _ _ _ st3 λb hb o e=>old b o e
 have fr4:∀b∈fp,H3 b=none:=λb hb=>(f3 b hb).1
 have stat:∀{H':Hp},(∀b∈fp,H' b=none)->∀b∈fp,zfl ((cxC X N' scope h3.objs.size { s2 with heap:=h3 } H3 fp pins).wish (xb h3.objs.size)) [] H' b:=λhn b hb=>by
  obtain ⟨g0,g1,g2,g3,g4,g5⟩:=f3 b hb
  obtain ⟨o,e,_⟩:=fpIn3 b hb
  exact ⟨hn b hb,cNe b o e,stkNo b g1 g2,.inl hb,λx c z=>g4 x c (sub x c z),λp hp=>g5 p (by simpa [cxC,Cx.wish] using hp)⟩
 have loop:codeAny (model X.prog X.w) X.A (.compLoop (.ListComp elt [⟨tgt,iter,ifs,0⟩] scope pos) 0 (.ref it) (.ref D) (compEnvC scope (zem X.env scope.names []) h3.objs.size X.env))
   (compPost (model X.prog X.w) X.A X.xe use R (.ref D) h3.objs.size) { s2 with heap:=h',toks:=s2.toks+([]:List (Str × Value)).length }:=by
  refine zz7 (λn s'=>∃i σ' H',Inv ((cxC X N' scope h3.objs.size { s2 with heap:=h3 } H3 fp pins).wish (xb h3.objs.size)) [] σ' H' s'/\tn i s'.heap/\(∀b∈fp,H' b=none)/\W i n σ' H') ?_ m0 ⟨0,src σ,H3,I4,st4,fr4,w0⟩
  rintro n s5 ⟨i,σ5,H5,I5,st5,fr5,w5⟩
  rcases turn i n σ5 H5 w5 with ⟨stop,qn⟩|⟨go,N,hN,step⟩
  ·refine wpAny_mono (T.done ((cxC X N' scope h3.objs.size { s2 with heap:=h3 } H3 fp pins).wish (xb h3.objs.size)) rfl rfl rfl hcalm i [] s5 σ5 H5 _ I5 (stat fr5) st5 stop) (λr s6 hr=>?_) λ_ _ z=>z
   obtain ⟨hr,I6⟩:=hr
   subst hr
   obtain ⟨mC,hnC,_⟩:=I6.loc
   have IX:Inv X pins σ H5 s6:=I3.call' (s':=s6) (ch:=fp) I6.os I6.base I6.hok I6.bare λb hb=>⟨(f3 b hb).2.2.2.1,(f3 b hb).2.1,(f3 b hb).2.2.2.2.1,(f3 b hb).2.2.2.2.2⟩
   exact fin D H5 s6 h3.objs.size mC IX (I3.fpOk (qlr _) I6.free) hnC qn
  ·refine wpAny_mono (T.item ((cxC X N' scope h3.objs.size { s2 with heap:=h3 } H3 fp pins).wish (xb h3.objs.size)) rfl rfl rfl hcalm i [] s5 σ5 H5 _ I5 (stat fr5) st5 go) (λr s6 hr=>?_) λ_ _ z=>z
   obtain ⟨u,hr,h6⟩:=hr
   subst hr
   refine wpAny_mono h6 (λ_ s7 h7=>?_) λ_ _ z=>z
   obtain ⟨x,H7,I7,r7,y7,st7,fr7⟩:=h7
   have I7':=I7.pinned (stat fr7) (T.obj _ _ st7)
   refine wpAny_mono (hg _ _ _ _ _ _ s7 σ5 H7 x u _ I7' r7 (step x H7 y7)) (λ_ s8 h8=>?_) λx s' z=>hxb D _ x s' z
   obtain ⟨σ8,H8,I8,q8⟩:=h8
   have again:∀{H9:Hp} {s9:Shared},Inv ((cxC X N' scope h3.objs.size { s2 with heap:=h3 } H3 fp pins).wish (xb h3.objs.size)) ([]++zjf fp s7.heap) σ8 H9 s9->N σ8 H9->∃m,m<n/\∃i σ' H',Inv ((cxC X N' scope h3.objs.size { s2 with heap:=h3 } H3 fp pins).wish (xb h3.objs.size)) [] σ' H' s9/\tn i s9.heap/\(∀b∈fp,H' b=none)/\W i m σ' H':=λ{H9 s9} I9 n9=>by
    obtain ⟨m',hm,w9⟩:=hN σ8 H9 n9
    refine ⟨m',hm,i+1,σ8,H9,I9.unpinned,T.keep _ _ _ st7 λb hb o e=>(I9.pin (b,o) (List.mem_append_right _ (List.mem_append_right _ (zks hb e)))).1,λb hb=>?_,w9⟩
    obtain ⟨o,e,d⟩:=T.obj _ _ st7 b hb
    exact (I9.pin (b,o) (List.mem_append_right _ (List.mem_append_right _ (zks hb e)))).2.1
   refine wpAny_mono (ht _ _ _ _ _ _ s8 σ8 H8 _ I8 q8) (λok s9 h9=>?_) λx s' z=>hxb D _ x s' z
   obtain ⟨H9,I9,q9⟩:=h9
   cases ok with
   | false=>exact again I9 q9
   | true =>
    refine wpAny_mono (he _ _ _ _ _ hb _ s9 σ8 H9 _ I9 q9) (λy s10 h10=>?_) λx s' z=>hxb D _ x s' z
    obtain ⟨vy,H10,I10,r10,ys,hys,hz,nx⟩:=h10
    refine wpAny_mono (zp4 (X:=(cxC X N' scope h3.objs.size { s2 with heap:=h3 } H3 fp pins).wish (xb h3.objs.size)) _ s10 σ8 H10 (.ref D) [vy] (.ref D) [y] (λ_ H'=>N σ8 H') I10 rfl (.cons r10 .nil) ⟨D,ys,vy,rfl,rfl,hys,hz,nx⟩) (λ_ s11 h11=>?_) λx s' z=>hxb D _ x s' z
    obtain ⟨_,H11,I11,_,n11⟩:=h11
    exact again I11 n11
 exact codeAny_compStart_list loop (T.self _ 0 _ _ _ st4 loop)
theorem yaa {X:Cx}{N':List Str}{elt iter tgt:Expr}{ifs:List Expr}{scope:Scope}{pos:Pos}{wi:TI}{src:St->St}{g:TG}{tts:TT}{t:TE}(hcalm:X.calm=true) (sc:CompSc X N' scope src)
  (hi:PI X tgt iter wi) (hg:∀C s H fp pins,PG (cxC X N' scope C s H fp pins) tgt g) (ht:∀C s H fp pins,PTs (cxC X N' scope C s H fp pins) ifs tts) (he:∀C s H fp pins,PE (cxC X N' scope C s H fp pins) elt t)
  (hs:∀x,foldedSetIterable iter X.env x=pure x:=by intro _;rfl):PE X (.ListComp elt [⟨tgt,iter,ifs,0⟩] scope pos) (zi1 X.K wi src g tts t):=by
 intro pins s σ H Q I h
 rw [eval_ListComp]
 refine zm1 (xb:=λ_ _ _=>False) (B:=λ_ _ _ _ _=>True) (use:=none) hcalm sc hi hg ht (λC s H fp pins _=>he C s H fp pins) (λ_ _ _ _ z=>z.elim) (λ_ _ _ _ _=>trivial) hs I h λD H5 s6 C mC IX fp hn q=>⟨mC,hn,λh'' sb=>⟨.ref D,H5,?_,rfl,q⟩⟩
 exact IX.turned (t':=s6.toks) (λb o hb e=>sb.extBut b o hb e) fp.1 fp.2.1 fp.2.2.2.1 fp.2.2.2.2.1 fp.2.2.2.2.2
theorem yab {X:Cx}{N':List Str}{elt iter tgt:Expr}{ifs:List Expr}{scope:Scope}{pos spos py:Pos}{wi:TI}{src:St->St}{g:TG}{tts:TT}{t:TE}{i:Nat}{y:Str}(hN:X.N.Nodup) (hi':X.N[i]? = some y) (hx:Loc X.env.scope y)
  (hsw:swapsWith (.ListComp elt [⟨tgt,iter,ifs,0⟩] scope pos) (some (.Name y py)) spos.line X.env=pure true) (hf:X.fn y=true\/X.env.scope.names.lookup y=some .local)
  (hcalm:X.calm=true) (sc:CompSc X N' scope src)
  (hi:PI X tgt iter wi) (hg:∀C s H fp pins,PG (cxC X N' scope C s H fp pins) tgt g) (ht:∀C s H fp pins,PTs (cxC X N' scope C s H fp pins) ifs tts) (he:∀C s H fp pins,PE (cxC X N' scope C s H fp pins) elt t)
  (hs:∀x,foldedSetIterable iter X.env x=pure x:=by intro _;rfl):PS X (.Assign [.Name y py] (.ListComp elt [⟨tgt,iter,ifs,0⟩] scope pos) spos) (zmg (zi1 X.K wi src g tts t) (zmf i)):=by
 intro pins s σ H D I h
 rw [exec_Assign_Name_used _ _ _ _ hsw]
 refine qwb (wpAny_standAt (qwb ?_))
 show wpAny _ X.A (do let _ <-comprehension (.ListComp elt [⟨tgt,iter,ifs,0⟩] scope pos) scope X.env _ (newList []) false (eval iter X.env) (some (assign (.Name y py) X.env))) _ _ s
 refine qwb (wpAny_mono (zm1 (xb:=λ_ _ _=>False) (B:=λ_ _ _ _ _=>True) (use:=some (assign (.Name y py) X.env)) (R:=λ_ s'=>SP X pins D .next s') hcalm sc hi hg ht (λC s H fp pins _=>he C s H fp pins) (λ_ _ _ _ z=>z.elim) (λ_ _ _ _ _=>trivial) hs I h λD' H5 s6 C mC IX fp hn q=>?_) (λ_ s' hq=>qwp (qwp hq)) λ_ _ e=>e)
 show wpAny _ X.A (assign (.Name y py) X.env (.ref D')) _ _ s6
 refine wpAny_assign_Name (zow (v:=.ref D') IX hN hi' hx rfl (λs' I' ha=>?_) hf)
 obtain ⟨a,sb,ha⟩:=ha
 have hCa:C≠a:=by
  rcases ha with ha|ha
  ·rw [ha];exact fp.2.1
  ·exact λz=>fp.2.2.2.2.1 y a ha z.symm
 refine ⟨mC,hn.sameBut sb hCa,λh'' sb''=>⟨_,H5,?_,q⟩⟩
 exact I'.turned (t':=s'.toks) (λb o hb e=>sb''.extBut b o hb e) fp.1 fp.2.1 fp.2.2.2.1 fp.2.2.2.2.1 fp.2.2.2.2.2
section
variable {K:QFg}{ρ ρ':List Addr}{H H':Hp}{S:Sto}
theorem Sim.notin {a:Addr}(s:Sim K ρ S H) (h1:H a=none) (h2:K.lookup a=none):∀n:Nat,ρ[n]?≠some a:=λn hn=>by
 have hl:n<S.length:=by rw [<-s.len];exact (qme hn).1
 have q:=s.at' n a _ hn (qge hl)
 cases e:S[n] with
 | lst xs=>rw [e] at q;obtain ⟨vs,z,_⟩:=q;rw [h1] at z;cases z
 | flst xs =>
  rw [e] at q
  obtain ⟨vs,z,_⟩:=q
  rcases z with ⟨o,z⟩|⟨o,_,_,z,_⟩
  ·rw [h1] at z;cases z
  ·rw [h2] at z;cases z
 | iset g m=>rw [e] at q;have q:H a=_:=q;rw [h1] at q;cases q
 | dct kvs=>rw [e] at q;obtain ⟨vs,z,_⟩:=q;rw [h1] at z;cases z
 | tdct kvs=>rw [e] at q;obtain ⟨vs,z,_⟩:=q;rw [h1] at z;cases z
 | fdct kvs=>rw [e] at q;obtain ⟨o,vs,z,_⟩:=q;rw [h1] at z;cases z
 | ftdct kvs=>rw [e] at q;obtain ⟨o,vs,z,_⟩:=q;rw [h1] at z;cases z
 | tset ks=>rw [e] at q;obtain ⟨xs,_,z,_⟩:=q;rw [h1] at z;cases z
 | fnc x=>rw [e] at q;obtain ⟨_,o,z⟩:=q;rw [h2] at z;cases z
 | exc c=>rw [e] at q;obtain ⟨C,_,z⟩:=q;rw [h1] at z;cases z
theorem Sim.adopt {a:Addr}{xs:List D}{vs:List V}(s:Sim K ρ S H) (ha:H a=some (.lst vs)) (hn:∀n:Nat,ρ[n]?≠some a) (r:RDs ρ H xs vs):Sim K (ρ++[a]) (S++[.lst xs]) H:=by
 refine ⟨by simp [s.len],λi j b x1 x2 h1 h2 h3 h4 m1 m2=>?_,λn b o h1 h2=>?_⟩
 ·rcases zdp h1 with g1|⟨e1,f1⟩ <;> rcases zdp h2 with g2|⟨e2,f2⟩
  ·rcases zdp h3 with h3|⟨e3,_⟩ <;> rcases zdp h4 with h4|⟨e4,_⟩
   ·exact s.nd i j b _ _ g1 g2 h3 h4 m1 m2
   ·have:=(qme g2).1;have:=s.len;omega
   ·have:=(qme g1).1;have:=s.len;omega
   ·omega
  ·subst f2;exact absurd g1 (hn i)
  ·subst f1;exact absurd g2 (hn j)
  ·omega
 ·rcases zdp h1 with h1|⟨e1,f1⟩
  ·rcases zdp h2 with h2|⟨e2,f2⟩
   ·exact (s.at' n b o h1 h2).more ext0_push
   ·have:=(qme h1).1;have:=s.len;omega
  ·subst f1
   rcases zdp h2 with h2|⟨e2,f2⟩
   ·have:=(qme h2).1;have:=s.len;omega
   ·subst f2
    exact ⟨vs,ha,r.mono0 ext0_push⟩
theorem Sim.beside {a:Addr}{ys:List V}{u:HO}(s:Sim K ρ S H) (ha:H a=some (.lst ys)) (hn:∀n:Nat,ρ[n]?≠some a):Sim K ρ S (upd H a u) :=
 ⟨s.len,s.nd,λn b o h1 h2=>(s.at' n b o h1 h2).written ha λ_ z=>hn n (by rw [h1,z])⟩
theorem Ext.beside {a:Addr}{ys:List V}{u:HO}{ρ0:List Addr}{H0:Hp}(e:Ext ρ0 H0 ρ H) (h0:H0 a=none) (ha:H a=some (.lst ys)):Ext ρ0 H0 ρ (upd H a u) :=
 ⟨⟨e.pre,λb vs h=>by rw [za2 (zhy (e.tup b vs h) ha (by intro z;cases z))];exact e.tup b vs h,λb o vs h=>by rw [za2 (zhy (e.frz b o vs h) ha (by intro z;cases z))];exact e.frz b o vs h⟩,λb vs h n=>⟨by rw [za2 (zci h h0)];exact (e.out b vs h n).1,(e.out b vs h n).2⟩⟩
theorem Ext.adopt {a:Addr}{ρ0:List Addr}{H0:Hp}(e:Ext ρ0 H0 ρ H) (h0:H0 a=none):Ext ρ0 H0 (ρ++[a]) H :=
 ⟨⟨λn b h=>(ext0_push (H:=H)).pre n b (e.pre n b h),e.tup,e.frz⟩,λb vs h n=>⟨(e.out b vs h n).1,λi hi=>by
  rcases zdp hi with hi|⟨_,z⟩
  ·exact (e.out b vs h n).2 i hi
  ·rw [z,h0] at h;cases h⟩⟩
end
abbrev ItM:=Nat->Sto->Option (Option D)
abbrev IM:=Lo->Sto->Option (ItM × Nat × Sto)
def zjx (K:QFg) (ρ:List Addr) (H:Hp) (it:ItM) (J:It):Prop:=∀(i:Nat) ρ' S' H',Ext ρ H ρ' H'->Sim K ρ' S' H' ->
 (it i S' = some none->J.stop i H')/\∀x,it i S' = some (some x)->J.go i H'/\∀y H'',J.yld i H' y H''->H'' = H'/\RD ρ' H' x y
inductive ti (K:QFg) (im:IM) (σ:St) (H:Hp) (R:It->Hp->Prop):Prop
 | mk (ρ:_) (l:_) (S:_) (it:_) (k:_) (S':_) (_:Sim K ρ S H) (_:RO ρ H l σ) (_:im l S=some (it,k,S')) (_:∀ρ' H' J,Ext ρ H ρ' H'->Sim K ρ' S' H'->zjx K ρ' H' it J->R J H')
def PI3 (X:Cx) (tgt iter:Expr) (im:IM):Prop:=PI X tgt iter (ti X.K im)
theorem PI.imp {X:Cx}{tgt iter:Expr}{t u:TI}(h:PI X tgt iter t) (i:∀σ H R,u σ H R->t σ H R):PI X tgt iter u:=λpins s σ H Q I q=>h pins s σ H Q I (i _ _ _ q)
noncomputable def itX (xs:List D):ItM:=λi _=>some xs[i]?
noncomputable def itL (n:Nat):ItM:=λi S=>(lstOf S n).bind λxs=>some xs[i]?
noncomputable def zb9 (e:EM):IM:=λl S=>(e l S).bind λp=>match p.1 with
 | .tup xs=>some (itX xs,xs.length+1,p.2)
 | .ref n=>(lstOf p.2 n).bind λxs=>some (itL n,xs.length+1,p.2)
 | _=>none
noncomputable def zi2 (r:Lo->Sto->Option ((Int × Nat) × Sto)):IM:=λl S=>(r l S).bind λp=>some (itX (zda p.1.1 p.1.2),p.1.2+1,p.2)
section
variable {K:QFg}
theorem yac {ρ:List Addr}{H:Hp}{a:Addr}{xs:List D}{vs:List V}(ha:H a=some (.tup vs)) (r:RDs ρ H xs vs):zjx K ρ H (itX xs) (Itt K a):=by
 intro i ρ' S' H' e s
 have ha':=SqT.of (K:=K) (e.tup _ _ ha)
 have r':=r.mono e
 refine ⟨λh=>?_,λx h=>?_⟩
 ·have h:xs[i]? = none:=qoi h
  exact ⟨vs,ha',by rw [<-r.length];exact List.getElem?_eq_none_iff.mp h⟩
 ·have h:xs[i]? = some x:=qoi h
  obtain ⟨v,hv,rv⟩:=r'.get h
  refine ⟨⟨vs,v,ha',hv⟩,λy H'' ⟨e1,e2⟩=>⟨e1,?_⟩⟩
  have:=e2 vs ha'
  rw [hv] at this;cases this
  exact rv
theorem yad {ρ:List Addr}{H:Hp}{a:Addr}{n:Nat}(ha:ρ[n]? = some a):zjx K ρ H (itL n) (Itl K a):=by
 intro i ρ' S' H' e s
 have ha':=e.pre _ _ ha
 refine ⟨λh=>?_,λx h=>?_⟩
 ·obtain ⟨xs,h1,h⟩:=bnd h
  have h:xs[i]? = none:=qoi h
  obtain ⟨b,vs,hb,sq,r⟩:=s.lstOf h1
  rw [ha'] at hb;cases hb
  exact ⟨vs,sq,by rw [<-r.length];exact List.getElem?_eq_none_iff.mp h⟩
 ·obtain ⟨xs,h1,h⟩:=bnd h
  have h:xs[i]? = some x:=qoi h
  obtain ⟨b,vs,hb,sq,r⟩:=s.lstOf h1
  rw [ha'] at hb;cases hb
  obtain ⟨v,hv,rv⟩:=r.get h
  refine ⟨⟨vs,v,sq,hv⟩,λy H'' ⟨e1,e2⟩=>⟨e1,?_⟩⟩
  have:=e2 vs sq
  rw [hv] at this;cases this
  exact rv
theorem yae {ρ:List Addr}{H:Hp}{lo:Int}{n:Nat}:zjx K ρ H (itX (zda lo n)) (Itr lo n):=by
 intro i ρ' S' H' e s
 refine ⟨λh=>?_,λx h=>?_⟩
 ·have h:(zda lo n)[i]? = none:=qoi h
  have:=List.getElem?_eq_none_iff.mp h
  simp [zda] at this
  exact this
 ·have h:(zda lo n)[i]? = some x:=qoi h
  have hl:=(qme h).1
  simp only [zda,qlm,List.length_range] at hl
  refine ⟨hl,λy H'' ⟨e1,e2⟩=>⟨e1,?_⟩⟩
  unfold zda at h
  rw [qgm,List.getElem?_range hl] at h
  cases h
  rw [e2]
  exact .int _
end
section
variable {X:Cx}{tgt iter:Expr}{m:EM}{mA:AM}{p0 pos':Pos}{a a2:Expr}
theorem zf7 (hi:PE3 X iter m):PI3 X tgt iter (zb9 m):=PI.imp (PI.or (zo5 hi) (zo6 hi)) λσ H R hx1_=>by
 obtain ⟨ρ,l,S,it,k,S',sim,ro,hm,p⟩:=hx1_
 obtain ⟨⟨x,S1⟩,q1,hm⟩:=bnd hm
 dsimp only at hm
 split at hm
 ·rename_i xs
  cases hm
  refine .inr ⟨ρ,l,S,.tup xs,_,sim,ro,q1,λρ1 H1 x' e1 s1 r1=>?_⟩
  cases r1 with
  | @tup xs a vs ha r=>exact ⟨a,rfl,⟨vs,SqT.of ha⟩,p ρ1 H1 _ e1 s1 (yac ha r)⟩
 ·rename_i n
  obtain ⟨xs,hx,hm⟩:=bnd hm
  cases hm
  refine .inl ⟨ρ,l,S,.ref n,_,sim,ro,q1,λρ1 H1 x' e1 s1 r1=>?_⟩
  obtain ⟨a,vs,ha,sq,rv⟩:=s1.lstOf hx
  cases r1 with
  | ref hn =>
   rw [ha] at hn;cases hn
   exact ⟨a,rfl,⟨vs,sq⟩,p ρ1 H1 _ e1 s1 (yad ha)⟩
 ·cases hm
theorem zm2 (hgl:Gl X "range") (hmg:X.mg "range" = none) (ha:PA3 X [a] mA) (hst:starEach [a] X.env=[(false,eval a X.env)]:=by rfl):PI3 X tgt (.Call (.Name "range" p0) [a] [] pos') (zi2 (zdb mA)) :=
 PI.imp (zo7 hgl hmg ha hst) λσ H R hx2_=>by
  obtain ⟨ρ,l,S,it,k,S',sim,ro,hm,p⟩:=hx2_
  obtain ⟨⟨⟨lo,n⟩,S1⟩,q1,hm⟩:=bnd hm
  cases hm
  obtain ⟨⟨xs,S2⟩,q2,q1⟩:=bnd q1
  dsimp only at q1
  split at q1
  ·rename_i j
   obtain ⟨hz,e⟩:=zb3 q1
   cases e
   refine ⟨ρ,l,S,[.int j],_,sim,ro,q2,λρ1 H1 vs e1 s1 r1=>?_⟩
   obtain ⟨v,rfl,rv⟩:=r1.one
   cases rv
   exact ⟨j,rfl,hz.1,hz.2,p ρ1 H1 _ e1 s1 yae⟩
  ·cases q1
end
noncomputable def zdr (it:ItM) (g:GM) (t:TM) (e:EM):Nat->Nat->Lo->Sto->Option (List D × Sto)
 | 0,_,_,_=>none
 | k+1,i,l,S=>(it i S).bind λo=>match o with
  | none=>some ([],S)
  | some x=>(g x l S).bind λp=>(t p.1 p.2).bind λq=>if q.1=true then (e p.1 q.2).bind λr=>(zdr it g t e k (i+1) p.1 r.2).bind λz=>some (r.1 :: z.1,z.2) else zdr it g t e k (i+1) p.1 q.2
noncomputable def za8 {α:Type}(ixs:List (Option Nat)) (l:List (Option α)):List (Option α):=ixs.map λo=>match o with
 | some j=>(l[j]?).join
 | none=>none
noncomputable def zbc (im:IM) (ixs:List (Option Nat)) (g:GM) (t:TM) (e:EM):EM:=λl S=>(im l S).bind λp=>(zdr p.1 g t e p.2.1 0 (za8 ixs l) p.2.2).bind λz=>if z.1.length<=sizeLine then some (.ref z.2.length,z.2++[.lst z.1]) else none
noncomputable def za5:TM:=λ_ S=>some (true,S)
theorem zqs {ρ:List Addr}{H:Hp}{l:Lo}{σ:St}(ixs:List (Option Nat)) (r:RO ρ H l σ):RO ρ H (za8 ixs l) (za8 ixs σ):=by
 refine ⟨by simp [za8],λi d h=>?_⟩
 unfold za8 at h ⊢
 rw [qgm] at h ⊢
 cases e:ixs[i]? with
 | none=>rw [e] at h;cases h
 | some o =>
  rw [e] at h
  cases o with
  | none=>cases h
  | some j =>
   have h:((l[j]?).join:Option D)=some d:=qoi h
   cases e2:l[j]? with
   | none=>rw [e2] at h;cases h
   | some o2 =>
    rw [e2] at h
    have h:o2=some d:=h
    subst h
    obtain ⟨v,h1,h2⟩:=r.get j d e2
    exact ⟨v,by show some ((σ[j]?).join)=_;rw [h1];rfl,h2⟩
inductive CI3 (K:QFg) (it:ItM) (g:GM) (t:TM) (e:EM) (S2:Sto) (all:List D) (ρ1:List Addr) (H1:Hp) (Da:Addr) (i m:Nat) (σ':St) (H':Hp):Prop
 | mk (ρ':List Addr) (l':Lo) (S':Sto) (ds:List D) (vs:List V) (rest:List D) (_:Ext ρ1 H1 ρ' H') (_:Sim K ρ' S' H') (_:RO ρ' H' l' σ') (_:H' Da=some (.lst vs)) (_:(∀n:Nat,ρ'[n]?≠some Da)) (_:RDs ρ' H' ds vs) (_:zdr it g t e m i l' S' = some (rest,S2)) (_:ds++rest=all)
theorem zqt {K:QFg}{im:IM}{ixs:List (Option Nat)}{g:GM}{t:TM}{e:EM}(σ:St) (H:Hp) (Q:VK) (q:te K (zbc im ixs g t e) σ H Q):zi1 K (ti K im) (za8 ixs) (tg K g) (tt K t) (te K e) σ H Q:=by
 obtain ⟨ρ,l,S,v,S',sim,ro,hm,p⟩:=q
 obtain ⟨⟨it,k,S1⟩,q1,hm⟩:=bnd hm
 obtain ⟨⟨all,S2⟩,q2,hm⟩:=bnd hm
 obtain ⟨hz,he⟩:=zb3 hm
 cases he
 refine ⟨ρ,l,S,it,k,S1,sim,ro,q1,λρ1 H1 J e1 s1 io D hD hK=>?_⟩
 dsimp only at q2 hz p
 refine ⟨λi m σ' H'=>CI3 K it g t e S2 all ρ1 H1 D i m σ' H',⟨k,?_⟩,?_⟩
 ·exact ⟨ρ1,za8 ixs l,S1,[],[],all,zff hD,s1.laid hD,(zqs ixs (ro.mono e1)).mono (zff hD),zfe,s1.notin hD hK,.nil,q2,rfl⟩
 ·rintro i m σ' H' ⟨ρ',l',S',ds,vs,rest,e2,s2,ro2,hD2,hn2,rd2,hc,hall⟩
  cases m with
  | zero=>cases hc
  | succ m =>
   unfold zdr at hc
   obtain ⟨o,ho,hc⟩:=bnd hc
   obtain ⟨iStop,iGo⟩:=io i ρ' S' H' e2 s2
   cases o with
   | none =>
    cases hc
    rw [List.append_nil] at hall
    subst hall
    refine .inl ⟨iStop ho,p (ρ'++[D]) H' (.ref D) (e1.trans (e2.adopt hD)) (s2.adopt hD2 hn2 rd2) (.ref ?_)⟩
    rw [<-s2.len];exact zd5 ρ' D
   | some x =>
    obtain ⟨⟨l3,S3⟩,q3,hc⟩:=bnd hc
    obtain ⟨⟨b,S4⟩,q4,hc⟩:=bnd hc
    obtain ⟨hgo,hy⟩:=iGo x ho
    refine .inr ⟨hgo,_,λσ' H' h=>h,λy H'' hyl=>?_⟩
    obtain ⟨rfl,ry⟩:=hy y H'' hyl
    refine ⟨ρ',l',S',x,l3,S3,s2,ro2,ry,q3,λρ3 H3 σ3 e3 s3 ro3=>⟨ρ3,l3,S3,b,S4,s3,ro3,q4,λρ4 H4 e4 s4=>?_⟩⟩
    obtain ⟨hD3,hn3⟩:=e3.out D _ hD2 hn2
    obtain ⟨hD4,hn4⟩:=e4.out D _ hD3 hn3
    cases b with
    | false=>exact zfy ⟨m,Nat.lt_succ_self m,ρ4,l3,S4,ds,vs,rest,e2.trans (e3.trans e4),s4,ro3.mono e4,hD4,hn4,rd2.mono (e3.trans e4),hc,hall⟩
    | true =>
     have hc:((e l3 S4).bind λr=>(zdr it g t e m (i+1) l3 r.2).bind λz=>some (r.1 :: z.1,z.2))=some (rest,S2):=hc
     obtain ⟨⟨y5,S5⟩,q5,hc⟩:=bnd hc
     obtain ⟨⟨rest',S6⟩,q6,hc⟩:=bnd hc
     cases hc
     refine zfo ⟨ρ4,l3,S4,y5,S5,s4,ro3.mono e4,q5,λρ5 H5 v5 e5 s5 r5=>?_⟩
     obtain ⟨hD5,hn5⟩:=e5.out D _ hD4 hn4
     have e25:=e2.trans (e3.trans (e4.trans e5))
     have rd5:=rd2.mono (e3.trans (e4.trans e5))
     have hlen:vs.length<sizeLine:=by
      have h1:=rd5.length
      have h2:=congrArg List.length hall
      rw [qla,List.length_cons] at h2
      omega
     refine ⟨vs,hD5,hlen,m,Nat.lt_succ_self m,ρ5,l3,S5,ds++[y5],vs++[v5],rest',e25.beside hD hD5,s5.beside hD5 hn5,?_,zfe,hn5,((rd5.append (.cons r5 .nil)).mono0 (zjh hD5)),q6,by rw [<-hall];simp⟩
     have r0:=(ro3.mono e4).mono e5
     exact ⟨r0.len,λi d h=>let ⟨w,h1,h2⟩:=r0.get i d h;⟨w,h1,h2.mono0 (zjh hD5)⟩⟩
theorem zeb {X:Cx}:PTs X [] (tt X.K za5):=λpins s σ H Q I hx4_=>by
 obtain ⟨ρ,l,S,v,S',sim,ro,hm,p⟩:=hx4_
 cases hm
 exact zz8 pins s σ H Q I (p ρ H (Ext.refl ..) sim)
theorem zjy {X:Cx}{c:Expr}{t:TM}(h:PT3 X c t):PTs X [c] (tt X.K t):=zz9 h
theorem zeg {X:Cx}{N':List Str}{elt iter tgt:Expr}{ifs:List Expr}{scope:Scope}{pos:Pos}{im:IM}{ixs:List (Option Nat)}{g:GM}{t:TM}{e:EM}(hcalm:X.calm=true) (sc:CompSc X N' scope (za8 ixs))
  (hi:PI3 X tgt iter im) (hg:∀C s H fp pins,PG3 (cxC X N' scope C s H fp pins) tgt g) (ht:∀C s H fp pins,PTs (cxC X N' scope C s H fp pins) ifs (tt X.K t)) (he:∀C s H fp pins,PE3 (cxC X N' scope C s H fp pins) elt e)
  (hs:∀x,foldedSetIterable iter X.env x=pure x:=by intro _;rfl):PE3 X (.ListComp elt [⟨tgt,iter,ifs,0⟩] scope pos) (zbc im ixs g t e) :=
 PE.imp (yaa (g:=tg X.K g) (tts:=tt X.K t) (t:=te X.K e) hcalm sc hi hg ht he hs) zqt
theorem zm3 (j:Nat) {X:Cx}{N':List Str}{elt iter tgt:Expr}{ifs:List Expr}{scope:Scope}{pos spos py:Pos}{y:Str}{im:IM}{ixs:List (Option Nat)}{g:GM}{t:TM}{e:EM}(hN:X.N.Nodup) (hcalm:X.calm=true) (sc:CompSc X N' scope (za8 ixs))
  (hi:PI3 X tgt iter im) (hg:∀C s H fp pins,PG3 (cxC X N' scope C s H fp pins) tgt g) (ht:∀C s H fp pins,PTs (cxC X N' scope C s H fp pins) ifs (tt X.K t)) (he:∀C s H fp pins,PE3 (cxC X N' scope C s H fp pins) elt e)
  (hi':X.N[j]? = some y:=by rfl) (hx:Loc X.env.scope y:=by first|exact Or.inl rfl|exact Or.inr rfl)
  (hsw:swapsWith (.ListComp elt [⟨tgt,iter,ifs,0⟩] scope pos) (some (.Name y py)) spos.line X.env=pure true:=by with_unfolding_all rfl) (hf:X.fn y=true\/X.env.scope.names.lookup y=some .local:=by first|exact .inl rfl|exact .inr rfl|assumption)
  (hs:∀x,foldedSetIterable iter X.env x=pure x:=by intro _;rfl):PS3 X (.Assign [.Name y py] (.ListComp elt [⟨tgt,iter,ifs,0⟩] scope pos) spos) (zak (zbc im ixs g t e) (gName3 j)) :=
 PS.imp (yab (g:=tg X.K g) (tts:=tt X.K t) (t:=te X.K e) hN hi' hx hsw hf hcalm sc hi hg ht he hs) λE σ H hx5_=>by
  obtain ⟨ρ,l,S,f,l',S',sim,ro,hm,p⟩:=hx5_
  obtain ⟨⟨x,S1⟩,q1,hm⟩:=bnd hm
  cases hm
  exact zqt σ H _ ⟨ρ,l,S,x,S1,sim,ro,q1,λρ1 H1 x' e1 s1 r1=>p ρ1 H1 _ e1 s1 ((ro.mono e1).set j r1)⟩
noncomputable def zk7:D->D->Sto->Option (D × Sto)
 | .int i,.int j,S=>some (.int (i+j),S)
 | .tup xs,.tup ys,S=>if xs.length+ys.length<=sizeLine then some (.tup (xs++ys),S) else none
 | .ref n,.ref m,S=>match S[n]?,S[m]? with
  | some (.lst xs),some (.lst ys)=>if xs.length+ys.length<=sizeLine then some (.ref S.length,S++[.lst (xs++ys)]) else none
  | _,_=>none
 | _,_,_=>none
theorem yaf {K:QFg}:Op3 K zk7 (λx y H Q=>rI0 (λi j=>.int (i+j)) x y H Q\/(zmk K x y H Q\/zmw K x y H Q)\/zp5 x y H Q):=by
 intro ρ S H x y x' y' v S' Q sim rx ry h p
 unfold zk7 at h
 split at h
 ·cases rx;cases ry;cases h
  exact .inl ⟨_,_,rfl,rfl,p ρ H _ (Ext.refl ..) sim (.int _)⟩
 ·refine .inr (.inl (zzq ρ S H _ _ x' y' v S' Q sim rx ry ?_ p))
  unfold zmv
  exact h
 ·split at h
  ·rename_i xs ys e1 e2
   obtain ⟨hz,e⟩:=zb3 h
   cases e
   obtain ⟨a,us,ha,hH,r2⟩:=sim.lst e1
   obtain ⟨b,ws,hb,hH2,r3⟩:=sim.lst e2
   cases rx with
   | ref hn =>
    rw [ha] at hn;cases hn
    cases ry with
    | ref hm =>
     rw [hb] at hm;cases hm
     exact .inr (.inr ⟨a,b,us,ws,rfl,rfl,hH,hH2,by rw [<-r2.length,<-r3.length];exact hz,zh3 sim (r2.append r3) p⟩)
  ·cases h
 ·cases h
section
variable {X:Cx}{a b:Expr}{ma mb:EM}{pos:Pos}
end
def Has (P:Program) (w:World) (K:QFg) (mg:Str->Option Value) (base:Heap) (x:Str) (k n:Nat) (m:FM):Prop :=
 ∃(f:Addr) (fd:FuncData) (ps:List Str),FnOk P w K mg base CX0 k f fd ps (sp3 K n m)/\mg x=some (.ref f)/\PySem.W.keepIn K (.ref f)=true/\Binds K fd ps []
section
variable {X:Cx}{a:Expr}{es:List Expr}{mA:AM}{pos p:Pos}{x:Str}{k j n:Nat}{m:FM}
theorem zao (F:Has X.prog X.w X.K X.mg X.base x k n m) (hr:Room j X.A) (hkj:k<=j) (hg:Gl X x)
  (ha:PA3 X (a :: es) mA) (hl:∀l S v S',mA l S=some (v,S')->v.length=n) (hdb:(x == ("__debug__":Str))=false:=by decide) (he:starEach (a :: es) X.env=(false,eval a X.env) :: starEach es X.env:=by rfl) (hpl:(backTo pos (starEach es X.env)).any (·.1)=false:=by rfl) :
  PE3 X (.Call (.Name x p) (a :: es) [] pos) (zac m mA):=by
 obtain ⟨f,fd,ps,F,hm,hk,hb⟩:=F
 exact zz1 F (hr.mono hkj) hg hm hk hb ha hl hdb he hpl
theorem yag:bootBuiltins "int" = some (.type "int"):=by decide +kernel
theorem zqu:bootBuiltins "tuple" = some (.type "tuple"):=by decide +kernel
theorem yah:bootBuiltins "list" = some (.type "list"):=by decide +kernel
theorem zk8:bootBuiltins "str" = some (.type "str"):=by decide +kernel
theorem yai:bootBuiltins "min" = some (.builtin "min"):=by decide +kernel
theorem yaj:bootBuiltins "max" = some (.builtin "max"):=by decide +kernel
theorem zgr (hg:Gl X "tuple") (hm:X.mg "tuple" = none) (ha:PA3 X (a :: es) mA) (he:starEach (a :: es) X.env=(false,eval a X.env) :: starEach es X.env:=by rfl) (hpl:(backTo pos (starEach es X.env)).any (·.1)=false:=by rfl):PE3 X (.Call (.Name "tuple" p) (a :: es) [] pos) (zac zc9 mA) :=
 zjo zp2 zzv hg hm zqu ha (by decide) (by decide) he hpl
theorem zqv (hg:Gl X "list") (hm:X.mg "list" = none) (ha:PA3 X (a :: es) mA) (he:starEach (a :: es) X.env=(false,eval a X.env) :: starEach es X.env:=by rfl) (hpl:(backTo pos (starEach es X.env)).any (·.1)=false:=by rfl):PE3 X (.Call (.Name "list" p) (a :: es) [] pos) (zac zg3 mA) :=
 zjo zyz zzw hg hm yah ha (by decide) (by decide) he hpl
theorem yak (hc:X.calm=true) (hg:Gl X "min") (hm:X.mg "min" = none) (ha:PA3 X (a :: es) mA) (he:starEach (a :: es) X.env=(false,eval a X.env) :: starEach es X.env:=by rfl) (hpl:(backTo pos (starEach es X.env)).any (·.1)=false:=by rfl):PE3 X (.Call (.Name "min" p) (a :: es) [] pos) (zac zjt mA) :=
 zjn (zx4 hc) zzt hg hm yai ha (by decide) (by decide) he hpl
theorem yal (hc:X.calm=true) (hg:Gl X "max") (hm:X.mg "max" = none) (ha:PA3 X (a :: es) mA) (he:starEach (a :: es) X.env=(false,eval a X.env) :: starEach es X.env:=by rfl) (hpl:(backTo pos (starEach es X.env)).any (·.1)=false:=by rfl):PE3 X (.Call (.Name "max" p) (a :: es) [] pos) (zac zju mA) :=
 zjn (zx3 hc) zzu hg hm yaj ha (by decide) (by decide) he hpl
end
theorem yam {P:Program}{w:World}{K:QFg}{mg:Str->Option Value}{base:Heap}{x:Str}{st:Stmt}{f:Addr}{fd:FuncData}{N ps:List Str}{k n:Nat}{b:SM}(F:Fun K x x st f fd) (hm:mg x=some (.ref f)) (S:FnScope N ps (zas st)) (hn:ps.length=n) (hb:Binds K fd ps [])
  (hbody:∀(cdv:Value),PySem.W.codeIn K cdv x=true->∀(A:Around) (outer:List Env) (s:Shared) (H:Hp) (E:XK),Room k (A.deeper (envOfC x (zas st) s.heap.objs.size f cdv)) ->
   ze3 (zcj CX0 P w K mg base N x (zas st) f cdv A outer s H E).nox (zfn st) b):Has P w K mg base x (k+1) n (zbm N.length b) :=
 ⟨f,fd,ps,zqp F S hn hbody,hm,F.kp,hb⟩
noncomputable def chk (scO scope:Scope) (NO N':List Str) (ixs:List (Option Nat)):Bool :=
 decide (scope.kind=.function) && (scope.names.all λy=>y.2 != .cell) && (scope.names.all λy=>y.2 != .local || scope.names.lookup y.1 == some .local) &&
 (scope.names.all λy=>y.2 != .free || (scO.names.lookup y.1 == some .cell || scO.names.lookup y.1 == some .free)) && (ixs.length == N'.length) &&
 ((List.range ixs.length).all λi=>match ixs[i]? with|some (some j)=>(NO[j]? == N'[i]? && (match N'[i]? with|some x=>scope.names.lookup x == some .free|none=>false))|_=>true)
theorem zcy {X:Cx}{scO scope:Scope}{NO N':List Str}{ixs:List (Option Nat)}(hX:X.env.scope=scO) (hN:X.N=NO) (h:chk scO scope NO N' ixs=true):CompSc X N' scope (za8 ixs):=by
 unfold chk at h
 simp only [Bool.and_eq_true,decide_eq_true_eq,List.all_eq_true,beq_iff_eq,Bool.or_eq_true,bne_iff_ne,ne_eq] at h
 obtain ⟨⟨⟨⟨⟨h1,h2⟩,h3⟩,h4⟩,h5⟩,h6⟩:=h
 refine ⟨h1,h2,λy hy hl=>?_,λy hy hl=>?_,λy hy=>?_,λσ=>by simp [za8,h5],λσ i v x hv hx=>?_⟩
 ·rcases h3 y hy with z|z
  ·exact absurd hl z
  ·exact z
 ·show X.env.scope.names.lookup y.1=_\/X.env.scope.names.lookup y.1=_
  rw [hX]
  rcases h4 y hy with z|z
  ·exact absurd hl z
  ·exact z
 ·have mem:∃k,(k=NameKind.cell\/k=NameKind.free)/\(y,k)∈(relabel scope X.env).names:=by
   rcases hy with z|z
   ·exact ⟨_,.inl rfl,PySem.mem_of_lookup z⟩
   ·exact ⟨_,.inr rfl,PySem.mem_of_lookup z⟩
  obtain ⟨k,hk,hm⟩:=mem
  unfold relabel at hm
  obtain ⟨⟨n,k'⟩,hm1,hm2⟩:=List.mem_map.mp hm
  dsimp only at hm2
  split at hm2
  ·rename_i hc
   have:k' = .free:=by
    rw [Bool.and_eq_true,Bool.and_eq_true] at hc
    exact eq_of_beq hc.1.1
   cases hm2
   rw [<-this];exact hm1
  ·cases hm2
   rcases hk with z|z
   ·exact absurd z (h2 _ hm1)
   ·rw [<-z];exact hm1
 ·have hl:i<ixs.length:=by
   have:=(qme hv).1
   simpa [za8] using this
  unfold za8 at hv
  rw [qgm] at hv
  have q:=h6 i (List.mem_range.mpr hl)
  cases e:ixs[i]? with
  | none=>rw [e] at hv;cases hv
  | some o =>
   rw [e] at hv
   cases o with
   | none=>cases hv
   | some j =>
    rw [e] at q
    dsimp only at q
    rw [hx] at q
    simp only [Bool.and_eq_true,beq_iff_eq] at q
    have hv:((σ[j]?).join:Option V)=some v:=qoi hv
    refine ⟨j,by rw [hN];exact q.1,?_,q.2⟩
    cases e2:σ[j]? with
    | none=>rw [e2] at hv;cases hv
    | some o2=>rw [e2] at hv;have hv:o2=some v:=hv;rw [hv]
theorem yan {K:QFg}{H:Hp}{a:Addr}{ns:List Int}{m:FM}(hO:zkx H) (hS:SqL K H a (ns.map V.int)) (h:∃S',m [.ref 0] [.flst (ns.map D.int)]=some (.bl true,S')):sp3 K 1 m [.ref a] H (λv _=>v=.bl true) λ_ _ _=>False:=by
 obtain ⟨S',h⟩:=h
 have rn:∀ns:List Int,RDs [a] H (ns.map D.int) (ns.map V.int):=λns=>by
  induction ns with
  | nil=>exact .nil
  | cons x r ih=>exact .cons (.int x) ih
 refine ⟨rfl,[a],[.ref 0],_,_,S',⟨rfl,λi j b o1 o2 h1 h2 h3 h4 m1 m2=>?_,λn b o h1 h2=>?_⟩,.cons (.ref rfl) .nil,h,λρ' H' v' e s r=>?_⟩
 ·cases i with
  | zero=>cases h3;cases m1
  | succ i=>cases h3
 ·cases n with
  | succ n=>cases h1
  | zero =>
   cases h1;cases h2
   refine ⟨_,?_,rn ns⟩
   rcases hS with (z|⟨o,z⟩)|z
   ·rcases hO a with y|⟨o,xs,y⟩ <;> (rw [z] at y;cases y)
   ·exact .inl ⟨o,z⟩
   ·exact .inr z
 ·cases r;rfl
noncomputable def top (b:List Stmt) (i:Nat):Stmt:=b.getD i (.Pass ⟨0,0,0,0⟩)
def We (m:EM) (l:Lo) (S:Sto) (Q:D->Sto->Prop):Prop:=∃v S',m l S=some (v,S')/\Q v S'
def Wt (m:TM) (l:Lo) (S:Sto) (Q:Bool->Sto->Prop):Prop:=∃v S',m l S=some (v,S')/\Q v S'
def Wa (m:AM) (l:Lo) (S:Sto) (Q:List D->Sto->Prop):Prop:=∃v S',m l S=some (v,S')/\Q v S'
def Wo (o:Option (D × Sto)) (Q:D->Sto->Prop):Prop:=∃v S',o=some (v,S')/\Q v S'
def Wg (o:Option (Lo × Sto)) (Q:Lo->Sto->Prop):Prop:=∃l S',o=some (l,S')/\Q l S'
def Wr (o:Option (Fl × Lo × Sto)) (Q:Fl->Lo->Sto->Prop):Prop:=∃f l S',o=some (f,l,S')/\Q f l S'
abbrev Ws (m:SM) (l:Lo) (S:Sto) (Q:Fl->Lo->Sto->Prop):Prop:=Wr (m l S) Q
section
variable {a b c:EM}{t u:TM}{l:Lo}{S:Sto}{Q:D->Sto->Prop}{QB:Bool->Sto->Prop}{QA:List D->Sto->Prop}{QS:Fl->Lo->Sto->Prop}{QG:Lo->Sto->Prop}
theorem zar {i:Nat}:We (eVar i) l S Q = ∃d,l[i]? = some (some d)/\Q d S:=by
 apply propext;unfold We eVar
 constructor
 ·rintro ⟨v,S',h,q⟩
  split at h
  ·rename_i d e;cases h;exact ⟨_,e,q⟩
  ·cases h
 ·rintro ⟨d,e,q⟩
  exact ⟨d,S,by rw [e],q⟩
theorem za1 {d:D}:We (eC d) l S Q=Q d S:=by
 apply propext;unfold We eC
 exact ⟨λhx1_=>by obtain ⟨v,S',h,q⟩:=hx1_;cases h;exact q,λq=>⟨_,_,rfl,q⟩⟩
theorem zba {f:D->D->Sto->Option (D × Sto)}:We (eOp f a b) l S Q=We a l S λx S1=>We b l S1 λy S2=>Wo (f x y S2) Q:=by
 apply propext
 constructor
 ·rintro ⟨v,S',h,q⟩
  obtain ⟨⟨x,S1⟩,h1,h⟩:=bnd h
  obtain ⟨⟨y,S2⟩,h2,h⟩:=bnd h
  exact ⟨x,S1,h1,y,S2,h2,v,S',h,q⟩
 ·rintro ⟨x,S1,h1,y,S2,h2,v,S',h,q⟩
  exact ⟨v,S',by unfold eOp;rw [h1];show (b l S1).bind _=_;rw [h2];exact h,q⟩
theorem zat:Wa zab l S QA=QA [] S:=by
 apply propext
 exact ⟨λhx2_=>by obtain ⟨v,S',h,q⟩:=hx2_;cases h;exact q,λq=>⟨_,_,rfl,q⟩⟩
theorem zaw {r:AM}:Wa (zaa a r) l S QA=We a l S λx S1=>Wa r l S1 λxs S2=>QA (x :: xs) S2:=by
 apply propext
 constructor
 ·rintro ⟨v,S',h,q⟩
  obtain ⟨⟨x,S1⟩,h1,h⟩:=bnd h
  obtain ⟨⟨y,S2⟩,h2,h⟩:=bnd h
  cases h
  exact ⟨x,S1,h1,y,_,h2,q⟩
 ·rintro ⟨x,S1,h1,y,S2,h2,q⟩
  exact ⟨x :: y,S2,by unfold zaa;rw [h1];show (r l S1).bind _=_;rw [h2];rfl,q⟩
theorem zay {f:FM}{r:AM}:We (zac f r) l S Q=Wa r l S λxs S1=>Wo (f xs S1) Q:=by
 apply propext
 constructor
 ·rintro ⟨v,S',h,q⟩
  obtain ⟨⟨x,S1⟩,h1,h⟩:=bnd h
  exact ⟨x,S1,h1,v,S',h,q⟩
 ·rintro ⟨x,S1,h1,v,S',h,q⟩
  exact ⟨v,S',by unfold zac;rw [h1];exact h,q⟩
theorem zcm {f:D->List D->Sto->Option (D × Sto)}{r:AM}:We (zfg f a r) l S Q=We a l S λx S1=>(∃xs,zix x S1=some xs)/\Wa r l S1 λys S2=>Wo (f x ys S2) Q:=by
 apply propext
 constructor
 ·rintro ⟨v,S',h,q⟩
  obtain ⟨⟨x,S1⟩,h1,h⟩:=bnd h
  obtain ⟨xs,h2,h⟩:=bnd h
  obtain ⟨⟨y,S2⟩,h3,h⟩:=bnd h
  exact ⟨x,S1,h1,⟨xs,h2⟩,y,S2,h3,v,S',h,q⟩
 ·rintro ⟨x,S1,h1,⟨xs,h2⟩,y,S2,h3,v,S',h,q⟩
  refine ⟨v,S',?_,q⟩
  unfold zfg;rw [h1];show (zix x S1).bind _=_;rw [h2];show (r l S1).bind _=_;rw [h3];exact h
theorem zbu:Wt (tE a) l S QB=We a l S λx S1=>∃k,x=.bl k/\QB k S1:=by
 apply propext
 constructor
 ·rintro ⟨v,S',h,q⟩
  obtain ⟨⟨x,S1⟩,h1,h⟩:=bnd h
  refine ⟨x,S1,h1,?_⟩
  cases x with
  | bl k=>cases h;exact ⟨_,rfl,q⟩
  | _=>cases h
 ·rintro ⟨x,S1,h1,k,rfl,q⟩
  exact ⟨k,S1,by unfold tE;rw [h1];rfl,q⟩
theorem zdc:Wt (zis t u) l S QB=Wt t l S λk S1=>if k=true then Wt u l S1 QB else QB false S1:=by
 apply propext
 constructor
 ·rintro ⟨v,S',h,q⟩
  obtain ⟨⟨x,S1⟩,h1,h⟩:=bnd h
  refine ⟨x,S1,h1,?_⟩
  cases x with
  | true=>exact ⟨v,S',h,q⟩
  | false=>cases h;exact q
 ·rintro ⟨x,S1,h1,h⟩
  cases x with
  | true=>obtain ⟨v,S',h,q⟩:=h;exact ⟨v,S',by unfold zis;rw [h1];exact h,q⟩
  | false=>exact ⟨false,S1,by unfold zis;rw [h1];rfl,h⟩
theorem zcz:Wt (zca t u) l S QB=Wt t l S λk S1=>if k=true then QB true S1 else Wt u l S1 QB:=by
 apply propext
 constructor
 ·rintro ⟨v,S',h,q⟩
  obtain ⟨⟨x,S1⟩,h1,h⟩:=bnd h
  refine ⟨x,S1,h1,?_⟩
  cases x with
  | false=>exact ⟨v,S',h,q⟩
  | true=>cases h;exact q
 ·rintro ⟨x,S1,h1,h⟩
  cases x with
  | false=>obtain ⟨v,S',h,q⟩:=h;exact ⟨v,S',by unfold zca;rw [h1];exact h,q⟩
  | true=>exact ⟨true,S1,by unfold zca;rw [h1];rfl,h⟩
theorem zc0:Wt (zbi t) l S QB=Wt t l S λk S1=>QB (!k) S1:=by
 apply propext
 constructor
 ·rintro ⟨v,S',h,q⟩
  obtain ⟨⟨x,S1⟩,h1,h⟩:=bnd h
  cases h
  exact ⟨x,_,h1,q⟩
 ·rintro ⟨x,S1,h1,q⟩
  exact ⟨!x,S1,by unfold zbi;rw [h1];rfl,q⟩
theorem zqw:Wt za5 l S QB=QB true S:=by
 apply propext
 exact ⟨λhx3_=>by obtain ⟨v,S',h,q⟩:=hx3_;cases h;exact q,λq=>⟨_,_,rfl,q⟩⟩
theorem zds:We (zeq t a b) l S Q=Wt t l S λk S1=>if k=true then We a l S1 Q else We b l S1 Q:=by
 apply propext
 constructor
 ·rintro ⟨v,S',h,q⟩
  obtain ⟨⟨x,S1⟩,h1,h⟩:=bnd h
  refine ⟨x,S1,h1,?_⟩
  cases x with
  | true=>exact ⟨v,S',h,q⟩
  | false=>exact ⟨v,S',h,q⟩
 ·rintro ⟨x,S1,h1,h⟩
  cases x with
  | true=>obtain ⟨v,S',h,q⟩:=h;exact ⟨v,S',by unfold zeq;rw [h1];exact h,q⟩
  | false=>obtain ⟨v,S',h,q⟩:=h;exact ⟨v,S',by unfold zeq;rw [h1];exact h,q⟩
variable {m n:SM}
theorem zbv:Ws zaq l S QS=QS .nx l S:=by
 apply propext
 exact ⟨λhx4_=>by obtain ⟨f,v,S',h,q⟩:=hx4_;cases h;exact q,λq=>⟨_,_,_,rfl,q⟩⟩
theorem zb6:Ws (zah m n) l S QS=Ws m l S λf l1 S1=>match f with | .nx=>Ws n l1 S1 QS|f=>QS f l1 S1:=by
 apply propext
 constructor
 ·rintro ⟨f,v,S',h,q⟩
  obtain ⟨⟨g,l1,S1⟩,h1,h⟩:=bnd h
  refine ⟨g,l1,S1,h1,?_⟩
  cases g with
  | nx=>exact ⟨f,v,S',h,q⟩
  | _=>cases h;exact q
 ·rintro ⟨g,l1,S1,h1,h⟩
  cases g with
  | nx=>obtain ⟨f,v,S',h,q⟩:=h;exact ⟨f,v,S',by unfold zah;rw [h1];exact h,q⟩
  | bk=>exact ⟨_,_,_,by unfold zah;rw [h1];rfl,h⟩
  | ct=>exact ⟨_,_,_,by unfold zah;rw [h1];rfl,h⟩
  | rt d=>exact ⟨_,_,_,by unfold zah;rw [h1];rfl,h⟩
theorem zb0 (R:Lo->Sto->Prop) (h1:Ws m l S λf l1 S1=>f=.nx/\R l1 S1) (h2:∀l1 S1,R l1 S1->Ws n l1 S1 QS):Ws (zah m n) l S QS:=by
 rw [zb6]
 obtain ⟨f,l1,S1,e,rfl,r⟩:=h1
 exact ⟨_,_,_,e,h2 l1 S1 r⟩
theorem zbw:Ws (sIf t m n) l S QS=Wt t l S λk S1=>if k=true then Ws m l S1 QS else Ws n l S1 QS:=by
 apply propext
 constructor
 ·rintro ⟨f,v,S',h,q⟩
  obtain ⟨⟨x,S1⟩,h1,h⟩:=bnd h
  refine ⟨x,S1,h1,?_⟩
  cases x with
  | true=>exact ⟨f,v,S',h,q⟩
  | false=>exact ⟨f,v,S',h,q⟩
 ·rintro ⟨x,S1,h1,h⟩
  cases x with
  | true=>obtain ⟨f,v,S',h,q⟩:=h;exact ⟨f,v,S',by unfold sIf;rw [h1];exact h,q⟩
  | false=>obtain ⟨f,v,S',h,q⟩:=h;exact ⟨f,v,S',by unfold sIf;rw [h1];exact h,q⟩
theorem zcn:Ws (zdq a) l S QS=We a l S λ_ S1=>QS .nx l S1:=by
 apply propext
 constructor
 ·rintro ⟨f,v,S',h,q⟩
  obtain ⟨⟨x,S1⟩,h1,h⟩:=bnd h
  cases h
  exact ⟨x,_,h1,q⟩
 ·rintro ⟨x,S1,h1,q⟩
  exact ⟨_,_,_,by unfold zdq;rw [h1];rfl,q⟩
theorem zb1:Ws (sRet a) l S QS=We a l S λx S1=>QS (.rt x) l S1:=by
 apply propext
 constructor
 ·rintro ⟨f,v,S',h,q⟩
  obtain ⟨⟨x,S1⟩,h1,h⟩:=bnd h
  cases h
  exact ⟨x,_,h1,q⟩
 ·rintro ⟨x,S1,h1,q⟩
  exact ⟨_,_,_,by unfold sRet;rw [h1];rfl,q⟩
theorem zbn {g:GM}:Ws (zak a g) l S QS=We a l S λx S1=>Wg (g x l S1) λl2 S2=>QS .nx l2 S2:=by
 apply propext
 constructor
 ·rintro ⟨f,v,S',h,q⟩
  obtain ⟨⟨x,S1⟩,h1,h⟩:=bnd h
  obtain ⟨⟨l2,S2⟩,h2,h⟩:=bnd h
  cases h
  exact ⟨x,S1,h1,_,_,h2,q⟩
 ·rintro ⟨x,S1,h1,l2,S2,h2,q⟩
  refine ⟨_,_,_,?_,q⟩
  unfold zak;rw [h1];show (g x l S1).bind _=_;rw [h2];rfl
theorem za6 {i:Nat}{d:D}:Wg (gName3 i d l S) QG=QG (l.set i (some d)) S:=by
 apply propext
 exact ⟨λhx7_=>by obtain ⟨v,S',h,q⟩:=hx7_;cases h;exact q,λq=>⟨_,_,rfl,q⟩⟩
theorem zc1 {k:Nat}{gs:GsM}{xs:List D}:Wg (zk3 k gs (.tup xs) l S) QG=(xs.length=k/\Wg (gs xs l S) QG):=by
 apply propext
 constructor
 ·rintro ⟨v,S',h,q⟩
  have h:(if xs.length=k then gs xs l S else none)=some (v,S'):=h
  by_cases hl:xs.length=k
  ·rw [if_pos hl] at h;exact ⟨hl,v,S',h,q⟩
  ·rw [if_neg hl] at h;cases h
 ·rintro ⟨hl,v,S',h,q⟩
  exact ⟨v,S',by show (if xs.length=k then gs xs l S else none)=_;rw [if_pos hl];exact h,q⟩
theorem zc2:Wg (zk2 [] l S) QG=QG l S:=by
 apply propext
 exact ⟨λhx8_=>by obtain ⟨v,S',h,q⟩:=hx8_;cases h;exact q,λq=>⟨_,_,rfl,q⟩⟩
theorem zc3 {g:GM}{gs:GsM}{x:D}{xs:List D}:Wg (ziz g gs (x :: xs) l S) QG=Wg (g x l S) λl1 S1=>Wg (gs xs l1 S1) QG:=by
 apply propext
 constructor
 ·rintro ⟨v,S',h,q⟩
  obtain ⟨⟨l1,S1⟩,h1,h⟩:=bnd h
  exact ⟨l1,S1,h1,v,S',h,q⟩
 ·rintro ⟨l1,S1,h1,v,S',h,q⟩
  exact ⟨v,S',by show (g x l S).bind _=_;rw [h1];exact h,q⟩
theorem zdd {o i:EM}{v:D}:Wg (zh4 o i v l S) QG=We o l S λx S1=>We i l S1 λy S2=>∃S',zf6 x y v S2=some S'/\QG l S':=by
 apply propext
 constructor
 ·rintro ⟨l',S',h,q⟩
  obtain ⟨⟨x,S1⟩,h1,h⟩:=bnd h
  obtain ⟨⟨y,S2⟩,h2,h⟩:=bnd h
  obtain ⟨S3,h3,h⟩:=bnd h
  cases h
  exact ⟨x,S1,h1,y,S2,h2,_,h3,q⟩
 ·rintro ⟨x,S1,h1,y,S2,h2,S3,h3,q⟩
  refine ⟨l,S3,?_,q⟩
  unfold zh4;rw [h1];show (i l S1).bind _=_;rw [h2];show (zf6 x y v S2).bind _=_;rw [h3];rfl
theorem zbs {d:D}:Wo (some (d,S)) Q=Q d S:=by
 apply propext
 exact ⟨λhx9_=>by obtain ⟨v,S',h,q⟩:=hx9_;cases h;exact q,λq=>⟨_,_,rfl,q⟩⟩
theorem zh5 {α:Type}{o:Option α}{f:α->Option (D × Sto)}:Wo (o.bind f) Q = ∃x,o=some x/\Wo (f x) Q:=by
 cases o with
 | none=>simp [Wo]
 | some x=>simp [Wo]
theorem zgs {p:Prop} [Decidable p] {x:D × Sto}:Wo (if p then some x else none) Q=(p/\Q x.1 x.2):=by
 obtain ⟨a,b⟩:=x
 by_cases hp:p
 ·rw [if_pos hp]
  apply propext
  exact ⟨λhx10_=>by obtain ⟨v,S',h,q⟩:=hx10_;cases h;exact ⟨hp,q⟩,λq=>⟨a,b,rfl,q.2⟩⟩
 ·simp [hp,Wo]
theorem zck {g:Int->Int->D}{i j:Int}:Wo (oI0 g (.int i) (.int j) S) Q=Q (g i j) S:=zbs
theorem zde {C:Int->Int->Bool}{g:Int->Int->D}{i j:Int}:Wo (oI C g (.int i) (.int j) S) Q=(C i j=true/\Q (g i j) S):=zgs
theorem zdf {k:Nat}{i:Int}:Wo (dIx (.ref k) (.int i) S) Q = ∃xs,lstOf S k=some xs/\∃v,L2.atI xs i=some v/\Q v S:=by
 show Wo ((lstOf S k).bind λxs=>(L2.atI xs i).bind λv=>some (v,S)) Q=_
 rw [zh5];simp only [zh5,zbs]
theorem zdg {xs:List D}:Wo (zjs [.tup xs] S) Q=Q (.int xs.length) S:=zbs
theorem zdh {k:Nat}:Wo (zjs [.ref k] S) Q = ∃xs,lstOf S k=some xs/\Q (.int xs.length) S:=by
 show Wo ((lstOf S k).bind λxs=>some (.int xs.length,S)) Q=_
 rw [zh5];simp only [zbs]
theorem zcp {xs:List D}:Wo (zbl xs S) Q=(xs.length<=sizeLine/\Q (.tup xs) S):=zgs
theorem zb7 {xs:List D}:Wo (za3 xs S) Q=(xs.length<=sizeLine/\Q (.ref S.length) (S++[.lst xs])):=zgs
theorem zcu {k:Nat}:Wo (zc9 [.ref k] S) Q = ∃xs,lstOf S k=some xs/\Q (.tup xs) S:=by
 show Wo ((lstOf S k).bind λxs=>some (.tup xs,S)) Q=_
 rw [zh5];simp only [zbs]
theorem zc4 {i j:Int}:Wo (dEq (.int i) (.int j) S) Q=Q (.bl (decide (i=j))) S:=zbs
theorem zc5 {i j:Str}:Wo (dNe (.str i) (.str j) S) Q=Q (.bl (!decide (i=j))) S:=zbs
theorem zdt {x:D}:Wo (dIs x .non S) Q=Q (.bl (zf5 x)) S:=by
 cases x <;> exact zbs
theorem zdu {x:D}:Wo (zjr x .non S) Q=Q (.bl (!zf5 x)) S:=by
 cases x <;> exact zbs
theorem zjz {k:Nat}{x:D}:Wo (ze6 (.ref k) [x] S) Q = ∃xs,S[k]? = some (.lst xs)/\xs.length<sizeLine/\Q .non (S.set k (.lst (xs++[x]))):=by
 show Wo (match S[k]? with|some (.lst xs)=>if xs.length<sizeLine then some (.non,S.set k (.lst (xs++[x]))) else none|_=>none) Q=_
 cases e:S[k]? with
 | none=>simp [Wo]
 | some o =>
  cases o with
  | lst xs=>simp [zgs]
  | flst xs=>simp [Wo]
  | iset f n=>simp [Wo]
  | dct kvs=>simp [Wo]
  | fdct kvs=>simp [Wo]
  | ftdct kvs=>simp [Wo]
  | tset ks=>simp [Wo]
  | fnc x=>simp [Wo]
  | tdct kvs=>simp [Wo]
  | exc c=>simp [Wo]
theorem zbx {k:Nat}{b:SM}{ds:List D}:Wo (zbm k b ds S) Q=Ws b (ds.map some++List.replicate (k-ds.length) none) S λf _ S1=>match f with | .rt d=>Q d S1 | .nx=>Q .non S1|_=>False:=by
 apply propext
 constructor
 ·rintro ⟨v,S',h,q⟩
  obtain ⟨⟨f,l1,S1⟩,h1,h⟩:=bnd h
  refine ⟨f,l1,S1,h1,?_⟩
  cases f with
  | rt d=>cases h;exact q
  | nx=>cases h;exact q
  | bk=>cases h
  | ct=>cases h
 ·rintro ⟨f,l1,S1,h1,q⟩
  cases f with
  | rt d=>exact ⟨_,_,by unfold zbm;rw [h1];rfl,q⟩
  | nx=>exact ⟨_,_,by unfold zbm;rw [h1];rfl,q⟩
  | bk=>cases q
  | ct=>cases q
end
theorem Wo.mono {o:Option (D × Sto)}{Q Q':D->Sto->Prop}(h:Wo o Q) (i:∀v S,Q v S->Q' v S):Wo o Q':=let ⟨v,S,e,q⟩:=h;⟨v,S,e,i v S q⟩
theorem Wr.mono {o:Option (Fl × Lo × Sto)}{Q Q':Fl->Lo->Sto->Prop}(h:Wr o Q) (i:∀f v S,Q f v S->Q' f v S):Wr o Q':=let ⟨f,v,S,e,q⟩:=h;⟨f,v,S,e,i f v S q⟩
section
variable {g:GM}{b:SM}{l:Lo}{S:Sto}{QS:Fl->Lo->Sto->Prop}
theorem yao {as:AM}:Ws (zfi (zdb as) g b) l S QS=Wa as l S λxs S1=>∃j,xs=[.int j]/\(-(2 ^ 62)<=j/\j<2 ^ 62)/\Wr (zfr g b (zda 0 j.toNat) l S1) QS:=by
 apply propext
 constructor
 ·rintro ⟨f,v,S',h,q⟩
  obtain ⟨⟨⟨lo,n⟩,S1⟩,h1,h⟩:=bnd h
  obtain ⟨⟨xs,S2⟩,h2,h1⟩:=bnd h1
  dsimp only at h1
  split at h1
  ·rename_i j
   obtain ⟨hz,e⟩:=zb3 h1
   cases e
   exact ⟨_,_,h2,j,rfl,hz,f,v,S',h,q⟩
  ·cases h1
 ·rintro ⟨xs,S1,h1,j,rfl,hz,f,v,S',h,q⟩
  refine ⟨f,v,S',?_,q⟩
  have:zdb as l S=some ((0,j.toNat),S1):=by
   unfold zdb;rw [h1];show (if _ then _ else _)=_;rw [if_pos hz]
  unfold zfi;show (zdb as l S).bind _=_;rw [this];exact h
theorem zqx {e:EM}:Ws (zfh e g b) l S QS=We e l S λx S1=>Wr (match x with | .tup xs=>zfr g b xs l S1 | .ref n=>(lstOf S1 n).bind λxs=>zfs g b n (xs.length+1) 0 l S1|_=>none) QS:=by
 apply propext
 constructor
 ·rintro ⟨f,v,S',h,q⟩
  obtain ⟨⟨x,S1⟩,h1,h⟩:=bnd h
  exact ⟨x,S1,h1,f,v,S',h,q⟩
 ·rintro ⟨x,S1,h1,f,v,S',h,q⟩
  exact ⟨f,v,S',by unfold zfh;rw [h1];exact h,q⟩
theorem yap {lo:Int}{n i:Nat}{x:D}(h:(zda lo n)[i]? = some x):i<n/\x=.int (lo+i):=by
 have hl:=(qme h).1
 simp only [zda,qlm,List.length_range] at hl
 unfold zda at h
 rw [qgm,List.getElem?_range hl] at h
 exact ⟨hl,(qoi h).symm⟩
theorem zhh (lo:Int) (n:Nat):(zda lo n).length=n:=by simp [zda]
end
mutual
noncomputable def zap (S:Sto):Nat->D->Option PyData
 | 0,_=>none
 | _+1,.non=>some .none
 | _+1,.bl b=>some (.bool b)
 | _+1,.int i=>if i.natAbs.log2<1920 then some (.int i) else none
 | _+1,.str x=>some (.str x)
 | k+1,.tup xs=>(pyAll S k xs).bind λds=>some (.tuple ds)
 | k+1,.ref n=>(lstOf S n).bind λxs=>(pyAll S k xs).bind λds=>some (.list ds)
 | _+1,.fn _=>none
termination_by k=>(k,0)
noncomputable def pyAll (S:Sto):Nat->List D->Option (List PyData)
 | _,[]=>some []
 | k,x :: xs=>(zap S k x).bind λd=>(pyAll S k xs).bind λds=>some (d :: ds)
termination_by k xs=>(k,xs.length+1)
end
noncomputable def zec:FM
 | [x],S=>(zap S 140 x).bind λd=>if d.shown.length<=sizeLine then some (.str d.shown,S) else none
 | _,_=>none
section
variable {X:Cx}{pins:List (Addr × Obj)}{σ:St}{H:Hp}{s:Shared}{ρ:List Addr}{S:Sto}
theorem zm4 (I:Inv X pins σ H s) (sim:Sim X.K ρ S H) {k:Nat}(ih:∀(d:D) (v:V) (u:Value) (p:PyData),RD ρ H d v->RelV v u->zap S k d=some p->(∃as,Reads s.heap u p as)/\p.showable=true/\p.hasDict=false/\p.depth<=k):∀(xs:List D) (vs:List V) (us:List Value) (ds:List PyData),RDs ρ H xs vs->Vals vs us->pyAll S k xs=some ds->(∃as,ReadsAll s.heap us ds as)/\PyData.showableAll ds=true/\PyData.hasDictAll ds=false/\PyData.depthAll ds<=k:=by
 intro xs
 induction xs with
 | nil =>
  intro vs us ds r e h
  unfold pyAll at h;cases h;cases r;cases e
  exact ⟨⟨_,.nil⟩,rfl,rfl,Nat.zero_le _⟩
 | cons x xs ihx =>
  intro vs us ds r e h
  unfold pyAll at h
  obtain ⟨d,h1,h⟩:=bnd h
  obtain ⟨ds',h2,h⟩:=bnd h
  cases h
  cases r with
  | cons r1 r2 =>
   cases e with
   | cons e1 e2 =>
    obtain ⟨⟨as,q1⟩,q2,q3,q4⟩:=ih x _ _ d r1 e1 h1
    obtain ⟨⟨bs,p1⟩,p2,p3,p4⟩:=ihx _ _ ds' r2 e2 h2
    refine ⟨⟨_,.cons q1 p1⟩,?_,?_,?_⟩
    ·unfold PyData.showableAll;rw [q2,p2];rfl
    ·unfold PyData.hasDictAll;rw [q3,p3];rfl
    ·unfold PyData.depthAll;omega
theorem zh6 (I:Inv X pins σ H s) (sim:Sim X.K ρ S H):∀(k:Nat) (d:D) (v:V) (u:Value) (p:PyData),RD ρ H d v->RelV v u->zap S k d=some p->(∃as,Reads s.heap u p as)/\p.showable=true/\p.hasDict=false/\p.depth<=k:=by
 intro k
 induction k with
 | zero=>intro d v u p _ _ h;unfold zap at h;cases h
 | succ k ih =>
  intro d v u p r e h
  cases d with
  | non  =>
   unfold zap at h;cases h;cases r;cases e
   exact ⟨⟨_,.none⟩,rfl,rfl,Nat.zero_le _⟩
  | bl b =>
   unfold zap at h;cases h;cases r;cases e
   exact ⟨⟨_,.bool b⟩,rfl,rfl,Nat.zero_le _⟩
  | int i =>
   unfold zap at h
   obtain ⟨hz,e2⟩:=zb3 h
   cases e2;cases r
   obtain ⟨t,rfl⟩:=e
   exact ⟨⟨_,.int i t⟩,by unfold PyData.showable;exact decide_eq_true hz,rfl,Nat.zero_le _⟩
  | str x =>
   unfold zap at h;cases h;cases r
   obtain ⟨t,rfl⟩:=e
   exact ⟨⟨_,.str x t⟩,rfl,rfl,Nat.zero_le _⟩
  | fn _=>unfold zap at h;cases h
  | tup xs =>
   unfold zap at h
   obtain ⟨ds,h1,h⟩:=bnd h
   cases h
   cases r with
   | tup ha r =>
    cases e
    obtain ⟨its,rv,⟨o,ho,hc,n,hd⟩,hz⟩:=I.tuple (SqT.of ha)
    obtain ⟨⟨as,h2⟩,h3,h4,h5⟩:=zm4 I sim ih xs _ _ ds r rv h1
    refine ⟨⟨as,.tuple ho hc hd (by simpa using h2)⟩,?_,?_,?_⟩
    ·unfold PyData.showable;exact h3
    ·unfold PyData.hasDict;exact h4
    ·unfold PyData.depth;omega
  | ref n =>
   unfold zap at h
   obtain ⟨xs,h0,h⟩:=bnd h
   obtain ⟨ds,h1,h⟩:=bnd h
   cases h
   obtain ⟨a,vs,ha,sq,rd⟩:=sim.lstOf h0
   cases r with
   | ref hn =>
    rw [ha] at hn;cases hn
    cases e
    obtain ⟨its,rv,pl,hz⟩:=I.list sq
    obtain ⟨o,ho,hc,m,hd⟩:=pl.isList
    obtain ⟨⟨as,h2⟩,h3,h4,h5⟩:=zm4 I sim ih xs _ _ ds rd rv h1
    refine ⟨⟨_,.list ho hc hd (by simpa using h2)⟩,?_,?_,?_⟩
    ·unfold PyData.showable;exact h3
    ·unfold PyData.hasDict;exact h4
    ·unfold PyData.depth;omega
theorem yaq (I:Inv X pins σ H s) (sim:Sim X.K ρ S H):∀(k:Nat) (xs:List D) (vs:List V) (us:List Value) (ds:List PyData),RDs ρ H xs vs->Vals vs us->pyAll S k xs=some ds->(∃as,ReadsAll s.heap us ds as)/\PyData.showableAll ds=true/\PyData.hasDictAll ds=false/\PyData.depthAll ds<=k
 | k=>zm4 I sim (zh6 I sim k)
end
section
variable {X:Cx}{a:Expr}{es:List Expr}{mA:AM}{pos p:Pos}
theorem yar {k:Nat}(hr:Room k X.A):CallR X (.builtin "repr") (λxs H Q=>∃v ρ S d pd,xs=[v]/\Sim X.K ρ S H/\RD ρ H d v/\zap S 140 d=some pd/\pd.shown.length<=sizeLine/\Q (.str pd.shown) H):=by
 intro pins s σ H xs us Q I r h
 obtain ⟨v,ρ,S,d,pd,rfl,sim,rd,hp,hz,q⟩:=h
 obtain ⟨u,rfl,ru⟩:=zgk r
 have key:=zh6 I sim 140 d v u pd rd ru hp
 have byRef:∀a,u=.ref a->wpAny (model X.prog X.w) X.A (call (.builtin "repr") [u]) (EP X pins σ Q) X.xe s:=λb hb=>by
  subst hb
  obtain ⟨⟨as,h1⟩,h2,h3,h4⟩:=key
  have hu:X.A.units+(pd.depth+1)<cLine:=by have:=hr.un;omega
  refine repr_of_reads' h1 h2 (λz=>by rw [h3] at z;cases z) hr.gd hu (λ_ _ e=>e) (λh' u tk hk=>?_) hz
  exact ⟨.str pd.shown,H,I.kept hk,⟨u,rfl⟩,q⟩
 have hp':=hp
 cases rd with
 | non=>cases ru;unfold zap at hp';cases hp';exact P.repr_of_none ⟨.str _,H,I.tok _,⟨_,rfl⟩,q⟩
 | bl b=>cases ru;unfold zap at hp';cases hp';exact P.repr_of_bool ⟨.str _,H,I.tok _,⟨_,by cases b <;> rfl⟩,q⟩
 | int i =>
  obtain ⟨t,rfl⟩:=ru
  unfold zap at hp'
  obtain ⟨hi,e⟩:=zb3 hp'
  cases e
  exact P.repr_of_int hi ⟨.str _,H,I.tok _,⟨_,rfl⟩,q⟩
 | str x=>obtain ⟨t,rfl⟩:=ru;unfold zap at hp';cases hp';exact P.repr_of_str ⟨.str _,H,I.tok _,⟨_,rfl⟩,q⟩ hz
 | tup ha r=>exact byRef _ ru
 | ref hn=>exact byRef _ ru
 | fn b=>unfold zap at hp';cases hp'
theorem yas {K:QFg}:Fn3 K zec (λxs H Q=>∃v ρ S d pd,xs=[v]/\Sim K ρ S H/\RD ρ H d v/\zap S 140 d=some pd/\pd.shown.length<=sizeLine/\Q (.str pd.shown) H):=by
 intro ρ S H xs vs v S' Q sim r h p
 unfold zec at h
 split at h
 ·obtain ⟨pd,h1,h⟩:=bnd h
  obtain ⟨hz,e⟩:=zb3 h
  cases e
  obtain ⟨w,rfl,rw'⟩:=r.one
  exact ⟨w,ρ,_,_,pd,rfl,sim,rw',h1,hz,p ρ H _ (Ext.refl ..) sim (.str _)⟩
 ·cases h
theorem yat:bootBuiltins "repr" = some (.builtin "repr"):=by decide +kernel
theorem zhi {k:Nat}(hr:Room k X.A) (hg:Gl X "repr") (hm:X.mg "repr" = none) (ha:PA3 X (a :: es) mA) (he:starEach (a :: es) X.env=(false,eval a X.env) :: starEach es X.env:=by rfl) (hpl:(backTo pos (starEach es X.env)).any (·.1)=false:=by rfl):PE3 X (.Call (.Name "repr" p) (a :: es) [] pos) (zac zec mA) :=
 zjn (yar hr) yas hg hm yat ha (by decide) (by decide) he hpl
end
theorem yau:fillsNumberSlot (.type "tuple") "mul" = pure false :=
 PySem.fillsNumberSlot_seq (id:="tuple.__mul__") (r:=some (.builtin "tuple.__rmul__")) PySem.F.slot_tuple_mul.lookup (by decide +kernel) PySem.F.slot_tuple_rmul.lookup (by decide +kernel)
theorem yav:seqRepeat? (.type "tuple")=pure (some (.builtin "tuple.__mul__")):=by
 unfold seqRepeat?
 rw [PySem.seqSlot_of (T:="tuple") (name:="__mul__") (id:="tuple.__mul__") PySem.F.slot_tuple_mul.lookup (by decide +kernel),PySem.seqSlot_of (T:="tuple") (name:="__rmul__") (id:="tuple.__rmul__") PySem.F.slot_tuple_rmul.lookup (by decide +kernel)]
 rfl
open PySem.AutoSeq1 (wpAny_loadPart')
theorem yaw (a:Int) (t:Tok) (l:Addr) (items:Array Value) (n:Nat) (dd:Option Addr) (sl:Array (Option Value)) :
  Meets (Builtin.«int.__rmul__» ⟨[.int a t,.ref l],[]⟩) (λ_ R s=>s.heap.get? l=some { cls:=.type "tuple",dict:=dd,data:=.seq items n,slots:=sl }/\R (.ok (.ret Value.notImplemented)) s) :=
 .of_wp λprog w A R s h=>by obtain ⟨hp,g,d,tk,os⟩:=s;obtain ⟨hl,h⟩:=h;wp_walk;exact ⟨_,rfl,h⟩
section
variable {prog:Program}{w:World}{A:Around}{E:Value->Shared->Prop}{s:Shared}
theorem yax {t:Addr}{items:Array Value}{k:Int}{u:Tok}{Q:Value->Shared->Prop}(ht:IsTup s.heap t items) (k0:2<=k) (k1:k<2 ^ 31) (hi:items.isEmpty=false) (hz:items.size*k.toNat<=sizeLine)
  (h:Q (.ref s.heap.objs.size) { s with heap:=s.heap.push { cls:=.type "tuple",data:=.seq ((List.replicate k.toNat items).foldl (·++·) #[]) } }) (h6:((List.replicate k.toNat items).foldl (·++·) #[]).size<=sizeLine) :
  wpAny (model prog w) A (call (.builtin "tuple.__mul__") [.ref t,.int k u]) Q E s:=by
 refine wpAny_call_entry PySem.F.slot_tuple_mul ht.typeIs PySem.F.entry_tuple_mul ?_ (PySem.F.args_tuple_mul_2 _ _)
 show wpAny _ _ (asIndex (.int k u) >>= _) _ _ s
 refine qwb ?_
 show wpAny _ _ (pure k) _ _ s
 refine qwp ?_
 have e1:(decide (k < -(2 ^ 63)) || decide (k ≥ 2 ^ 63))=false:=by
  rw [Bool.or_eq_false_iff];exact ⟨decide_eq_false (by omega),decide_eq_false (by omega)⟩
 have e2:(items.isEmpty || k == 1)=false:=by rw [hi,Bool.false_or];exact beq_false_of_ne (by omega)
 have e3:(decide (k<=0) || items.isEmpty)=false:=by rw [hi,Bool.or_false];exact decide_eq_false (by omega)
 show wpAny _ _ (if (decide (k < -(2 ^ 63)) || decide (k ≥ 2 ^ 63))=true then _ else _) _ _ s
 rw [if_neg (by rw [e1];exact Bool.false_ne_true)]
 refine qwb (tupleItemsOf_ ht ?_)
 show wpAny _ _ (if (items.isEmpty || k == 1)=true then _ else _) _ _ s
 rw [if_neg (by rw [e2];exact Bool.false_ne_true)]
 show wpAny _ _ (if (decide (k<=0) || items.isEmpty)=true then _ else _) _ _ s
 rw [if_neg (by rw [e3];exact Bool.false_ne_true)]
 have hk:(items.size:Int)*k=((items.size*k.toNat:Nat):Int):=by rw [Int.natCast_mul,Int.toNat_of_nonneg (by omega)]
 have hs:(sizeLine:Nat)=16777216:=by decide
 show wpAny _ _ (if (items.size:Int)*k > (2 ^ 63-1) / 8 then _ else _) _ _ s
 rw [if_neg (by rw [hk];omega)]
 show wpAny _ _ (if Builtin.Tuple.tupleTooMany ((items.size:Int)*k)=true then _ else _) _ _ s
 rw [if_neg (by unfold Builtin.Tuple.tupleTooMany;rw [hk];simp only [decide_eq_true_eq];omega)]
 first
  | exact qwb (m:=Builtin.Tuple.tupleExact _) (wpAny_newObj_type (qwp ⟨_,rfl,h⟩) h6)
  | exact qwb (m:=Builtin.Tuple.tupleExact _) (wpAny_newObj_type (qwp ⟨_,rfl,qwp h⟩) h6)
theorem yay {t:Addr}{items:Array Value}{u:Tok}{Q:Value->Shared->Prop}(ht:IsTup s.heap t items) (h:Q (.ref t) s) :
  wpAny (model prog w) A (call (.builtin "tuple.__mul__") [.ref t,.int 1 u]) Q E s:=by
 refine wpAny_call_entry PySem.F.slot_tuple_mul ht.typeIs PySem.F.entry_tuple_mul ?_ (PySem.F.args_tuple_mul_2 _ _)
 show wpAny _ _ (asIndex (.int 1 u) >>= _) _ _ s
 refine qwb ?_
 show wpAny _ _ (pure (1:Int)) _ _ s
 refine qwp ?_
 show wpAny _ _ (if (decide ((1:Int) < -(2 ^ 63)) || decide ((1:Int) ≥ 2 ^ 63))=true then _ else _) _ _ s
 rw [if_neg (by decide)]
 refine qwb (tupleItemsOf_ ht ?_)
 show wpAny _ _ (if (items.isEmpty || (1:Int) == 1)=true then _ else _) _ _ s
 rw [if_pos (by simp)]
 unfold Builtin.Tuple.tupleIsExact
 refine qwb (qwb (wpAny_typeOf ht.typeIs (qwp ?_)))
 rw [if_pos (by decide)]
 exact qwb (wpAny_rule (qwp ⟨_,rfl,h⟩))
theorem yaz {t:Addr}{items:Array Value}{k:Int}{u:Tok}{Q:Value->Shared->Prop}(ht:IsTup s.heap t items) (k0:k=0) (hi:items.isEmpty=false)
  (h:Q (.ref s.heap.objs.size) { s with heap:=s.heap.push { cls:=.type "tuple",data:=.seq #[] } }) :
  wpAny (model prog w) A (call (.builtin "tuple.__mul__") [.ref t,.int k u]) Q E s:=by
 subst k0
 refine wpAny_call_entry PySem.F.slot_tuple_mul ht.typeIs PySem.F.entry_tuple_mul ?_ (PySem.F.args_tuple_mul_2 _ _)
 show wpAny _ _ (asIndex (.int 0 u) >>= _) _ _ s
 refine qwb ?_
 show wpAny _ _ (pure (0:Int)) _ _ s
 refine qwp ?_
 show wpAny _ _ (if (decide ((0:Int) < -(2 ^ 63)) || decide ((0:Int) ≥ 2 ^ 63))=true then _ else _) _ _ s
 rw [if_neg (by decide)]
 refine qwb (tupleItemsOf_ ht ?_)
 show wpAny _ _ (if (items.isEmpty || (0:Int) == 1)=true then _ else _) _ _ s
 rw [if_neg (by rw [hi];decide)]
 show wpAny _ _ (if (decide ((0:Int)<=0) || items.isEmpty)=true then _ else _) _ _ s
 rw [if_pos (by simp)]
 first
  | exact qwb (m:=Builtin.Tuple.tupleExact _) (wpAny_newObj_type (qwp ⟨_,rfl,h⟩) (Nat.zero_le _))
  | exact qwb (m:=Builtin.Tuple.tupleExact _) (wpAny_newObj_type (qwp ⟨_,rfl,h⟩) (by decide))
end
def zqy (K:QFg):R2:=λx y H Q=>∃a k xs,x=.ref a/\y=.int k/\SqT K H a xs/\xs≠[]/\0<=k/\k<2 ^ 31/\xs.length*k.toNat<=sizeLine /\
 (k=1->Q (.ref a) H)/\(k≠1->∀p,H p=none->Q (.ref p) (upd H p (.tup (List.replicate k.toNat xs).flatten)))
theorem ya0 {X:Cx}:OpR X (binaryOp .Mult) (zqy X.K):=by
 intro pins s σ H x y v u Q I rx ry h
 obtain ⟨a,k,xs,rfl,rfl,hx,hne,k0,k1,hz,q1,q2⟩:=h
 cases rx
 obtain ⟨t,rfl⟩:=ry
 obtain ⟨its,r,pt,_⟩:=I.tuple hx
 have hne':its≠[]:=λz=>hne (r.nil_iff.mp z)
 have hie:its.toArray.isEmpty=false:=by cases its with
  | nil=>exact absurd rfl hne'
  | cons _ _=>simp
 obtain ⟨⟨cls,dd,data,sl⟩,ho,hc,n,hd⟩:=id pt
 simp only at hc hd
 subst hc hd
 refine wpAny_binaryOp_repeat_ref (T:="tuple") (U:="int") (by decide) ⟨_,ho,rfl⟩ (λs'=>typeIs_int s' k t) yau PySem.F.fills_int_mul PySem.F.slot_int_rmul yav PySem.F.slot_int_index.lookup
  (call_meets PySem.F.slot_int_rmul (typeIs_int s k t) PySem.F.entry_int_rmul (PySem.F.args_int_rmul_2 _ _) (yaw k t a its.toArray n dd sl) ⟨ho,rfl,⟨_,ho,rfl⟩,?_⟩)
 have f0:∀m:Nat,List.foldl (λx1 x2=>x1++x2) #[] (List.replicate m its.toArray)=(List.replicate m its).flatten.toArray:=λm=>by
  have:=zmm its m []
  rw [List.nil_append] at this
  exact this
 have hl:xs.length=its.length:=r.length
 by_cases e1:k=1
 ·subst e1
  exact yay pt ⟨.ref a,H,I,rfl,q1 rfl⟩
 ·by_cases e0:k=0
  ·refine yaz pt e0 hie ?_
   have hv:Vals ([]:List V) ([]:List Value):=.nil
   refine ⟨.ref s.heap.objs.size,_,I.laid (t':=s.toks) (o:=.tup []) (λb ob q=>qps _ q) (qlr _) ?_,rfl,?_⟩
   ·exact ⟨Nat.zero_le _,[],.nil,IsTD.new _ _⟩
   ·have:=q2 e1 _ (I.hok.fresh (qlr _))
    subst e0
    exact this
  ·have hlen:(List.replicate k.toNat its).flatten.length=k.toNat*its.length:=zmn its k.toNat
   refine yax pt (by omega) k1 hie (by rw [List.size_toArray,<-hl];exact hz) ?_ ?_
   ·rw [f0]
    refine ⟨.ref s.heap.objs.size,_,I.laid (t':=s.toks) (o:=.tup (List.replicate k.toNat xs).flatten) (λb ob q=>qps _ q) (qlr _) ?_,rfl,q2 e1 _ (I.hok.fresh (qlr _))⟩
    exact ⟨by rw [zmn,Nat.mul_comm];exact hz,_,r.rep k.toNat,IsTD.new _ _⟩
   ·rw [f0,List.size_toArray,hlen,Nat.mul_comm,<-hl];exact hz
noncomputable def zg5:D->D->Sto->Option (D × Sto)
 | .int i,.int j,S=>if (-(2 ^ 64)<i/\i<2 ^ 64)\/(-(2 ^ 64)<j/\j<2 ^ 64) then some (.int (i*j),S) else none
 | .tup (x :: xs),.int k,S=>if 0<=k/\k<2 ^ 31/\(xs.length+1)*k.toNat<=sizeLine then some (.tup (List.replicate k.toNat (x :: xs)).flatten,S) else none
 | _,_,_=>none
theorem ya1 {K:QFg}:Op3 K zg5 (λx y H Q=>rI CMul (λi j=>.int (i*j)) x y H Q\/zqy K x y H Q):=by
 intro ρ S H x y x' y' v S' Q sim rx ry h p
 unfold zg5 at h
 split at h
 ·obtain ⟨hc,e⟩:=zb3 h
  cases e;cases rx;cases ry
  exact .inl ⟨_,_,rfl,rfl,hc,p ρ H _ (Ext.refl ..) sim (.int _)⟩
 ·rename_i x xs k
  obtain ⟨⟨k0,k1,hz⟩,e⟩:=zb3 h
  cases e;cases ry
  cases rx with
  | @tup _ a vs ha r =>
   have hl:=r.length
   refine .inr ⟨a,k,vs,rfl,rfl,SqT.of ha,?_,k0,k1,by rw [<-hl];exact hz,λe=>?_,λ_=>zjm sim (r.rep k.toNat) p⟩
   ·intro z;rw [z] at hl;cases hl
   ·subst e
    have e2:(List.replicate (1:Int).toNat (x :: xs)).flatten=x :: xs:=by simp
    rw [e2] at p
    exact p ρ H _ (Ext.refl ..) sim (.tup ha r)
 ·cases h
section
variable {X:Cx}{a b:Expr}{ma mb:EM}{pos:Pos}
theorem zj0 (ha:PE3 X a ma) (hb:PE3 X b mb):PE3 X (.BinOp a .Mult b pos) (eOp zg5 ma mb):=zhg (op_mul.or ya0) ya1 ha hb
end
section
variable {X:Cx}{c:Expr}{body:List Stmt}{mc:TM}{mb:SM}{pos:Pos}
end
section
variable {X:Cx}
variable {a b:Expr}{ma mb:EM}{pos:Pos}
end
noncomputable def zfj:D->D->Sto->Option (D × Sto):=λx y S=>(zap S 60 x).bind λp=>(zap S 60 y).bind λq=>if p.canLay0=true/\q.canLay0=true then some (.bl (p.eqv q),S) else none
noncomputable def zf8:D->D->Sto->Option (D × Sto):=λx y S=>(zap S 60 x).bind λp=>(zap S 60 y).bind λq=>if p.canLay0=true/\q.canLay0=true then some (.bl (!p.eqv q),S) else none
def zk9 (K:QFg) (neg:Bool):R2:=λx y H Q=>∃ρ S dx dy p q,Sim K ρ S H/\RD ρ H dx x/\RD ρ H dy y/\zap S 60 dx=some p/\zap S 60 dy=some q/\p.canLay0=true/\q.canLay0=true/\Q (.bl (if neg then !p.eqv q else p.eqv q)) H
section
variable {X:Cx}
theorem zqz {k:Nat}(hr:Room k X.A):OpR X (compareOp .Eq) (zk9 X.K false):=by
 intro pins s σ H x y v u Q I rx ry h
 obtain ⟨ρ,S,dx,dy,p,q,sim,r1,r2,h1,h2,c1,c2,hq⟩:=h
 obtain ⟨⟨as,k1⟩,_,_,k2⟩:=zh6 I sim 60 dx x v p r1 rx h1
 obtain ⟨⟨bs,k3⟩,_,_,k4⟩:=zh6 I sim 60 dy y u q r2 ry h2
 have hu:X.A.units+min p.depth q.depth<cLine:=by have:=hr.un;have:min p.depth q.depth<=p.depth:=Nat.min_le_left _ _;omega
 exact PySem.SeqAt.compareEq_reads k1 k3 c1 c2 hu ⟨.bl _,H,I,rfl,hq⟩
theorem ya2 {k:Nat}(hr:Room k X.A):OpR X (compareOp .NotEq) (zk9 X.K true):=by
 intro pins s σ H x y v u Q I rx ry h
 obtain ⟨ρ,S,dx,dy,p,q,sim,r1,r2,h1,h2,c1,c2,hq⟩:=h
 obtain ⟨⟨as,k1⟩,_,_,k2⟩:=zh6 I sim 60 dx x v p r1 rx h1
 obtain ⟨⟨bs,k3⟩,_,_,k4⟩:=zh6 I sim 60 dy y u q r2 ry h2
 have hu:X.A.units+min p.depth q.depth<cLine:=by have:=hr.un;have:min p.depth q.depth<=p.depth:=Nat.min_le_left _ _;omega
 exact PySem.SeqAt.compareNe_reads k1 k3 c1 c2 hu ⟨.bl _,H,I,rfl,hq⟩
theorem zq0 {K:QFg}:Op3 K zfj (zk9 K false):=by
 intro ρ S H x y x' y' v S' Q sim rx ry h p
 obtain ⟨d1,h1,h⟩:=bnd h
 obtain ⟨d2,h2,h⟩:=bnd h
 obtain ⟨hc,e⟩:=zb3 h
 cases e
 exact ⟨ρ,_,x,y,d1,d2,sim,rx,ry,h1,h2,hc.1,hc.2,p ρ H _ (Ext.refl ..) sim (.bl _)⟩
theorem ya3 {K:QFg}:Op3 K zf8 (zk9 K true):=by
 intro ρ S H x y x' y' v S' Q sim rx ry h p
 obtain ⟨d1,h1,h⟩:=bnd h
 obtain ⟨d2,h2,h⟩:=bnd h
 obtain ⟨hc,e⟩:=zb3 h
 cases e
 exact ⟨ρ,_,x,y,d1,d2,sim,rx,ry,h1,h2,hc.1,hc.2,p ρ H _ (Ext.refl ..) sim (.bl _)⟩
variable {a b:Expr}{ma mb:EM}{pos:Pos}{k:Nat}
theorem zq1 (hr:Room k X.A) (ha:PE3 X a ma) (hb:PE3 X b mb):PE3 X (.Compare a [.Eq] [b] pos) (eOp zfj ma mb):=zjk (zqz hr) zq0 ha hb (ze2 b)
theorem ya4 (hr:Room k X.A) (ha:PE3 X a ma) (hb:PE3 X b mb):PT3 X (.Compare a [.Eq] [b] pos) (tE (eOp zfj ma mb)):=zfq (zqz hr) zq0 ha hb (ze2 b)
theorem zla (hr:Room k X.A) (ha:PE3 X a ma) (hb:PE3 X b mb):PT3 X (.Compare a [.NotEq] [b] pos) (tE (eOp zf8 ma mb)):=zfq (ya2 hr) ya3 ha hb (ze2 b)
end
section
variable {X:Cx}
variable {a b:Expr}{ma mb:EM}{pos:Pos}
end
section
variable {X:Cx}
variable {o e:Expr}{mo m:EM}{apos cpos:Pos}
end
section
variable {prog:Program}{w:World}{A:Around}{E:Value->Shared->Prop}{s:Shared}
end
section
variable {X:Cx}
end
section
variable {X:Cx}{o e:Expr}{mo m:EM}{apos cpos:Pos}
end
section
variable {X:Cx}{o e:Expr}{mo m:EM}{apos cpos:Pos}
end
noncomputable def zf9:D->D->Sto->Option (D × Sto)
 | .ref n,.int k,S=>match S[n]? with
  | some (.lst xs)=>if -(2 ^ 63)<=k/\k<2 ^ 63/\xs.length*k.toNat<=sizeLine then some (.ref S.length,S++[.lst (List.replicate k.toNat xs).flatten]) else none
  | _=>none
 | _,_,_=>none
theorem ya5 {K:QFg}:Op3 K zf9 zp6:=by
 intro ρ S H x y x' y' v S' Q sim rx ry h p
 unfold zf9 at h
 split at h
 ·split at h
  ·rename_i n k S xs e
   obtain ⟨⟨h1,h2,h3⟩,e2⟩:=zb3 h
   cases e2
   cases ry
   obtain ⟨a,us,ha,hH,r2⟩:=sim.lst e
   cases rx with
   | ref hn =>
    rw [ha] at hn;cases hn
    exact ⟨a,k,us,rfl,rfl,hH,h1,h2,by rw [<-r2.length];exact h3,zh3 sim (r2.rep k.toNat) p⟩
  ·cases h
 ·cases h
theorem zq2 {X:Cx}{a b:Expr}{ma mb:EM}{pos:Pos}(ha:PE3 X a ma) (hb:PE3 X b mb):PE3 X (.BinOp a .Mult b pos) (eOp zf9 ma mb):=zhg zy3 ya5 ha hb
section
variable {X:Cx}
variable {a a2:Expr}{mA:AM}{p p0 pos pos':Pos}
end
noncomputable def isT:D->Bool
 | .bl b=>b
 | _=>false
noncomputable def zj1:D->Bool
 | .bl _=>true
 | _=>false
noncomputable def vT:V->Bool
 | .bl b=>b
 | _=>false
noncomputable def zlb:V->Bool
 | .bl _=>true
 | _=>false
noncomputable def zga:FM
 | [.ref n],S=>(lstOf S n).bind λxs=>if xs.all zj1=true then some (.bl (xs.all isT),S) else none
 | _,_=>none
theorem ya6 {ρ:List Addr}{H:Hp}{x:D}{x':V}(r:RD ρ H x x'):vT x' = isT x/\zlb x' = zj1 x:=by
 cases r <;> exact ⟨rfl,rfl⟩
theorem zq3 {ρ:List Addr}{H:Hp}:∀{xs:List D}{vs:List V},RDs ρ H xs vs->vs.all vT=xs.all isT/\vs.any vT=xs.any isT/\vs.all zlb=xs.all zj1
 | _,_,.nil=>⟨rfl,rfl,rfl⟩
 | _,_,.cons r q=>by
  obtain ⟨h1,h2⟩:=ya6 r
  obtain ⟨h3,h4,h5⟩:=zq3 q
  simp only [List.all_cons,List.any_cons,h1,h2,h3,h4,h5,and_self]
section
variable {X:Cx}
theorem ya7 {ys:List V}(tr:Nat->Bool) (h:∀(i:Nat) y,ys[i]? = some y->tr i=vT y):(List.range ys.length).all tr=ys.all vT/\(List.range ys.length).any tr=ys.any vT:=by
 have e:(List.range ys.length).map tr=ys.map vT:=by
  apply List.ext_getElem?
  intro i
  rw [qgm,qgm]
  by_cases hi:i<ys.length
  ·rw [List.getElem?_range hi,qge hi]
   simp [h i _ (qge hi)]
  ·rw [List.getElem?_eq_none_iff.mpr (by simpa using hi),List.getElem?_eq_none_iff.mpr (by simpa using hi)];rfl
 have a1:(List.range ys.length).all tr=((List.range ys.length).map tr).all id:=by rw [List.all_map];rfl
 have a2:ys.all vT=(ys.map vT).all id:=by rw [List.all_map];rfl
 have a3:(List.range ys.length).any tr=((List.range ys.length).map tr).any id:=by rw [List.any_map];rfl
 have a4:ys.any vT=(ys.map vT).any id:=by rw [List.any_map];rfl
 exact ⟨by rw [a1,a2,e],by rw [a3,a4,e]⟩
def zq4 (K:QFg) (f:List V->Bool):List V->Hp->VK->Prop:=λxs H Q=>∃p ys,xs=[.ref p]/\SqL K H p ys/\ys.all zlb=true/\Q (.bl (f ys)) H
theorem ya8 {pins:List (Addr × Obj)}{s:Shared}{σ:St}{H:Hp}{p:Addr}{ys:List V}{E:Value->Shared->Prop}{R:Bool->Bool->Shared->Prop}(hc:X.calm=true) (I:Inv X pins σ H s) (hq:SqL X.K H p ys) (hb:ys.all zlb=true)
  (h:∀s',Inv X pins σ H s'->R (ys.all vT) (ys.any vT) s') :
  wpAny (model X.prog X.w) X.A.in1 (pyIter (.ref p)) (λit s₂=>∃I fp wr n P St tr,it=.ref I/\Walks X.prog X.w X.A.in1 I fp wr n P St/\St 0 s₂.heap/\TruthOf X.prog X.w X.A.in1 P tr /\
   ∀h' tk,(∀b o,b ∉ wr->s₂.heap.get? b=some o->h'.get? b=some o)->R ((List.range n).all tr) ((List.range n).any tr) { s₂ with heap:=h',toks:=tk }) E s:=by
 obtain ⟨its,rv,pl,hz⟩:=I.list hq
 refine wpAny_pyIter_list pl.isList ?_
 have hne:p≠s.heap.objs.size:=by
  obtain ⟨o,ho,_⟩:=pl.isList
  exact Nat.ne_of_lt (Heap.lt_size ho)
 have I1:Inv X pins σ H { s with heap:=s.heap.push { cls:=.type "list_iterator",data:=.fields #[.ref p,rawInt 0] } }:=I.kept (t':=s.toks) λb o e=>qps _ e
 have fp:=I.fpOk (qlr s.heap.objs.size) I.fresh
 refine ⟨_,_,_,its.toArray.size,_,_,λi=>match its[i]? with|some (.bool b)=>b|_=>false,rfl,Walks.list (A:=X.A.in1) (I.ok.hd hc) s.heap.objs.size p hne its.toArray,?_,?_,?_⟩
 ·obtain ⟨o,ho,hc',n,hd⟩:=pl.isList
  exact ⟨⟨_,Heap.get?_push_size _ rfl,rfl,rfl⟩,⟨o,qps _ ho,hc',n,hd⟩⟩
 ·intro i v s' Q E' hP hQ
  have e1:its[i]? = some v:=by simpa using hP
  have hl:=rv.length
  have hi:i<ys.length:=by rw [hl];exact (qme e1).1
  obtain ⟨u,hu,ru⟩:=rv.get (qge hi)
  rw [e1] at hu;cases hu
  have hb2:=List.all_eq_true.mp hb _ (List.getElem_mem hi)
  dsimp only at hQ
  rw [e1] at hQ
  revert ru hb2
  generalize ys[i]=y
  intro ru hb2
  cases y with
  | bl b=>cases ru;exact wpAny_truthy_bool hQ
  | _=>exact absurd (show false=true from hb2) Bool.false_ne_true
 ·intro h' tk k
  have hs:its.toArray.size=ys.length:=by rw [List.size_toArray,rv.length]
  obtain ⟨a1,a2⟩:=ya7 (ys:=ys) (λi=>match its[i]? with|some (.bool b)=>b|_=>false) (λi y hy=>by
   obtain ⟨u,hu,ru⟩:=rv.get hy
   have hb2:=List.all_eq_true.mp hb _ (qmg hy)
   rw [hu]
   cases y with
   | bl b=>cases ru;rfl
   | _=>exact absurd (show false=true from hb2) Bool.false_ne_true)
  rw [hs,a1,a2]
  exact h _ (I1.turned (t':=tk) (λb o hb' e=>k b o (by simpa using hb') e) fp.1 fp.2.1 fp.2.2.2.1 fp.2.2.2.2.1 fp.2.2.2.2.2)
theorem ya9 (hc:X.calm=true):CallR X (.builtin "all") (zq4 X.K λys=>ys.all vT):=by
 intro pins s σ H xs us Q I r h
 obtain ⟨p,ys,rfl,hq,hb,q⟩:=h
 obtain ⟨u1,rfl,r1⟩:=r.one
 cases r1
 exact PySem.call_all_walk (ya8 (R:=λa _ s'=>EP X pins σ Q (.bool a) s') hc I hq hb λs' I'=>⟨.bl _,H,I',rfl,q⟩)
theorem yba {K:QFg}:Fn3 K zga (zq4 K λys=>ys.all vT):=by
 intro ρ S H xs vs v S' Q sim r h p
 unfold zga at h
 split at h
 ·obtain ⟨ys,h1,h⟩:=bnd h
  obtain ⟨hb,e⟩:=zb3 h
  cases e
  obtain ⟨w,rfl,rw'⟩:=r.one
  obtain ⟨a,us,ha,sq,r2⟩:=sim.lstOf h1
  obtain ⟨t1,t2,t3⟩:=zq3 r2
  cases rw' with
  | ref hn =>
   rw [ha] at hn;cases hn
   exact ⟨_,us,rfl,sq,by rw [t3];exact hb,by dsimp only;rw [t1];exact p ρ H _ (Ext.refl ..) sim (.bl _)⟩
 ·cases h
theorem ybb:bootBuiltins "all" = some (.builtin "all"):=by decide +kernel
variable {a:Expr}{es:List Expr}{mA:AM}{p pos:Pos}
theorem zm5 (hc:X.calm=true) (hg:Gl X "all") (hm:X.mg "all" = none) (ha:PA3 X (a :: es) mA) (he:starEach (a :: es) X.env=(false,eval a X.env) :: starEach es X.env:=by rfl) (hpl:(backTo pos (starEach es X.env)).any (·.1)=false:=by rfl):PE3 X (.Call (.Name "all" p) (a :: es) [] pos) (zac zga mA) :=
 zjn (ya9 hc) yba hg hm ybb ha (by decide) (by decide) he hpl
end
theorem ybc {X:Cx}{pins:List (Addr × Obj)}{σ:St}{H:Hp}{s:Shared}(I:Inv X pins σ H s):sysModules<s.heap.objs.size:=by
 have h:mainGlobals<s.heap.objs.size:=(I.mod.glob.keeps I.bk).lt
 exact Nat.lt_trans (by decide) h
section
variable {X:Cx}{pos:Pos}
theorem ybd:PE X (.Dict [] [] pos) (λ_ H Q=>∀p,H p=none->Q (.ref p) (upd H p (.dK []))):=λpins s σ H Q I h =>
 wpAny_Dict_empty ⟨.ref s.heap.objs.size,_,I.laid (a:=s.heap.objs.size) (o:=.dK []) (t':=s.toks) (λ_ _ q=>qps _ q) (qlr _)
  ⟨Nat.zero_le _,beq_eq_false_iff_ne.mpr (Ne.symm (Nat.ne_of_lt (ybc I))),[],.nil,Heap.DictOf.new s.heap⟩,rfl,h _ I.fresh⟩
noncomputable def zlc:EM:=λ_ S=>some (.ref S.length,S++[.dct []])
theorem ybe:PE3 X (.Dict [] [] pos) zlc:=PE.imp ybd λσ H Q hx1_=>by
 obtain ⟨ρ,l,S,v,S',sim,ro,hm,p⟩:=hx1_
 cases hm
 intro a ha
 exact p (ρ++[a]) _ _ (zqc ha) (sim.pushG ha ⟨[],zfe,.nil⟩) (.ref (by rw [<-sim.len];exact zd5 ρ a))
end
noncomputable def zer:D->D->Sto->Option (D × Sto)
 | .ref n,.ref m,S=>match S[n]?,S[m]? with
  | some (.lst xs),some (.lst [])=>some (.bl (!xs.isEmpty),S)
  | _,_=>none
 | _,_,_=>none
def zq5:R2:=λx y H Q=>∃a b xs,x=.ref a/\y=.ref b/\H a=some (.lst xs)/\H b=some (.lst [])/\Q (.bl (!xs.isEmpty)) H
section
variable {X:Cx}{a b:Expr}{ma mb:EM}{pos:Pos}{k:Nat}
theorem ybf (hr:Room k X.A):OpR X (compareOp .NotEq) zq5:=by
 intro pins s σ H x y v u Q I rx ry h
 obtain ⟨a,b,xs,rfl,rfl,ha,hb,q⟩:=h
 cases rx;cases ry
 obtain ⟨z,its,n,r,hl,e⟩:=I.lstM ha
 obtain ⟨z2,its2,n2,r2,hl2,e2⟩:=I.lstM hb
 cases r2
 have hu:X.A.units<cLine:=by have:=hr.un;omega
 have l1:s.heap.IsList a its.toArray:=⟨_,e,rfl,n,rfl⟩
 have l2:s.heap.IsList b ([]:List Value).toArray:=⟨_,e2,rfl,n2,rfl⟩
 cases xs with
 | nil =>
  cases r
  have:=SeqAt.RcNeAt.lists (A:=X.A) (e:=λ_=>true) l1 l2 rfl hu (λj h1 _=>by simp at h1)
  exact this X.prog X.w X.xe _ ⟨.bl _,H,I,rfl,q⟩
 | cons y ys =>
  cases r with
  | cons r1 r2 =>
   exact SeqAt.RcNeAt.lists_lengths (A:=X.A) l1 l2 (by simp) hu X.prog X.w X.xe _ ⟨.bl _,H,I,rfl,q⟩
theorem ybg {K:QFg}:Op3 K zer zq5:=by
 intro ρ S H x y x' y' v S' Q sim rx ry h p
 unfold zer at h
 split at h
 ·split at h
  ·rename_i n m S xs e1 e2
   cases h
   obtain ⟨a,us,ha,hH,r2⟩:=sim.lst e1
   obtain ⟨b,ws,hb,hH2,r3⟩:=sim.lst e2
   cases r3
   cases rx with
   | ref hn =>
    rw [ha] at hn;cases hn
    cases ry with
    | ref hm =>
     rw [hb] at hm;cases hm
     refine ⟨a,b,us,rfl,rfl,hH,hH2,?_⟩
     have:us.isEmpty=xs.isEmpty:=by cases r2 <;> rfl
     rw [this]
     exact p ρ H _ (Ext.refl ..) sim (.bl _)
  ·cases h
 ·cases h
theorem zld (hr:Room k X.A) (ha:PE3 X a ma) (hb:PE3 X b mb):PT3 X (.Compare a [.NotEq] [b] pos) (tE (eOp zer ma mb)):=zfq (ybf hr) ybg ha hb (ze2 b)
end
section
variable {X:Cx}{pins:List (Addr × Obj)}{σ:St}{H:Hp}{s:Shared}{ρ:List Addr}{S:Sto}
end
section
variable {X:Cx}{a:Expr}{es:List Expr}{mA:AM}{pos p:Pos}
end
section
variable {prog:Program}{w:World}{A:Around}{E:Value->Shared->Prop}{s:Shared}
end
section
variable {P:Program}{w:World}{K:QFg}{elts:List Expr}{z:Nat}{tp:Pos}
end
open AutoSeq1
section
variable {prog:Program}{w:World}{A:Around}{E:Value->Shared->Prop}{s:Shared}
end
section
variable {X:Cx}{elts:List Expr}{z:Nat}{tp:Pos}
end
noncomputable def zgb (it:ItM) (g:GM) (b:SM):Nat->Nat->SM
 | 0,_,_,_=>none
 | k+1,i,l,S=>(it i S).bind λo=>match o with
  | none=>some (.nx,l,S)
  | some x=>(g x l S).bind λp=>(b p.1 p.2).bind λq=>match q.1 with
   | .nx=>zgb it g b k (i+1) q.2.1 q.2.2
   | .ct=>zgb it g b k (i+1) q.2.1 q.2.2
   | .bk=>some (.nx,q.2)
   | .rt d=>some (.rt d,q.2)
noncomputable def zj2 (im:IM) (g:GM) (b:SM):SM:=λl S=>(im l S).bind λp=>zgb p.1 g b p.2.1 0 l p.2.2
def zq6 (K:QFg) (ρ:List Addr) (H:Hp) (it:ItM) (J:It):Prop:=∀(i:Nat) ρ' S' H',Ext ρ H ρ' H'->Sim K ρ' S' H' ->
 (it i S' = some none->J.stop i H')/\∀x,it i S' = some (some x)->J.go i H'/\∀y H'',J.yld i H' y H''->Ext ρ' H' ρ' H''/\Sim K ρ' S' H''/\RD ρ' H'' x y
section
variable {K:QFg}
theorem ybh {g:GM}{b:SM}{it:ItM}{J:It}{ρ:List Addr}{l:Lo}{S:Sto}{H:Hp}{σ:L2.St}{f:Fl}{l':Lo}{S':Sto}{E:Ends}{k:Nat}(ok:zq6 K ρ H it J)
  (sim:Sim K ρ S H) (ro:RO ρ H l σ) (hm:zgb it g b k 0 l S=some (f,l',S')) (p:∀ρ' H' σ',Ext ρ H ρ' H'->Sim K ρ' S' H'->RO ρ' H' l' σ'->zji ρ' H' E σ' f) :
  ∃W:Nat->Nat->L2.St->Hp->Prop,(∃m,W 0 m σ H)/\∀i m σ H,W i m σ H ->
   (J.stop i H/\E.nx σ H)\/(J.go i H/\∃N:L2.St->Hp->Prop,(∀σ' H',N σ' H'->∃m',m' < m/\W (i+1) m' σ' H')/\∀x H',J.yld i H x H'->tg K g x σ H' λσ2 H2=>ts K b { E with nx:=N,ct:=N,bk:=E.nx } σ2 H2):=by
 refine ⟨λi m σ1 H1=>∃ρ1 l1 S1,Ext ρ H ρ1 H1/\Sim K ρ1 S1 H1/\RO ρ1 H1 l1 σ1/\zgb it g b m i l1 S1=some (f,l',S'),⟨k,ρ,l,S,Ext.refl ..,sim,ro,hm⟩,?_⟩
 rintro i m σ1 H1 ⟨ρ1,l1,S1,e1,s1,ro1,hm1⟩
 cases m with
 | zero=>cases hm1
 | succ m =>
  unfold zgb at hm1
  obtain ⟨o,hi,hm1⟩:=bnd hm1
  obtain ⟨k1,k2⟩:=ok i ρ1 S1 H1 e1 s1
  cases o with
  | none=>cases hm1;exact .inl ⟨k1 hi,p ρ1 H1 σ1 e1 s1 ro1⟩
  | some x =>
   obtain ⟨k3,k4⟩:=k2 x hi
   refine .inr ⟨k3,_,λσ' H' h=>h,λy H2 hyl=>?_⟩
   obtain ⟨x2,s2,r2⟩:=k4 y H2 hyl
   refine zm0 (next:=zgb it g b m (i+1)) s2 (ro1.mono x2) r2 hm1 (λρ' H' σ' e'=>p ρ' H' σ' ((e1.trans x2).trans e')) λρ3 H3 σ3 l3 S3 e3 s3 ro3 hm3=>?_
   exact ⟨m,Nat.lt_succ_self m,ρ3,l3,S3,(e1.trans x2).trans e3,s3,ro3,hm3⟩
end
section
variable {X:Cx}{elts:List Expr}{z:Nat}{tp:Pos}{a:Expr}{mA:AM}{g:GM}{b:SM}{body:List Stmt}{p0 pos' pos:Pos}
end
theorem zq7 {α:Type}{c:Prop} [Decidable c] {a:Option α}{v:α}(h:(if c then a else none)=some v):c/\a=some v:=by
 by_cases hc:c
 ·rw [if_pos hc] at h;exact ⟨hc,h⟩
 ·rw [if_neg hc] at h;cases h
section
variable {prog:Program}{w:World}{A:Around}{E:Value->Shared->Prop}{s:Shared}
end
section
variable {X:Cx}{gs:GsM}{es:List Expr}{k n:Nat}{pos:Pos}
end
section
variable {X:Cx}{a:Expr}{ma:EM}{lo hi:Option Expr}{ml mh:OM}{p2 pos:Pos}
end
noncomputable def zq8 (scope:Scope) (N':List Str) (ixs:List (Option Nat)):Bool :=
 decide (scope.kind=.function) && (scope.names.all λy=>y.2 != .cell) && (scope.names.all λy=>y.2 != .free) && (scope.names.all λy=>y.2 != .local || scope.names.lookup y.1 == some .local) && (ixs.length == N'.length) && (ixs.all λi=>i == none)
theorem ybi {X:Cx}{scope:Scope}{N':List Str}{ixs:List (Option Nat)}(h:zq8 scope N' ixs=true):CompSc X N' scope (za8 ixs):=by
 unfold zq8 at h
 simp only [Bool.and_eq_true,decide_eq_true_eq,List.all_eq_true,beq_iff_eq,Bool.or_eq_true,bne_iff_ne,ne_eq] at h
 obtain ⟨⟨⟨⟨⟨h1,h2⟩,h3⟩,h4⟩,h5⟩,h6⟩:=h
 refine ⟨h1,h2,λy hy hl=>?_,λy hy hl=>absurd hl (h3 y hy),λy hy=>?_,λσ=>by simp [za8,h5],λσ i v x hv hx=>?_⟩
 ·rcases h4 y hy with z|z
  ·exact absurd hl z
  ·exact z
 ·exfalso
  have mem:∃k,(k=NameKind.cell\/k=NameKind.free)/\(y,k)∈(relabel scope X.env).names:=by
   rcases hy with z|z
   ·exact ⟨_,.inl rfl,PySem.mem_of_lookup z⟩
   ·exact ⟨_,.inr rfl,PySem.mem_of_lookup z⟩
  obtain ⟨k,hk,hm⟩:=mem
  unfold relabel at hm
  obtain ⟨⟨n,k'⟩,hm1,hm2⟩:=List.mem_map.mp hm
  dsimp only at hm2
  split at hm2
  ·rename_i hc
   rw [Bool.and_eq_true,Bool.and_eq_true] at hc
   exact h3 _ hm1 (eq_of_beq hc.1.1)
  ·cases hm2
   rcases hk with z|z
   ·exact h2 _ hm1 z
   ·exact h3 _ hm1 z
 ·exfalso
  unfold za8 at hv
  rw [qgm] at hv
  cases e:ixs[i]? with
  | none=>rw [e] at hv;cases hv
  | some o =>
   rw [e,h6 o (qmg e)] at hv
   cases hv
section
variable {X:Cx}{a b:Expr}{ma mb:EM}{mA:AM}{es:List Expr}{pos p:Pos}
end
noncomputable def zm6:D->D->Sto->Option (D × Sto)
 | .str z,.int i,S=>if z.length<=sizeLine then (atI z.cps.toList i).bind λc=>some (.str ⟨#[c]⟩,S) else none
 | _,_,_=>none
noncomputable def zav:D->D->Sto->Option (D × Sto):=λx y S=>match dIx x y S with|some v=>some v|none=>zm6 x y S
theorem ybj {K:QFg}:Op3 K zm6 zml:=by
 intro ρ S H x y x' y' v S' Q sim rx ry h p
 unfold zm6 at h
 split at h
 ·cases rx;cases ry
  split at h
  ·rename_i hz
   obtain ⟨c,h1,h⟩:=bnd h
   cases h
   exact ⟨_,_,c,rfl,rfl,hz,h1,p ρ H _ (Ext.refl ..) sim (.str _)⟩
  ·cases h
 ·cases h
theorem ybk {K:QFg}:Op3 K zav (rIx K):=by
 intro ρ S H x y x' y' v S' Q sim rx ry hm p
 unfold zav at hm
 cases e:dIx x y S with
 | some w=>rw [e] at hm;cases hm;exact zzl ρ S H x y x' y' _ _ Q sim rx ry e p
 | none=>rw [e] at hm;exact .inr (.inr (ybj ρ S H x y x' y' _ _ Q sim rx ry hm p))
noncomputable def zax:FM
 | [.str z],S=>if z.length<=sizeLine then some (.int z.length,S) else none
 | xs,S=>zjs xs S
noncomputable def zgt:FM
 | [.int i],S=>if i.natAbs.log2<1920 then some (.str (toString i),S) else none
 | [.str z],S=>none
 | _,_=>none
section
variable {X:Cx}{a b:Expr}{ma mb:EM}{mA:AM}{es:List Expr}{pos p:Pos}{K:QFg}
theorem zbr (ha:PE3 X a ma) (hb:PE3 X b mb) (hs:zpz b:=by intro _ _;rfl):PE3 X (.Subscript a b pos) (eOp zav ma mb):=PE.imp (zyp zyr ha hb hs) (zk0 ybk)
theorem ybl:Fn3 K zax (λxs H Q=>(∃p ys,xs=[.ref p]/\(SqL K H p ys\/SqT K H p ys)/\Q (.int ys.length) H)\/∃z,xs=[.str z]/\z.length<=sizeLine/\Q (.int z.length) H):=by
 intro ρ S H xs vs v S' Q sim r h p
 unfold zax at h
 split at h
 ·obtain ⟨hz,e⟩:=zb3 h
  cases e
  obtain ⟨w,rfl,rw'⟩:=r.one
  cases rw'
  exact .inr ⟨_,rfl,hz,p ρ H _ (Ext.refl ..) sim (.int _)⟩
 ·exact .inl (zzr ρ S H _ vs v S' Q sim r h p)
theorem zcl (hg:Gl X "len") (hm:X.mg "len" = none) (ha:PA3 X (a :: es) mA) (he:starEach (a :: es) X.env=(false,eval a X.env) :: starEach es X.env:=by rfl) (hpl:(backTo pos (starEach es X.env)).any (·.1)=false:=by rfl):PE3 X (.Call (.Name "len" p) (a :: es) [] pos) (zac zax mA) :=
 zjn (call_len_seq.or zyy) ybl hg hm PySem.boot_len ha (by decide) (by decide) he hpl
theorem zq9:Fn3 K zgt (λxs H Q=>∃i,xs=[.int i]/\i.natAbs.log2<1920/\Q (.str (toString i)) H):=by
 intro ρ S H xs vs v S' Q sim r h p
 unfold zgt at h
 split at h
 ·obtain ⟨hz,e⟩:=zb3 h
  cases e
  obtain ⟨w,rfl,rw'⟩:=r.one
  cases rw'
  exact ⟨_,rfl,hz,p ρ H _ (Ext.refl ..) sim (.str _)⟩
 ·cases h
 ·cases h
theorem zle (hg:Gl X "str") (hm:X.mg "str" = none) (ha:PA3 X (a :: es) mA) (he:starEach (a :: es) X.env=(false,eval a X.env) :: starEach es X.env:=by rfl) (hpl:(backTo pos (starEach es X.env)).any (·.1)=false:=by rfl):PE3 X (.Call (.Name "str" p) (a :: es) [] pos) (zac zgt mA) :=
 zjo zph zq9 hg hm zk8 ha (by decide) (by decide) he hpl
end
section
variable {K:QFg}{ρ:List Addr}{H:Hp}{S:Sto}
end
section
variable {X:Cx}{a b e:Expr}{ma mb me:EM}{pos pos':Pos}{k:Nat}
end
section
variable {X:Cx}{o i value:Expr}{mo mi mv:EM}{pos pos':Pos}{k:Nat}
end
section
variable {X:Cx}{pos:Pos}
end
noncomputable def zft:List D->Option (List Str)
 | []=>some []
 | .str z :: r=>(zft r).bind λts=>some (z :: ts)
 | _=>none
noncomputable def zes:D->List D->Sto->Option (D × Sto)
 | .str z,[.ref n],S=>(lstOf S n).bind λxs=>(zft xs).bind λts=>if (ts.map (·.length)).sum+ts.length*z.length<=16777216 then some (.str (Str.join z ts),S) else none
 | _,_,_=>none
def zra (K:QFg):V->List V->Hp->VK->Prop:=λx vs H Q=>∃z p ts,x=.str z/\vs=[.ref p]/\SqL K H p (ts.map V.str)/\(ts.map (·.length)).sum+ts.length*z.length<=16777216/\Q (.str (Str.join z ts)) H
theorem zm7:∀{ts:List Str}{us:List Value},Vals (ts.map V.str) us->StrsAre us ts
 | [],us,h=>by cases h;exact .nil
 | t :: ts,us,h=>by
  cases h with
  | cons r q=>obtain ⟨k,rfl⟩:=r;exact .cons _ _ (zm7 q)
theorem zm8 {ρ:List Addr}{H:Hp}:∀{xs:List D}{ts:List Str}{vs:List V},zft xs=some ts->RDs ρ H xs vs->vs=ts.map V.str
 | [],ts,vs,h,r=>by cases h;cases r;rfl
 | x :: xs,ts,vs,h,r=>by
  cases r with
  | cons r1 r2 =>
   cases r1 with
   | str z =>
    obtain ⟨ts',h1,h⟩:=bnd (show (zft xs).bind (λts=>some (z :: ts))=some ts from h)
    cases h
    rw [zm8 h1 r2];rfl
   | _=>cases h
section
variable {X:Cx}
theorem ybm:MtM X "str.join" (zra X.K):=by
 intro pins s σ H x vs v us Q I rx rv h
 obtain ⟨z,p,ts,rfl,rfl,sq,hz,q⟩:=h
 obtain ⟨t,rfl⟩:=rx
 obtain ⟨u,rfl,ru⟩:=rv.one
 cases ru
 obtain ⟨its,r,pl,_⟩:=I.list sq
 refine join_list pl.isList (zm7 (by simpa using r)) hz λt' k=>?_
 exact ⟨.str _,H,I.tok _,⟨t',by show Value.str (Builtin.Str.glued z ts) t' = _;rw [StrLaws.glued_eq_join]⟩,q⟩
theorem ybn {K:QFg}:Mt3 K zes (zra K):=by
 intro ρ S H x x' xs vs v S' Q sim rx r h p
 unfold zes at h
 split at h
 ·obtain ⟨ys,h1,h⟩:=bnd h
  obtain ⟨ts,h2,h⟩:=bnd h
  obtain ⟨hz,e⟩:=zb3 h
  cases e
  obtain ⟨w,rfl,rw'⟩:=r.one
  obtain ⟨a,us,ha,sq,r2⟩:=sim.lstOf h1
  cases rx
  cases rw' with
  | ref hn =>
   rw [ha] at hn;cases hn
   have:=zm8 h2 r2
   subst this
   exact ⟨_,_,ts,rfl,rfl,sq,hz,p ρ H _ (Ext.refl ..) sim (.str _)⟩
 ·cases h
noncomputable def zlf:D->Option Unit
 | .str _=>some ()
 | _=>none
noncomputable def zbt (f:D->List D->Sto->Option (D × Sto)) (o:EM) (as:AM):EM:=λl S=>(o l S).bind λp=>(zlf p.1).bind λ_=>(as l p.2).bind λq=>f p.1 q.1 q.2
variable {o e:Expr}{mo m:EM}{apos cpos:Pos}
theorem zg6 (ho:PE3 X o mo) (he:PE3 X e m)
  (hbase:attributeBase o "join" X.env (eval o X.env)=eval o X.env:=by rfl)
  (hfew:((backTo cpos (starEach [e] X.env)).all (λx=>!x.1) && (backToKw cpos (keywordEach [] X.env)).all (λx=>x.1.isSome)
   && decide ([e].length+([]:List Keyword).length+(if ([]:List Keyword).isEmpty then 0 else 1)<30))=true:=by rfl)
  (hline:(apos.endLine == cpos.line)=true:=by rfl) (hs:starEach [e] X.env=(false,eval e X.env) :: starEach [] X.env:=by rfl) :
  PE3 X (.Call (.Attribute o "join" apos) [e] [] cpos) (zbt zes mo (zaa m zab)) :=
 PE.imp (zkw PySem.F.plainAttrs_str PySem.F.slot_str_join PySem.F.type_str_join ybm ho (zae he zaf hs) hbase hfew hline hs rfl) λσ H Q hx3_=>by
  obtain ⟨ρ,l,S,v,S',sim,ro,hq,p⟩:=hx3_
  obtain ⟨⟨x,S1⟩,h1,hq⟩:=bnd hq
  obtain ⟨_,h2,hq⟩:=bnd hq
  obtain ⟨⟨ys,S2⟩,h4,hq⟩:=bnd hq
  refine ⟨ρ,l,S,x,S1,sim,ro,h1,λρ1 H1 x' e1 s1 r1=>⟨?_,ρ1,l,S1,ys,S2,s1,ro.mono e1,h4,λρ2 H2 vs e2 s2 r2=>ybn ρ2 S2 H2 x x' ys vs v S' Q s2 (r1.mono e2) r2 hq (p.ext (e1.trans e2))⟩⟩
  cases r1 with
  | str z=>exact rfl
  | _=>cases h2
end
noncomputable def sgn (z:Str):List D:=z.cps.toList.map λc=>.str ⟨#[c]⟩
noncomputable def Its (z:Str):It:=⟨λi _=>i<z.cps.size,λi H x H'=>H' = H/\∃c,z.cps[i]? = some c/\x=.str ⟨#[c]⟩,λi _=>z.cps.size<=i⟩
theorem zi3 (z:Str):(sgn z).length=z.cps.size:=by simp [sgn]
theorem ybo {K:QFg}{ρ:List Addr}{H:Hp}{z:Str}:zjx K ρ H (itX (sgn z)) (Its z):=by
 intro i ρ' S' H' e s
 refine ⟨λh=>?_,λx h=>?_⟩
 ·have h:(sgn z)[i]? = none:=qoi h
  have:=List.getElem?_eq_none_iff.mp h
  rw [zi3] at this
  exact this
 ·have h:(sgn z)[i]? = some x:=qoi h
  have hl:=(qme h).1
  rw [zi3] at hl
  refine ⟨hl,λy H'' ⟨e1,c,e2,e3⟩=>⟨e1,?_⟩⟩
  subst e3
  unfold sgn at h
  rw [qgm] at h
  have e4:z.cps.toList[i]? = some c:=by simpa using e2
  rw [e4] at h
  cases h
  exact .str _
section
variable {P:Program}{w:World}{K:QFg}{elts:List Expr}{z:Nat}{tp:Pos}
end
section
variable {X:Cx}{elts:List Expr}{z:Nat}{tp:Pos}
end
inductive tiL (K:QFg) (im:IM) (σ:St) (H:Hp) (R:It->Hp->Prop):Prop
 | mk (ρ:_) (l:_) (S:_) (it:_) (k:_) (S':_) (_:Sim K ρ S H) (_:RO ρ H l σ) (_:im l S=some (it,k,S')) (_:∀ρ' H' J,Ext ρ H ρ' H'->Sim K ρ' S' H'->zq6 K ρ' H' it J->R J H')
def zrb (X:Cx) (tgt iter:Expr) (im:IM):Prop:=PI X tgt iter (tiL X.K im)
section
variable {X:Cx}{elts:List Expr}{z:Nat}{tp:Pos}{a:Expr}{mA:AM}{g:GM}{b:SM}{body:List Stmt}{p0 pos' pos:Pos}
theorem ybp {tgt iter:Expr}{im:IM}(hp:PassesOwn (model X.prog X.w) X.A X.env X.xe) (hc:X.calm=true) (hi:zrb X tgt iter im) (hg:PG3 X tgt g) (hb:ze3 X body b) (hs:∀x,foldedSetIterable iter X.env x=pure x:=by intro _;rfl) :
  PS3 X (.For tgt iter body [] pos) (zj2 im g b) :=
 PS.imp (zmh hp hc hi hg hb hs) λE σ H hx2_=>by
  obtain ⟨ρ,l,S,f,l',S',sim,ro,hm,p⟩:=hx2_
  obtain ⟨⟨it,k,S1⟩,q1,hm⟩:=bnd hm
  exact ⟨ρ,l,S,it,k,S1,sim,ro,q1,λρ1 H1 J e1 s1 ok=>ybh ok s1 (ro.mono e1) hm λρ' H' σ' e'=>p ρ' H' σ' (e1.trans e')⟩
end
noncomputable def zhj:D->D->Sto->Option (D × Sto)
 | .ref n,.ref m,S=>match S[n]?,S[m]? with
  | some (.lst xs),some (.lst [])=>some (.bl xs.isEmpty,S)
  | _,_=>none
 | _,_,_=>none
def zrc:R2:=λx y H Q=>∃a b xs,x=.ref a/\y=.ref b/\H a=some (.lst xs)/\H b=some (.lst [])/\Q (.bl xs.isEmpty) H
section
variable {X:Cx}{a b:Expr}{ma mb:EM}{pos:Pos}{k:Nat}
theorem zrd (hr:Room k X.A):OpR X (compareOp .Eq) zrc:=by
 intro pins s σ H x y v u Q I rx ry h
 obtain ⟨a,b,xs,rfl,rfl,ha,hb,q⟩:=h
 cases rx;cases ry
 obtain ⟨z,its,n,r,hl,e⟩:=I.lstM ha
 obtain ⟨z2,its2,n2,r2,hl2,e2⟩:=I.lstM hb
 cases r2
 have hu:X.A.units<cLine:=by have:=hr.un;omega
 have l1:s.heap.IsList a its.toArray:=⟨_,e,rfl,n,rfl⟩
 have l2:s.heap.IsList b ([]:List Value).toArray:=⟨_,e2,rfl,n2,rfl⟩
 cases xs with
 | nil =>
  cases r
  have:=SeqAt.RcAt.lists (A:=X.A) (e:=λ_=>true) l1 l2 rfl hu (λj h1 _=>by simp at h1)
  exact this X.prog X.w X.xe _ ⟨.bl _,H,I,rfl,q⟩
 | cons y ys =>
  cases r with
  | cons r1 r2 =>
   exact SeqAt.RcAt.lists_lengths (A:=X.A) l1 l2 (by simp) hu X.prog X.w X.xe _ ⟨.bl _,H,I,rfl,q⟩
theorem zre {K:QFg}:Op3 K zhj zrc:=by
 intro ρ S H x y x' y' v S' Q sim rx ry h p
 unfold zhj at h
 split at h
 ·split at h
  ·rename_i n m S xs e1 e2
   cases h
   obtain ⟨a,us,ha,hH,r2⟩:=sim.lst e1
   obtain ⟨b,ws,hb,hH2,r3⟩:=sim.lst e2
   cases r3
   cases rx with
   | ref hn =>
    rw [ha] at hn;cases hn
    cases ry with
    | ref hm =>
     rw [hb] at hm;cases hm
     refine ⟨a,b,us,rfl,rfl,hH,hH2,?_⟩
     have:us.isEmpty=xs.isEmpty:=by cases r2 <;> rfl
     rw [this]
     exact p ρ H _ (Ext.refl ..) sim (.bl _)
  ·cases h
 ·cases h
theorem ybq (hr:Room k X.A) (ha:PE3 X a ma) (hb:PE3 X b mb):PE3 X (.Compare a [.Eq] [b] pos) (eOp zhj ma mb):=zjk (zrd hr) zre ha hb (ze2 b)
theorem ybr (hr:Room k X.A) (ha:PE3 X a ma) (hb:PE3 X b mb):PT3 X (.Compare a [.Eq] [b] pos) (tE (eOp zhj ma mb)):=zfq (zrd hr) zre ha hb (ze2 b)
end
def ybs:V->Option Int->Option Int->Hp->VK->Prop:=λx lo hi H Q=>∃z,x=.str z/\z.length<=sizeLine/\Q (.str (Txt.slice z lo hi)) H
theorem zrf {v:Value}{o:Option Int}(h:IsPart v o):∃l:Option (Int × Tok),v=partValue l/\o=l.map (·.1):=by
 cases h with
 | none=>exact ⟨none,rfl,rfl⟩
 | int i t=>exact ⟨some (i,t),rfl,rfl⟩
theorem ybt {X:Cx}:SlR X ybs:=by
 intro pins s σ H x v vl vu lo hi sl Q I rx hs pl pu h
 obtain ⟨z,rfl,hz,q⟩:=h
 obtain ⟨t,rfl⟩:=rx
 obtain ⟨l,rfl,rfl⟩:=zrf pl
 obtain ⟨u,rfl,rfl⟩:=zrf pu
 refine ⟨"str",_,F.slot_str_getitem.lookup,typeIs_str _ _ _,?_⟩
 refine wpAny_getItem_str_slice (l:=l) (u:=u) (st:=none) hs rfl ?_
 refine post_val_or_str ⟨Nat.le_trans (Txt.slice_le z _ _) hz,λt' k=>?_⟩
 exact ⟨.str _,H,I.tok _,⟨t',rfl⟩,q⟩
noncomputable def zbk (m:EM) (lo hi:OM):EM:=λl S=>(m l S).bind λp=>(lo l p.2).bind λq=>(hi l q.2).bind λr=>match p.1 with
 | .tup xs=>some (.tup (zez xs q.1 r.1),r.2)
 | .ref n=>(lstOf r.2 n).bind λxs=>some (.ref r.2.length,r.2++[.lst (zez xs q.1 r.1)])
 | .str z=>if z.length<=sizeLine then some (.str (Txt.slice z q.1 r.1),r.2) else none
 | _=>none
section
variable {X:Cx}{a:Expr}{ma:EM}{lo hi:Option Expr}{ml mh:OM}{p2 pos:Pos}
theorem zet (he:PE3 X a ma) (hl:PO3 X lo ml) (hu:PO3 X hi mh):PE3 X (.Subscript a (.Slice lo hi none p2) pos) (zbk ma ml mh):=PE.imp (zyn (((sl_tup.or zzn).or zyx).or ybt) he hl hu) λσ H Q hx1_=>by
 obtain ⟨ρ,l,S,v,S',sim,ro,hm,p⟩:=hx1_
 obtain ⟨⟨x,S1⟩,h1,hm⟩:=bnd hm
 obtain ⟨⟨y,S2⟩,h2,hm⟩:=bnd hm
 obtain ⟨⟨z,S3⟩,h3,hm⟩:=bnd hm
 refine ⟨ρ,l,S,x,S1,sim,ro,h1,λρ1 H1 x' e1 s1 r1=>⟨ρ1,l,S1,y,S2,s1,ro.mono e1,h2,λρ2 H2 e2 s2=>⟨ρ2,l,S2,z,S3,s2,ro.mono (e1.trans e2),h3,λρ3 H3 e3 s3=>?_⟩⟩⟩
 have e13:=e1.trans (e2.trans e3)
 cases r1 with
 | @tup xs a vs ha r =>
  cases hm
  have ha3:=(e2.trans e3).tup _ _ ha
  have r3:=r.mono (e2.trans e3)
  have hlen:=r.length
  by_cases hw:HT.sIx vs.length 0 y=0/\HT.sIx vs.length vs.length z=vs.length
  ·refine .inl (.inl (.inr ⟨a,vs,rfl,SqT.of ha3,hw,?_⟩))
   have:=zzo xs y z (by rw [hlen];exact hw)
   dsimp only at p
   rw [this] at p
   exact p ρ3 H3 _ e13 s3 (.tup ha3 r3)
  ·refine .inl (.inl (.inl ⟨a,vs,rfl,SqT.of ha3,hw,?_⟩))
   have rc:RDs ρ3 H3 (zez xs y z) (zgl vs y z):=by
    unfold zez zgl
    rw [hlen]
    exact (r3.drop _).take _
   exact zjm s3 rc (Pv.ext p e13)
 | @ref j b hj =>
  obtain ⟨xs,hx,hm⟩:=bnd (show (lstOf S3 j).bind (λxs=>some (D.ref S3.length,S3++[.lst (zez xs y z)]))=some (v,S') from hm)
  cases hm
  obtain ⟨c,us,hc,sq,rv⟩:=s3.lstOf hx
  have:=(e2.trans e3).pre _ _ hj
  rw [this] at hc;cases hc
  have rc:RDs ρ3 H3 (zez xs y z) (zgl us y z):=by
   unfold zez zgl
   rw [rv.length]
   exact (rv.drop _).take _
  exact .inl (.inr ⟨b,us,rfl,sq,zh3 s3 rc (Pv.ext p e13)⟩)
 | str t =>
  obtain ⟨hz,e⟩:=zb3 (show (if t.length<=sizeLine then some (D.str (Txt.slice t y z),S3) else none)=some (v,S') from hm)
  cases e
  exact .inr ⟨t,rfl,hz,p ρ3 H3 _ e13 s3 (.str _)⟩
 | _=>cases hm
end
noncomputable def zhk:D->D->Sto->Option (D × Sto)
 | .str i,.str j,S=>if i.length+j.length<=sizeLine then some (.str (i++j),S) else none
 | _,_,_=>none
noncomputable def dPlusA:D->D->Sto->Option (D × Sto):=λx y S=>match zhk x y S with|some v=>some v|none=>zk7 x y S
theorem op3_plusS {K:QFg}:Op3 K zhk (λx y H Q=>∃i j,x=.str i/\y=.str j/\i.length+j.length<=sizeLine/\Q (.str (i++j)) H):=by
 intro ρ S H x y x' y' v S' Q sim rx ry h p
 unfold zhk at h
 split at h
 ·obtain ⟨hz,e⟩:=zb3 h
  cases e;cases rx;cases ry
  exact ⟨_,_,rfl,rfl,hz,p ρ H _ (Ext.refl ..) sim (.str _)⟩
 ·cases h
theorem zb2 {X:Cx}{a b:Expr}{ma mb:EM}{pos:Pos}(ha:PE3 X a ma) (hb:PE3 X b mb):PE3 X (.BinOp a .Add b pos) (eOp dPlusA ma mb):=zhg (op_add_str.or (op_add.or ((op_catT.or zzp).or zy2))) (op3_plusS.or yaf) ha hb
noncomputable def zgc:FM
 | [.str z],S=>(intText? z).bind λn=>if z.length<=640 then some (.int n,S) else none
 | xs,S=>zmx xs S
section
variable {X:Cx}{a:Expr}{es:List Expr}{mA:AM}{pos p:Pos}{K:QFg}
theorem call_int_text:CallR X (.type "int") (λxs H Q=>∃z n,xs=[.str z]/\intText? z=some n/\z.length<=640/\Q (.int n) H):=by
 intro pins s σ H xs us Q I r h
 obtain ⟨z,n,rfl,h1,h2,q⟩:=h
 obtain ⟨u,rfl,ru⟩:=zgk r
 obtain ⟨t,rfl⟩:=ru
 exact PySem.W.KIN.call_text h1 h2 ⟨.int n,H,I.tok _,⟨_,rfl⟩,q⟩
theorem ybu:Fn3 K zgc (λxs H Q=>(∃z n,xs=[.str z]/\intText? z=some n/\z.length<=640/\Q (.int n) H)\/((∃i,xs=[.int i]/\Q (.int i) H)\/∃k,xs=[.bl k]/\Q (.int (if k then 1 else 0)) H)):=by
 intro ρ S H xs vs v S' Q sim r h p
 unfold zgc at h
 split at h
 ·obtain ⟨n,h1,h⟩:=bnd h
  obtain ⟨hz,e⟩:=zb3 h
  cases e
  obtain ⟨w,rfl,rw'⟩:=r.one
  cases rw'
  exact .inl ⟨_,_,rfl,h1,hz,p ρ H _ (Ext.refl ..) sim (.int _)⟩
 ·exact .inr (zzs ρ S H _ vs v S' Q sim r h p)
theorem zm9 (hg:Gl X "int") (hm:X.mg "int" = none) (ha:PA3 X (a :: es) mA) (he:starEach (a :: es) X.env=(false,eval a X.env) :: starEach es X.env:=by rfl) (hpl:(backTo pos (starEach es X.env)).any (·.1)=false:=by rfl):PE3 X (.Call (.Name "int" p) (a :: es) [] pos) (zac zgc mA) :=
 zjo (call_int_text.or zx5) ybu hg hm yag ha (by decide) (by decide) he hpl
end
section
variable {X:Cx}
variable {o e f:Expr}{mo m m':EM}{apos cpos:Pos}
end
section
variable {X:Cx}
variable {a:Expr}{es:List Expr}{mA:AM}{p pos:Pos}
end
section
variable {prog:Program}{w:World}{A:Around}{E:Value->Shared->Prop}{s:Shared}
end
section
variable {P:Program}{w:World}{K:QFg}{tg:Expr}
end
section
variable {X:Cx}{tg:Expr}
end
section
variable {X:Cx}{tgt:Expr}{a:Expr}{mA:AM}{p0 pos':Pos}
end
theorem zrg {ρ:List Addr}{H:Hp}:∀ts:List Str,RDs ρ H (ts.map D.str) (ts.map V.str)
 | []=>.nil
 | t :: ts=>.cons (.str t) (zrg ts)
section
variable {X:Cx}
variable {a:Expr}{es:List Expr}{mA:AM}{pos p:Pos}
end
noncomputable def zeh (z:Str) (k:Nat):Str:=⟨(List.replicate k z.cps.toList).flatten.toArray⟩
def ybv:R2:=λx y H Q=>∃z k,x=.str z/\y=.int k/\1<=k/\k<1000/\1<=z.length/\z.length<1000/\Q (.str (zeh z k.toNat)) H
theorem zrh:∀(l:List (Array Nat)) (a:Array Nat),l.foldl (·++·) a=(a.toList++(l.map Array.toList).flatten).toArray
 | [],a=>by simp
 | x :: l,a=>by
  rw [List.foldl_cons,zrh l]
  simp
theorem ybw {X:Cx}:OpR X (binaryOp .Mult) ybv:=by
 intro pins s σ H x y v u Q I rx ry h
 obtain ⟨z,k,rfl,rfl,h1,h2,h3,h4,q⟩:=h
 obtain ⟨t,rfl⟩:=rx
 obtain ⟨t',rfl⟩:=ry
 have hm:z.length*k.toNat<=1000*1000:=Nat.mul_le_mul (by omega) (by omega)
 refine P.mul_str (by rw [Bool.or_eq_false_iff];exact ⟨decide_eq_false (by omega),decide_eq_false (by omega)⟩) (λ_ _=>?_) (λ_ _=>?_) ?_
 ·intro hgt
  have hk:=(Int.ediv_lt_iff_lt_mul (by omega:(0:Int)<k)).mp hgt
  have e:(z.length:Int)*k=((z.length*k.toNat:Nat):Int):=by rw [Int.natCast_mul,Int.toNat_of_nonneg (by omega)]
  rw [e] at hk
  omega
 ·unfold Builtin.Str.tooLong
  have:sizeLine=16777216:=by decide
  exact decide_eq_false (by omega)
 ·rw [if_neg (by omega)]
  by_cases k1:k=1
  ·subst k1
   rw [if_pos (by simp)]
   have e:zeh z (1:Int).toNat=z:=by simp [zeh]
   rw [e] at q
   exact ⟨.str z,H,I,⟨t,rfl⟩,q⟩
  ·have hz0:(z.length == 0)=false:=beq_false_of_ne (by omega)
   rw [if_neg (by simp [k1,hz0])]
   have e:(⟨(List.replicate k.toNat z.cps).foldl (·++·) #[]⟩:Str)=zeh z k.toNat:=by
    unfold zeh
    rw [zrh]
    simp
   rw [e]
   have hlen:(zeh z k.toNat).length=z.length*k.toNat:=by
    simp [zeh,Str.length,Nat.mul_comm]
   have hsl:sizeLine=16777216:=by decide
   refine ⟨?_,.str _,H,I.tok _,⟨_,rfl⟩,q⟩
   show (zeh z k.toNat).length<=_
   omega
section
variable {X:Cx}{a b:Expr}{ma mb:EM}{pos:Pos}
end
section
variable {prog:Program}{w:World}{A:Around}{R:Result->Shared->Prop}{s:Shared}
end
section
variable {K:QFg}{ρ:List Addr}{H:Hp}{S:Sto}
end
noncomputable def kD:Key->D
 | .inl i=>.int i
 | .inr x=>.str x
section
variable {X:Cx}{tg:Expr}
end
section
variable {X:Cx}{tgt iter:Expr}{m:EM}
end
section
variable {X:Cx}{a b:Expr}{ma mb:EM}{pos:Pos}{k:Nat}
end
open PySem.W
def Fly (h:Heap) (e C T:Addr):Prop:=∃oe vs oT ts a0,h.get? e=some oe/\oe.cls=.ref C/\oe.data=.fields vs/\vs[0]? = some a0/\vs[1]? = some (.ref T)/\T≠e/\h.get? T=some oT/\oT.data=.fields ts/\ts[3]? = some .none
structure Tr (fs:List Addr) (e T:Addr) (h h':Heap):Prop where
 keep:∀b o,b ∉ fs->b≠e->b≠T->h.get? b=some o->h'.get? b=some o
 slot:∀b o,b∈fs->h.get? b=some o->(∀vs,o.data≠.fields vs)->∃sl,h'.get? b=some { o with slots:=sl }
section
variable {M:Model}{A:Around}{E:Value->Shared->Prop}{s:Shared}{base:Heap}{env:Env}{outer:List Env}{L e C T:Addr}{Q:Unit->Shared->Prop}
theorem zlg {l:List Env}:∀env∈l,∀a,env.frame=some a->a∈frs l:=λenv he a ha=>List.mem_filterMap.mpr ⟨env,he,ha⟩
theorem ybx (hfr:A.frames=some (env :: outer)) (hl:s.heap.FunFrames base (env :: outer)) (hf:env.frame=some L) (fl:Fly s.heap e C T)
  (hQ:∀h' T',Tr (frs (env :: outer)) e T s.heap h'->Fly h' e C T'->(T' = T\/s.heap.get? T' = none)->Q () { s with heap:=h' }):wpAny M A (leaving env (.ref e)) Q E s:=by
 obtain ⟨oe,vs,oT,ts,a0,he,hc,hd,h0,h1,hTe,hT,hdT,h3⟩:=fl
 refine wpAny_leaving_nextW (base:=hideAll s.heap (e :: T :: frs (env :: outer))) (cls:=.ref C) (a0:=a0) hfr (funFrames_hide hl λv hv a ha=>List.mem_cons_of_mem _ (List.mem_cons_of_mem _ (zlg v hv a ha))) hf ⟨oe,vs,T,oT,ts,he,⟨hc,h0⟩,hd,h1,hideAll_none _ (by simp),hTe,hT,hdT,h3⟩ (λb o q=>of_hideAll _ q) (hideAll_none _ (by simp)) λh' hL=>?_
 obtain ⟨k1,k2,⟨oe',vs',T',oT',ts',e1,⟨c1,z1⟩,d1,f1,n1,ne1,g1,d1',t1⟩,k4⟩:=hL
 refine hQ h' T' ⟨λb o hb h2 h3 q=>k1 b o (hideAll_get _ q (by simp only [List.mem_cons,not_or];exact ⟨h2,h3,hb⟩)),λb o _ q hn=>k4 b o q hn⟩ ⟨oe',vs',oT',ts',a0,e1,c1,d1,z1,f1,ne1,g1,d1',t1⟩ ?_
 cases q:s.heap.get? T' with
 | none=>exact .inr rfl
 | some o =>
  refine .inl ?_
  by_cases hm:T'∈e :: T :: frs (env :: outer)
  ·rcases List.mem_cons.mp hm with z|z
   ·exact absurd z ne1
   ·rcases List.mem_cons.mp z with z|z
    ·exact z
    ·obtain ⟨_,o2,ho2,hnf⟩:=hl.mem z
     rw [q] at ho2;cases ho2
     obtain ⟨sl,hs⟩:=k4 T' o q hnf
     rw [g1] at hs;cases hs
     exact absurd d1' (hnf ts')
  ·rw [hideAll_get _ q hm] at n1;cases n1
def New (h:Heap) (e C:Addr):Prop:=∃oe vs a0,h.get? e=some oe/\oe.cls=.ref C/\oe.data=.fields vs/\vs[0]? = some a0/\vs[1]? = some .none
theorem yby (hfr:A.frames=some (env :: outer)) (hl:s.heap.FunFrames base (env :: outer)) (hf:env.frame=some L) (fl:New s.heap e C)
  (hQ:∀h' T',Tr (frs (env :: outer)) e e s.heap h'->Fly h' e C T'->s.heap.get? T' = none->Q () { s with heap:=h' }):wpAny M A (leaving env (.ref e)) Q E s:=by
 obtain ⟨oe,vs,a0,he,hc,hd,h0,h1⟩:=fl
 refine wpAny_leaving_firstW (base:=hideAll s.heap (e :: frs (env :: outer))) (a0:=a0) hfr (funFrames_hide hl λv hv a ha=>List.mem_cons_of_mem _ (zlg v hv a ha)) hf he (λb o q=>of_hideAll _ q) (hideAll_none _ (by simp)) hd h1 h0 λh' hL=>?_
 obtain ⟨k1,k2,⟨oe',vs',T',oT',ts',e1,⟨c1,z1⟩,d1,f1,n1,ne1,g1,d1',t1⟩,k4⟩:=hL
 refine hQ h' T' ⟨λb o hb h2 h3 q=>k1 b o (hideAll_get _ q (by simp only [List.mem_cons,not_or];exact ⟨h2,hb⟩)),λb o _ q hn=>k4 b o q hn⟩ ⟨oe',vs',oT',ts',a0,e1,c1.trans hc,d1,z1,f1,ne1,g1,d1',t1⟩ ?_
 cases q:s.heap.get? T' with
 | none=>rfl
 | some o =>
  by_cases hm:T'∈e :: frs (env :: outer)
  ·rcases List.mem_cons.mp hm with z|z
   ·exact absurd z ne1
   ·obtain ⟨_,o2,ho2,hnf⟩:=hl.mem z
    rw [q] at ho2;cases ho2
    obtain ⟨sl,hs⟩:=k4 T' o q hnf
    rw [g1] at hs;cases hs
    exact absurd d1' (hnf ts')
  ·rw [hideAll_get _ q hm] at n1;cases n1
end
theorem ObjOk.there {P:Program}{w:World}{H:Hp}{h:Heap}{a:Addr}{o:HO}(x:ObjOk P w H h a o):∃q,h.get? a=some q:=by
 cases o with
 | lst xs=>obtain ⟨_,_,_,_,e⟩:=x;exact ⟨_,e⟩
 | tup xs=>obtain ⟨_,_,_,ob,e,_⟩:=x;exact ⟨_,e⟩
 | dK kvs=>obtain ⟨_,_,_,_,o,_,_,e,_⟩:=x;exact ⟨_,e⟩
 | dT kvs=>obtain ⟨_,_,_,_,o,_,_,e,_⟩:=x;exact ⟨_,e⟩
 | set S n=>obtain ⟨o,_,_,_,e,_⟩:=x;exact ⟨_,e⟩
 | ins C dx fs=>obtain ⟨_,_,_,e,_⟩:=x;exact ⟨_,e⟩
 | own y=>obtain ⟨_,e⟩:=x;exact ⟨_,e⟩
 | xd fs=>obtain ⟨_,⟨_,_,_,e,_⟩,_⟩:=x;exact ⟨_,e⟩
 | rng lo hi=>obtain ⟨_,_,_,e⟩:=x;exact ⟨_,e⟩
 | frz ob u=>obtain ⟨e,_⟩:=x;exact ⟨_,e⟩
 | tbl ps=>exact ⟨_,x⟩
 | met f y=>exact ⟨_,x⟩
 | ext φ=>obtain ⟨_,e,_⟩:=x;exact e
def CX1 (P:Program) (w:World):CXT:=λouter H s E x s'=>∃a C T H',x=.ref a/\s'.os=s.os/\AllBare s'.gens/\Un (frs outer) [] H H' s.heap s'.heap/\HOk P w H' s'.heap /\
 s.heap.get? a=none/\s.heap.get? T=none/\Fly s'.heap a C T/\H' a=none/\H' T=none/\E (.ref C) none H'
section
variable {P:Program}{w:World}{K:QFg}{mg:Str->Option Value}{base:Heap}{N:List Str}{qual:Str}{scope:Scope}{f:Addr}{cd:Value}{A:Around}{outer:List Env}{s:Shared}{H:Hp}{E:XK}
theorem zna {pins:List (Addr × Obj)}{σ:St}{H1:Hp}{s1:Shared}{a C T T':Addr}{h':Heap}(I:Inv (zcj (CX1 P w) P w K mg base N qual scope f cd A outer s H E) pins σ H1 s1)
  (na:s.heap.get? a=none) (nT:s.heap.get? T=none) (ha:H1 a=none) (hT:H1 T=none) (hE:E (.ref C) none H1)
  (tr:Tr (frs (envOfC qual scope s.heap.objs.size f cd :: outer)) a T s1.heap h') (fl:Fly h' a C T') (hT':T' = T\/s1.heap.get? T' = none) :
  CX1 P w outer H s E (.ref a) { s1 with heap:=h' }:=by
 have hsub:∀b,b∈frs (envOfC qual scope s.heap.objs.size f cd :: outer)->b=s.heap.objs.size\/b∈frs outer:=λb hb=>by
  rcases List.mem_cons.mp (I.stkSub b hb) with z|z
  ·exact .inl z
  ·exact .inr z
 have hne:∀b o,s.heap.get? b=some o->b≠a/\b≠T/\b≠s.heap.objs.size:=λb o q=>⟨λz=>(by rw [z,na] at q;cases q),λz=>(by rw [z,nT] at q;cases q),Nat.ne_of_lt (Heap.lt_size q)⟩
 have nT':s.heap.get? T' = none:=by
  rcases hT' with rfl|q
  ·exact nT
  ·cases z:s.heap.get? T' with
   | none=>rfl
   | some o=>obtain ⟨o',e⟩:=I.base.there T' o z (by simp [zcj]);rw [q] at e;cases e
 have hT'':H1 T' = none:=by
  rcases hT' with rfl|q
  ·exact hT
  ·cases z:H1 T' with
   | none=>rfl
   | some u=>obtain ⟨o',e⟩:=ObjOk.there (I.hok T' u z);rw [q] at e;cases e
 refine ⟨a,C,T',H1,rfl,I.os,I.bare,⟨λb o q n hb hx=>?_,λb o q n hb hx=>?_,λb o q n hx=>?_,λb o q hx=>?_,I.base.tups,I.base.frzs,I.base.tbls⟩,λb u e=>?_,na,nT',fl,ha,hT'',hE⟩
 ·obtain ⟨h1,h2,h3⟩:=hne b o q
  exact tr.keep b o (λz=>(hsub b z).elim h3 hb) h1 h2 (I.base.keep b o q n hb (by simp [zcj]))
 ·obtain ⟨sl,e⟩:=I.base.slot b o q n hb (by simp [zcj])
  have hb':b∈frs (envOfC qual scope s.heap.objs.size f cd :: outer):=by
   unfold frs at hb ⊢
   rw [List.filterMap_cons]
   split
   ·exact hb
   ·exact List.mem_cons_of_mem _ hb
  obtain ⟨_,o2,ho2,hnf⟩:=I.funs.mem hb
  rw [e] at ho2;cases ho2
  obtain ⟨sl',e'⟩:=tr.slot b _ hb' e hnf
  exact ⟨sl',e'⟩
 ·exact I.base.free b o q n (by simp [zcj])
 ·obtain ⟨h1,h2,h3⟩:=hne b o q
  obtain ⟨o',e⟩:=I.base.there b o q (by simp [zcj])
  by_cases hb:b∈frs (envOfC qual scope s.heap.objs.size f cd :: outer)
  ·obtain ⟨_,o2,ho2,hnf⟩:=I.stack.mem hb
   rw [e] at ho2;cases ho2
   obtain ⟨sl,e'⟩:=tr.slot b _ hb e hnf
   exact ⟨_,e'⟩
  ·exact ⟨o',tr.keep b o' hb h1 h2 e⟩
 ·refine (I.hok b u e).stay (λc v hc q=>?_) (λ_ q=>q) λ_ _ q=>q
  have hcn:H1 c≠none:=by
   rcases hc with z|z
   ·rw [z,e];intro y;cases y
   ·rw [z];intro y;cases y
  exact tr.keep c v (λz=>hcn (I.stkFree c z)) (λz=>hcn (by rw [z];exact ha)) (λz=>hcn (by rw [z];exact hT)) q
theorem ybz {pins:List (Addr × Obj)}{σ:St}{H1:Hp}{s1:Shared}{a C T:Addr}(I:Inv (zcj (CX1 P w) P w K mg base N qual scope f cd A outer s H E) pins σ H1 s1)
  (na:s.heap.get? a=none) (nT:s.heap.get? T=none) (ha:H1 a=none) (hT:H1 T=none) (fl:Fly s1.heap a C T) (hE:E (.ref C) none H1) :
  (zcj (CX1 P w) P w K mg base N qual scope f cd A outer s H E).xe (.ref a) s1 :=
 ybx (L:=s.heap.objs.size) I.ok.frames I.stack rfl fl λh' T' tr fl' hT'=>zna I na nT ha hT hE tr fl' hT'
theorem yb0 {pins:List (Addr × Obj)}{σ:St}{H1:Hp}{s1:Shared}{a C:Addr}(I:Inv (zcj (CX1 P w) P w K mg base N qual scope f cd A outer s H E) pins σ H1 s1)
  (na:s.heap.get? a=none) (ha:H1 a=none) (fl:New s1.heap a C) (hE:E (.ref C) none H1) :
  (zcj (CX1 P w) P w K mg base N qual scope f cd A outer s H E).xe (.ref a) s1 :=
 yby (L:=s.heap.objs.size) I.ok.frames I.stack rfl fl λh' T' tr fl' hT'=>zna I na na ha ha hE tr fl' (.inr hT')
theorem zi4:zh0 (CX1 P w) (zcj (CX1 P w) P w K mg base N qual scope f cd A outer s H E) E:=by
 rintro pins σ H1 s1 e s2 I ⟨a,C,T,H',rfl,ho,hg,un,hok,na,nT,fl,ha,hT,hE⟩
 have I2:=I.call' (s':=s2) (ch:=[]) ho un hok hg (λb hb=>by cases hb)
 have up:∀b,s1.heap.get? b=none->s.heap.get? b=none:=λb q=>by
  cases z:s.heap.get? b with
  | none=>rfl
  | some o=>obtain ⟨o',e⟩:=I.base.there b o z (by simp [zcj]);rw [q] at e;cases e
 exact ybz I2 (up a na) (up T nT) ha hT fl hE
end
abbrev ZM:=Lo->Sto->Option (Str × Sto)
abbrev ZF:=List D->Sto->Option (Str × Sto)
def Rz (K:QFg) (E:XK) (CA:Str->Addr) (r:ZM):L2.St->Hp->Prop:=λσ H=>∃ρ l S C S',Sim K ρ S H/\RO ρ H l σ/\r l S=some (C,S')/\∀ρ' H',Ext ρ H ρ' H'->Sim K ρ' S' H'->E (.ref (CA C)) none H'
def PEz (X:Cx) (E:XK) (CA:Str->Addr) (e:Expr) (r:ZM):Prop:=PE X e (λσ H _=>Rz X.K E CA r σ H)
def PAz (X:Cx) (E:XK) (CA:Str->Addr) (es:List Expr) (r:ZM):Prop:=PA X es (λσ H _=>Rz X.K E CA r σ H)
def PSz (X:Cx) (E:XK) (CA:Str->Addr) (st:Stmt) (r:ZM):Prop:=PS X st (λ_ σ H=>Rz X.K E CA r σ H)
def zgd (X:Cx) (E:XK) (CA:Str->Addr) (st:List Stmt) (r:ZM):Prop:=PSs X st (λ_ σ H=>Rz X.K E CA r σ H)
def spZ (K:QFg) (CA:Str->Addr) (n:Nat) (rx:ZF):Sp:=λvs H _ E=>vs.length=n/\∃ρ ds S C S',Sim K ρ S H/\RDs ρ H ds vs/\rx ds S=some (C,S')/\∀ρ' H',Ext ρ H ρ' H'->Sim K ρ' S' H'->E (.ref (CA C)) none H'
noncomputable def zed:ZM:=λ_ _=>none
noncomputable def zOr (r q:ZM):ZM:=λl S=>match r l S with
 | some x=>some x
 | none=>q l S
noncomputable def zcq (m:SM) (r:ZM):ZM:=λl S=>(m l S).bind λq=>match q.1 with
 | .nx=>r q.2.1 q.2.2
 | _=>none
noncomputable def zIf (t:TM) (r q:ZM):ZM:=λl S=>(t l S).bind λp=>if p.1=true then r l p.2 else q l p.2
noncomputable def zb8 (rx:ZF) (mA:AM):ZM:=λl S=>(mA l S).bind λp=>rx p.1 p.2
section
variable {X:Cx}{E:XK}{CA:Str->Addr}{e:Expr}{es:List Expr}{st:Stmt}{rest:List Stmt}{r q:ZM}{m:EM}{b:SM}{pos:Pos}
theorem Rz.of_or {K:QFg}{σ:L2.St}{H:Hp}(h:Rz K E CA (zOr r q) σ H):Rz K E CA r σ H\/Rz K E CA q σ H:=by
 obtain ⟨ρ,l,S,C,S',sim,ro,hm,p⟩:=h
 unfold zOr at hm
 cases e:r l S with
 | some x=>rw [e] at hm;cases hm;exact .inl ⟨ρ,l,S,C,S',sim,ro,e,p⟩
 | none=>rw [e] at hm;exact .inr ⟨ρ,l,S,C,S',sim,ro,hm,p⟩
theorem Rz.none {K:QFg}{σ:L2.St}{H:Hp}(h:Rz K E CA zed σ H):False:=by
 obtain ⟨ρ,l,S,C,S',sim,ro,hm,p⟩:=h;cases hm
theorem yb1:PEz X E CA e zed:=λ_ _ _ _ _ _ h=>h.none.elim
theorem zi5:zgd X E CA rest zed:=λ_ _ _ _ _ _ h=>h.none.elim
theorem zhl (h1:zgd X E CA rest r) (h2:zgd X E CA rest q):zgd X E CA rest (zOr r q):=λpins s σ H D I h=>h.of_or.elim (h1 pins s σ H D I) (h2 pins s σ H D I)
theorem paF:PA X es (λ_ _ _=>False):=λ_ _ _ _ _ _ _ h=>h.elim
theorem yb2:PSs X rest (λ_ _ _=>False):=λ_ _ _ _ _ _ h=>h.elim
theorem pgF {tg:Expr}:PG X tg (λ_ _ _ _=>False):=λ_ _ _ _ _ _ _ _ _ h=>h.elim
theorem zri (h:PEz X E CA e r) (hs:starEach (e :: es) X.env=(false,eval e X.env) :: starEach es X.env:=by rfl):PAz X E CA (e :: es) r :=
 λpos pins s σ H Q I q=>zfm (t:=λ_ _ _=>False) h paF hs pos pins s σ H Q I q
theorem zlh {tg:Expr}(h:PEz X E CA e r) (hs:swapsWithSole [tg] e pos.line X.env=pure false:=by rfl) (hw:swappedStores [tg] e X.env=pure none:=by rfl)
  (h1:(assignEach [tg] X.env).map (·.2)=[assign tg X.env]:=by rfl):PSz X E CA (.Assign [tg] e pos) r:=λpins s σ H D I q=>zo4 (g:=λ_ _ _ _=>False) h pgF hs hw h1 pins s σ H D I q
theorem znb (h:PEz X E CA e r):PSz X E CA (.Return (some e) pos) r:=λpins s σ H D I q=>zo1 h pins s σ H D I q
theorem zrj (h:PEz X E CA e r) (hs:swapsWith e none pos.line X.env=pure false:=by rfl):PSz X E CA (.Expr e pos) r:=λpins s σ H D I q=>zo0 h hs pins s σ H D I q
theorem zdi (h:PSz X E CA st r):zgd X E CA (st :: rest) r:=λpins s σ H D I q=>zme (u:=λ_ _ _=>False) h yb2 pins s σ H D I q
theorem zfu (h:PS3 X st b) (h2:zgd X E CA rest r):zgd X E CA (st :: rest) (zcq b r):=λpins s σ H D I ⟨ρ,l,S,C,S',sim,ro,hm,p⟩=>zme h h2 pins s σ H D I (by
 obtain ⟨⟨g,l1,S1⟩,q1,hm⟩:=bnd hm
 refine ⟨ρ,l,S,g,l1,S1,sim,ro,q1,λρ1 H1 σ1 e1 s1 r1=>?_⟩
 cases g with
 | nx=>exact ⟨ρ1,l1,S1,C,S',s1,r1,hm,λρ2 H2 e2 s2=>p ρ2 H2 (e1.trans e2) s2⟩
 | _=>cases hm)
theorem zi6 {c:Expr}{a d:List Stmt}{mc:TM}(hc:PT3 X c mc) (ha:zgd X E CA a r) (hb:zgd X E CA d q):PSz X E CA (.If c a d pos) (zIf mc r q):=λpins s σ H D I ⟨ρ,l,S,C,S',sim,ro,hm,p⟩=>zo2 hc ha hb pins s σ H D I (by
 obtain ⟨⟨x,S1⟩,q1,hm⟩:=bnd hm
 refine ⟨ρ,l,S,x,S1,sim,ro,q1,λρ1 H1 e1 s1=>?_⟩
 cases x with
 | true=>exact zfo ⟨ρ1,l,S1,C,S',s1,ro.mono e1,hm,λρ2 H2 e2 s2=>p ρ2 H2 (e1.trans e2) s2⟩
 | false=>exact zfy ⟨ρ1,l,S1,C,S',s1,ro.mono e1,hm,λρ2 H2 e2 s2=>p ρ2 H2 (e1.trans e2) s2⟩)
end
def zby (P:Program) (w:World) (K:QFg) (mg:Str->Option Value) (base:Heap) (CA:Str->Addr) (x:Str) (k n:Nat) (rx:ZF):Prop :=
 ∃(f:Addr) (fd:FuncData) (ps:List Str),FnOk P w K mg base (CX1 P w) k f fd ps (spZ K CA n rx)/\mg x=some (.ref f)/\PySem.W.keepIn K (.ref f)=true/\Binds K fd ps []
section
variable {X:Cx}{E:XK}{CA:Str->Addr}{a:Expr}{es:List Expr}{mA:AM}{pos p:Pos}{x:Str}{k j n:Nat}{rx:ZF}
theorem zg7 (F:zby X.prog X.w X.K X.mg X.base CA x k n rx) (hx:zh0 (CX1 X.prog X.w) X E) (hr:Room j X.A) (hkj:k<=j) (hg:Gl X x)
  (ha:PA3 X (a :: es) mA) (hl:∀l S v S',mA l S=some (v,S')->v.length=n) (hdb:(x == ("__debug__":Str))=false:=by decide) (he:starEach (a :: es) X.env=(false,eval a X.env) :: starEach es X.env:=by rfl) (hpl:(backTo pos (starEach es X.env)).any (·.1)=false:=by rfl) :
  PEz X E CA (.Call (.Name x p) (a :: es) [] pos) (zb8 rx mA):=by
 obtain ⟨f,fd,ps,F,hm,hk,hb⟩:=F
 refine λpins s σ H Q I ⟨ρ,l,S,C,S',sim,ro,hz,p⟩=>zpm F (hr.mono hkj) hg hm hk hb .nil hx ha hdb he hpl pins s σ H Q I ?_
 obtain ⟨⟨ds,S1⟩,q1,hz⟩:=bnd hz
 refine ⟨ρ,l,S,ds,S1,sim,ro,q1,λρ1 H1 vs e1 s1 r1=>?_⟩
 show spZ X.K CA n rx (vs++[]) H1 Q E
 rw [List.append_nil]
 exact ⟨by rw [<-r1.length];exact hl _ _ _ _ q1,ρ1,ds,S1,C,S',s1,r1,hz,λρ2 H2 e2 s2=>p ρ2 H2 (e1.trans e2) s2⟩
end
noncomputable abbrev zc6:List Value:=[.type "ValueError",.type "Exception",.type "BaseException",.type "object"]
noncomputable def zg8 (K:QFg) (C:Addr):List Value:=match K.lookup C with
 | some ⟨_,_,.cls cd,_⟩=>cd.mro.tail
 | _=>[]
theorem zli {K:QFg}{h:Heap}{C:Addr}{bmB:List Value}{newId:String}(X:K.In h) (q:excIn K C bmB newId=true) :
  ∃N nm qn bs hdct sn sub ab col dd k0 k1 k2 k3 k5 mN,h.get? C=some (excClassObj nm qn C N bs (zg8 K C) hdct sn sub ab col dd k0 k1 k2 k3 k5 newId)/\h.Ns N mN/\mN "__init__" = none/\OwnTail h bmB (zg8 K C):=by
 unfold excIn at q
 split at q
 ·rename_i dd cd sl ho
  split at q
  ·rename_i C' bm k0 k1 k2 k3 n k5 hm hs
   simp only [Bool.and_eq_true,beq_iff_eq,Bool.not_eq_true'] at q
   obtain ⟨⟨⟨⟨⟨rfl,rfl⟩,hdel⟩,ht⟩,hok⟩,hni⟩:=q
   obtain ⟨nm,bs,mro,ns,qn,hd,sn,sub,ab,col,del⟩:=cd
   dsimp only at hm hdel hok hni
   subst hm hdel
   have hsl:sl = #[k0,k1,k2,k3,some (.builtin n),k5]:=by
    obtain ⟨l⟩:=sl
    simp only at hs
    rw [hs]
   subst hsl
   have et:zg8 K C' = bm:=by unfold zg8;rw [ho];rfl
   rw [et]
   exact ⟨ns,nm,qn,bs,hd,sn,sub,ab,col,dd,k0,k1,k2,k3,k5,_,X _ _ ho,.of_isNs (isNs_of_in X hok),nsMap_none_of_in X hok hni,tail_of_in X ht⟩
  ·cases q
 ·cases q
section
variable {P:Program}{w:World}{K:QFg}{mg:Str->Option Value}{base:Heap}{N:List Str}{qual:Str}{scope:Scope}{f:Addr}{cd:Value}{A:Around}{outer:List Env}{s:Shared}{H:Hp}{E:XK}{CA:Str->Addr}
theorem zh7 {x z:Str}{j:Nat}{np p1 cpos pos:Pos}(hg:Gl (zcj (CX1 P w) P w K mg base N qual scope f cd A outer s H E) x) (hm:mg x=some (.ref (CA x))) (q:excIn K (CA x) zc6 "ValueError.__new__" = true) (hd:(x == ("__debug__":Str))=false:=by decide) :
  PSz (zcj (CX1 P w) P w K mg base N qual scope f cd A outer s H E) E CA (.Raise (some (.Call (.Name x np) [.Constant (.str z) j p1] [] cpos)) none pos) (λ_ S=>some (x,S)):=by
 intro pins s1 σ H1 D I ⟨ρ,l,S,C,S',sim,ro,hz,p⟩
 cases hz
 have hE:=p ρ H1 (Ext.refl ..) sim
 obtain ⟨N',nm,qn,bs,hdct,sn,sub,ab,col,dd,k0,k1,k2,k3,k5,mN,hC,hN,hni,T⟩:=zli (h:=base) I.mod.kin q
 refine wpAny_Raise_call_subU (C:=CA x) (nm:=nm) (q:=qn) (N:=N') (bs:=bs) (bm:=zg8 K (CA x)) (hdct:=hdct) (sn:=sn) (sub:=sub) (ab:=ab) (col:=col) (dd:=dd) (k0:=k0) (k1:=k1) (k2:=k2) (k3:=k3) (k5:=k5)
  F.excBase_ValueError (by decide) F.excBase_ValueError (mN:=mN) (T.hasType F.excBase_ValueError.hasBase) (I.ok.hd rfl) rfl hni (zio I hg hm ⟨rfl,?_⟩ hd)
 refine Calls.evalArgs_plain (thn (zfm (X:=zcj (CX1 P w) P w K mg base N qual scope f cd A outer s H E) (e:=.Constant (.str z) j p1) zox zhz rfl cpos pins s1 σ H1 (λvs H2=>H2=H1/\vs.length=1) I ⟨rfl,rfl⟩) λus s2 ⟨vs,H2,I2,r,e2,hl⟩=>?_)
 subst e2
 refine ⟨rfl,by rw [<-r.length,hl];decide,I2.bk _ _ hC,hN.keeps I2.bk,T.keeps I2.bk,λh' e hm=>?_⟩
 have I3:=I2.kept (h':=h') (t':=s2.toks) hm.keeps
 have hne:=hm.new
 have na:s.heap.get? e=none:=by
  cases z:s.heap.get? e with
  | none=>rfl
  | some o=>obtain ⟨o',e'⟩:=I2.base.there e o z (by simp [zcj]);rw [hne] at e';cases e'
 have ha:H2 e=none:=by
  cases z:H2 e with
  | none=>rfl
  | some u=>obtain ⟨o',e'⟩:=ObjOk.there (I2.hok e u z);rw [hne] at e';cases e'
 obtain ⟨t,ht,_,_⟩:=hm.there
 exact yb0 (s1:={ s2 with heap:=h' }) I3 na ha ⟨_,_,_,ht,rfl,rfl,rfl,rfl⟩ hE
end
section
variable {M:Model}{A:Around}{E:Value->Shared->Prop}{s:Shared}{base:Heap}{env:Env}{outer l:List Env}{L e C T:Addr}{Q:Unit->Shared->Prop}
theorem zrk (hl:s.heap.FunFrames base l) {h':Heap}{a0:Value}(held:Heap.FlyingW (hideAll s.heap (e :: T :: frs l)) l e (.ref C) a0 h') (sm:s.heap.UpToSlots h') :
  ∃T',Tr (frs l) e T s.heap h'/\Fly h' e C T'/\(T' = T\/s.heap.get? T' = none):=by
 obtain ⟨k1,k2,k3,oe',vs',T',oT',ts',e1,⟨c1,z1⟩,d1,f1,n1,ne1,g1,d1',t1⟩:=held
 refine ⟨T',⟨λb o hb h2 h3 q=>k1 b o (hideAll_get _ q (by simp only [List.mem_cons,not_or];exact ⟨h2,h3,hb⟩)),λb o _ q hn=>sm b o q hn⟩,⟨oe',vs',oT',ts',a0,e1,c1,d1,z1,f1,ne1,g1,d1',t1⟩,?_⟩
 cases q:s.heap.get? T' with
 | none=>exact .inr rfl
 | some o =>
  refine .inl ?_
  by_cases hm:T'∈e :: T :: frs l
  ·rcases List.mem_cons.mp hm with z|z
   ·exact absurd z ne1
   ·rcases List.mem_cons.mp z with z|z
    ·exact z
    ·obtain ⟨_,o2,ho2,hnf⟩:=hl.mem z
     rw [q] at ho2;cases ho2
     obtain ⟨sl,hs⟩:=sm T' o q hnf
     rw [g1] at hs;cases hs
     exact absurd d1' (hnf ts')
  ·rw [hideAll_get _ q hm] at n1;cases n1
theorem zrl (hl:s.heap.FunFrames base l) (fl:Fly s.heap e C T):∃a0,Heap.FlyingW (hideAll s.heap (e :: T :: frs l)) l e (.ref C) a0 s.heap:=by
 obtain ⟨oe,vs,oT,ts,a0,he,hc,hd,h0,h1,hTe,hT,hdT,h3⟩:=fl
 exact ⟨a0,λb o q=>of_hideAll _ q,hideAll_none _ (by simp),funFrames_hide hl λv hv a ha=>List.mem_cons_of_mem _ (List.mem_cons_of_mem _ (zlg v hv a ha)),oe,vs,T,oT,ts,he,⟨hc,h0⟩,hd,h1,hideAll_none _ (by simp),hTe,hT,hdT,h3⟩
theorem yb3 (hfr:A.frames=some (env :: outer)) (hl:s.heap.FunFrames base (env :: outer)) (hf:env.frame=some L) (fl:Fly s.heap e C T)
  (hQ:∀h' T',Tr (frs (env :: outer)) e T s.heap h'->Fly h' e C T'->(T' = T\/s.heap.get? T' = none)->Q () { s with heap:=h' }) :
  wpAny M A (noteFrame (.ref e) env) (λ_ s₂=>wpAny M A (setFlight (.ref e) none) Q E s₂) E s:=by
 obtain ⟨a0,fw⟩:=zrl hl fl
 refine wpAny_looks_onW hfr hf fw λh4 held4 sm4=>?_
 refine wpAny_landsW (s:={ s with heap:=h4 }) held4 λh5 held sm5=>?_
 obtain ⟨T',t1,t2,t3⟩:=zrk hl held (sm4.trans sm5)
 exact hQ h5 T' t1 t2 t3
theorem yb4 (hl:s.heap.FunFrames base l) (fl:Fly s.heap e C T)
  (hQ:∀h' T',Tr (frs l) e T s.heap h'->Fly h' e C T'->(T' = T\/s.heap.get? T' = none)->Q () { s with heap:=h' }):wpAny M A (setFlight (.ref e) none) Q E s:=by
 obtain ⟨a0,fw⟩:=zrl hl fl
 refine lands_againW fw λh5 held sm5=>?_
 obtain ⟨T',t1,t2,t3⟩:=zrk hl held sm5
 exact hQ h5 T' t1 t2 t3
end
section
variable {X:Cx}{pins:List (Addr × Obj)}{σ:L2.St}{H:Hp}{s:Shared}{h':Heap}{a T:Addr}{t':Nat}
theorem Inv.tr (I:Inv X pins σ H s) (hex:X.ex=[]) (tr:Tr (frs X.stack) a T s.heap h') (na:X.s₀.heap.get? a=none) (nT:X.s₀.heap.get? T=none) (ha:H a=none) (hT:H T=none)
  (oL:X.env.locals≠a/\X.env.locals≠T) (oC:∀x c,X.env.cells.lookup x=some c->c≠a/\c≠T) (oP:∀p∈X.pn++pins,p.1≠a/\p.1≠T):Inv X pins σ H { s with heap:=h',toks:=t' }:=by
 have kp:∀b o,(∀vs,o.data≠.fields vs)->b≠a->b≠T->s.heap.get? b=some o->∃sl,h'.get? b=some { o with slots:=sl }:=λb o hn h1 h2 q=>by
  by_cases hb:b∈frs X.stack
  ·exact tr.slot b o hb q hn
  ·exact ⟨o.slots,tr.keep b o hb h1 h2 q⟩
 have hne:∀b o,X.s₀.heap.get? b=some o->b≠a/\b≠T/\b≠X.env.locals:=λb o q=>⟨λz=>(by rw [z,na] at q;cases q),λz=>(by rw [z,nT] at q;cases q),Nat.ne_of_lt (Nat.lt_of_lt_of_le (Heap.lt_size q) I.ok.above)⟩
 have nex:∀b,b ∉ X.ex:=λb=>by rw [hex];simp
 refine ⟨I.ok,I.os,I.bare,⟨λb o q n hb hx=>?_,λb o q n hb hx=>?_,I.base.free,λb o q hx=>?_,I.base.tups,I.base.frzs,I.base.tbls⟩,?_,λx c e=>?_,I.free,I.freeC,λp hp=>?_,λb u e=>?_,I.len⟩
 ·obtain ⟨h1,h2,h3⟩:=hne b o q
  exact tr.keep b o (λz=>(List.mem_cons.mp (I.stkSub b z)).elim h3 hb) h1 h2 (I.base.keep b o q n hb hx)
 ·obtain ⟨h1,h2,h3⟩:=hne b o q
  obtain ⟨sl,e⟩:=I.base.slot b o q n hb hx
  obtain ⟨_,o2,ho2,hnf⟩:=I.funs.mem hb
  rw [e] at ho2;cases ho2
  obtain ⟨sl',e'⟩:=kp b _ hnf h1 h2 e
  exact ⟨sl',e'⟩
 ·obtain ⟨h1,h2,h3⟩:=hne b o q
  obtain ⟨o',e⟩:=I.base.there b o q hx
  by_cases hb:b∈frs X.stack
  ·obtain ⟨_,o2,ho2,hnf⟩:=I.stack.mem hb
   rw [e] at ho2;cases ho2
   obtain ⟨sl,e'⟩:=tr.slot b _ hb e hnf
   exact ⟨_,e'⟩
  ·exact ⟨o',tr.keep b o' hb h1 h2 e⟩
 ·obtain ⟨m,⟨o,es,ep,ho,hd,hr⟩,hl⟩:=I.loc
  obtain ⟨sl,e'⟩:=kp _ o (λvs z=>by rw [hd] at z;cases z) oL.1 oL.2 ho
  refine ⟨m,⟨_,es,ep,e',hd,hr⟩,λi x v h1 h2 h3=>?_⟩
  obtain ⟨u,r,lk⟩:=hl i x v h1 h2 h3
  refine ⟨u,r,?_⟩
  rcases lk with lk|⟨k,c,hc,oc,hoc,hdc⟩
  ·exact .inl lk
  ·obtain ⟨sl2,e2⟩:=kp c oc (λvs z=>by rw [hdc] at z;cases z) (oC x c hc).1 (oC x c hc).2 hoc
   exact .inr ⟨k,c,hc,_,e2,hdc⟩
 ·obtain ⟨v,o,ho,hd⟩:=I.cell x c e
  obtain ⟨sl2,e2⟩:=kp c o (λvs z=>by rw [hd] at z;cases z) (oC x c e).1 (oC x c e).2 ho
  exact ⟨v,_,e2,hd⟩
 ·obtain ⟨e,n,ne,nf,d⟩:=I.pin p hp
  exact ⟨tr.keep _ _ (λz=>(List.mem_cons.mp (I.stkSub _ z)).elim ne nf) (oP p hp).1 (oP p hp).2 e,n,ne,nf,d⟩
 ·refine (I.hok b u e).stay (λc v hc q=>?_) (λ_ q=>q) λ_ _ q=>q
  have hcn:H c≠none:=by
   rcases hc with z|z
   ·rw [z,e];intro y;cases y
   ·rw [z];intro y;cases y
  exact tr.keep c v (λz=>hcn (I.stkFree c z)) (λz=>hcn (by rw [z];exact ha)) (λz=>hcn (by rw [z];exact hT)) q
end
section
variable {M:Model}{A:Around}{E:Value->Shared->Prop}{h:Heap}{g:Array GenState}{d:Drawn}{t:Nat}{os:OsState}
variable {nm q nm' q':Str}{C N D N':Addr}{bs bm bs' bm':List Value}{hdct hdct':Bool}{sn sn':List Str}{sub sub':List Value}{ab ab':Bool}{col col':Option Bool}{dd dd':Option Addr}{k0 k1 k2 k3 k5 k0' k1' k2' k3' k5':Option Value}{newId newId':String}
theorem yb5 {e:Addr}{oe:Obj}{Q:Bool->Shared->Prop}
  (hC:h.get? C=some (excClassObj nm q C N bs bm hdct sn sub ab col dd k0 k1 k2 k3 k5 newId)) (hD:h.get? D=some (excClassObj nm' q' D N' bs' bm' hdct' sn' sub' ab' col' dd' k0' k1' k2' k3' k5' newId'))
  (he:h.get? e=some oe) (hcls:oe.cls=.ref C) (hbase:bm'.contains (.type "BaseException")=true) (hin:(Value.ref C :: bm).contains (.ref D)=true)
  (hq:Q true ⟨h,g,d,t,os⟩):wpAny M A (excMatches (.ref e) (.ref D)) Q E ⟨h,g,d,t,os⟩:=by
 have hcB:(Value.ref D :: bm').contains (.type "BaseException")=true:=by rw [List.contains_cons,hbase,Bool.or_true]
 have f:=tc_notTuple
 unfold excMatches
 repeat (first|(with_reducible refine wpAny_loadPart_at he ?_;rw [hcls])|with_reducible refine wpAny_loadPart_at hD ?_|with_reducible refine wpAny_loadPart_at hC ?_|(with_reducible refine wpAny_isSubtype_exc hD ?_;rw [hcB])|(with_reducible refine wpAny_isSubtype_exc hC ?_;rw [hin])|wp_step)
 exact hq
end
noncomputable abbrev mk1 (X:Cx) (e:Value):Cx:={ X with A:=X.A.mark (some e),calm:=false,xe:=λ_ _=>False }
def phi (e C:Addr):Heap->Prop:=λh=>∃o,h.get? e=some o/\o.cls=.ref C
section
variable {X:Cx}{pins:List (Addr × Obj)}{σ:L2.St}{H:Hp}{s:Shared}{a C T:Addr}{e:Value}
theorem Inv.mk1 (I:Inv X pins σ H s):Inv (L3.mk1 X e) pins σ H s :=
 ⟨⟨I.ok.mod,I.ok.kind,I.ok.glob,I.ok.blt,I.ok.above,I.ok.inj,I.ok.has,I.ok.cab,λh=>absurd (show false=true from h) Bool.false_ne_true,I.ok.frames,I.ok.stk,I.ok.exf,I.ok.bs,I.ok.bsz,I.ok.noex,I.ok.exfs,I.ok.funs,I.ok.frf⟩,I.os,I.bare,I.base,I.loc,I.cell,I.free,I.freeC,I.pin,I.hok,I.len⟩
theorem Inv.unmk1 (ok:X.Ok) (I:Inv (L3.mk1 X e) pins σ H s):Inv X pins σ H s:=⟨ok,I.os,I.bare,I.base,I.loc,I.cell,I.free,I.freeC,I.pin,I.hok,I.len⟩
theorem Inv.track (I:Inv X pins σ H s) (ha:H a=none) (na:X.s₀.heap.get? a=none) (oL:X.env.locals≠a) (oC:∀x c,X.env.cells.lookup x=some c->c≠a) (oP:∀p∈X.pn++pins,p.1≠a)
  (he:phi a C s.heap):Inv X pins σ (upd H a (.ext (phi a C))) s:=by
 have up:∀b u,H b=some u->upd H a (.ext (phi a C)) b=some u:=λb u q=>by rw [za2 (zci q ha)];exact q
 refine ⟨I.ok,I.os,I.bare,⟨I.base.keep,I.base.slot,λb o q n hx=>?_,I.base.there,λb xs q=>up _ _ (I.base.tups b xs q),λb o u q=>up _ _ (I.base.frzs b o u q),λb ps q=>?_⟩,I.loc,I.cell,?_,λx c q=>?_,λp hp=>?_,λb u q=>?_,I.len⟩
 ·rw [za2 (λz=>by rw [z,na] at q;cases q)]
  exact I.base.free b o q n hx
 ·obtain ⟨more,z⟩:=I.base.tbls b ps q
  exact ⟨more,up _ _ z⟩
 ·rw [za2 oL];exact I.free
 ·rw [za2 (oC x c q)];exact I.freeC x c q
 ·obtain ⟨z,n,ne,nf,d⟩:=I.pin p hp
  exact ⟨z,by rw [za2 (oP p hp)];exact n,ne,nf,d⟩
 ·by_cases hb:b=a
  ·subst hb
   rw [zfe] at q;cases q
   obtain ⟨o,h1,h2⟩:=he
   exact ⟨⟨o,h1,h2⟩,⟨o,h1⟩,λh1 h2 ⟨o,z1,z2⟩ k=>⟨o,k o z1,z2⟩⟩
  ·rw [za2 hb] at q
   exact (I.hok b u q).stay (λc v _ z=>z) (λc z=>up _ _ z) λc xs z=>up _ _ z
theorem Inv.unbound {n:Str}{i:Nat}{h':Heap}{m:Str->Option Value}{v:Option Value}{t':Nat}(I:Inv X pins σ H s) (hN:X.N.Nodup) (hi:X.N[i]? = some n)
  (hm:s.heap.Ns X.env.locals m) (hn:h'.Ns X.env.locals (λx=>if x=n then v else m x)) (sb:Heap.SameBut X.env.locals s.heap h'):Inv X pins (σ.set i none) H { s with heap:=h',toks:=t' }:=by
 have kp:∀b o,b≠X.env.locals->s.heap.get? b=some o->h'.get? b=some o:=λb o hb q=>sb.extBut b o hb q
 have hL:∀b o,X.s₀.heap.get? b=some o->b≠X.env.locals:=λb o q=>Nat.ne_of_lt (Nat.lt_of_lt_of_le (Heap.lt_size q) I.ok.above)
 have nfs:X.env.locals ∉ X.fs:=λz=>by
  obtain ⟨_,o,ho,_⟩:=I.ok.funs.mem z
  exact hL _ o ho rfl
 refine ⟨I.ok,I.os,I.bare,⟨λb o q n hb hx=>kp b o (hL b o q) (I.base.keep b o q n hb hx),λb o q n hb hx=>?_,I.base.free,λb o q hx=>?_,I.base.tups,I.base.frzs,I.base.tbls⟩,⟨_,hn,λj x u h1 h2 h3=>?_⟩,λx c q=>?_,I.free,I.freeC,λp hp=>?_,λb u q=>?_,by rw [List.length_set];exact I.len⟩
 ·obtain ⟨sl,z⟩:=I.base.slot b o q n hb hx
  exact ⟨sl,kp b _ (hL b o q) z⟩
 ·obtain ⟨o',z⟩:=I.base.there b o q hx
  exact ⟨o',kp b _ (hL b o q) z⟩
 ·have hji:i≠j:=λz=>by
   subst z
   rw [List.getElem?_set_self (by have:=(qme hi).1;rw [I.len];exact this)] at h2
   cases h2
  rw [List.getElem?_set_ne hji] at h2
  have hxn:x≠n:=λz=>hji (zmc hN hi (by rw [h1,z]))
  obtain ⟨m0,hn0,hl⟩:=I.loc
  obtain ⟨w,r,lk⟩:=hl j x u h1 h2 h3
  have em:m0=m:=by
   obtain ⟨o1,es1,ep1,ho1,hd1,hk1,hf1⟩:=hn0
   obtain ⟨o2,es2,ep2,ho2,hd2,hk2,hf2⟩:=hm
   rw [ho1] at ho2;cases ho2
   rw [hd1] at hd2;cases hd2
   funext y;rw [<-hf1 y,<-hf2 y]
  subst em
  refine ⟨w,r,?_⟩
  rcases lk with ⟨k,z⟩|⟨k,c,hc,o,ho,hd⟩
  ·exact .inl ⟨k,by show (if x=n then v else m0 x)=some w;rw [if_neg hxn];exact z⟩
  ·exact .inr ⟨k,c,hc,o,kp c o (I.cne x c hc) ho,hd⟩
 ·obtain ⟨w,o,ho,hd⟩:=I.cell x c q
  exact ⟨w,o,kp c o (I.cne x c q) ho,hd⟩
 ·obtain ⟨z,n,ne,nf,d⟩:=I.pin p hp
  exact ⟨kp _ _ ne z,n,ne,nf,d⟩
 ·refine (I.hok b u q).stay (λc w hc z=>kp c w (λy=>?_) z) (λ_ z=>z) λ_ _ z=>z
  have hcn:H c≠none:=by
   rcases hc with y|y
   ·rw [y,q];intro z;cases z
   ·rw [y];intro z;cases z
  exact hcn (by rw [y];exact I.free)
end
def EH (X:Cx) (Dh:Addr) (tS:TS) (i:Nat) (D:Ends) (σ:L2.St):XK:=λc _ H'=>∃C,c=.ref C/\excIn X.K C zc6 "ValueError.__new__" = true/\(Value.ref C :: zg8 X.K C).contains (.ref Dh)=true /\
 ∀e,H' e=none->tS { nx:=λσ' H''=>D.nx (σ'.set i none) H'',rt:=λ_ _=>False } (σ.set i (some (.ref e))) (upd H' e (.ext (phi e C)))
section
variable {X:Cx}{pins:List (Addr × Obj)}{σ:L2.St}{tS:TS}{i:Nat}{Dh:Addr}{n hx:Str}{np hpos:Pos}{b0:Stmt}{suite:List Stmt}
theorem yb6 (hstk:X.stack=X.env :: X.outer) (hfm:X.env.frame=some X.env.locals) (hex:X.ex=[]) (hg:Gl X hx) (hm:X.mg hx=some (.ref Dh)) (qD:excIn X.K Dh zc6 "ValueError.__new__" = true)
  (hS:∀e,PSs (mk1 X e) (b0 :: suite) tS) (hN:X.N.Nodup) (hi:X.N[i]? = some n) (hln:X.env.scope.names.lookup n=some .local) (hd:(hx == ("__debug__":Str))=false)
  {H1:Hp} {s1 s2:Shared} {e:Value} {D:Ends} (I1:Inv X pins σ H1 s1) (cx:CX1 X.prog X.w X.stack H1 s1 (EH X Dh tS i D σ) e s2) :
  wpAny (model X.prog X.w) X.A (noteFrame e X.env) (λ_ s₂=>wpAny (model X.prog X.w) X.A (setFlight e none) (λ_ s₃ =>
   wpAny (model X.prog X.w) X.A (handleBy e X.env [.ExceptHandler (some (.Name hx np)) (some n) (b0 :: suite) hpos]) (SP X pins D) X.xe s₃) X.xe s₂) X.xe s2:=by
 obtain ⟨a,C,T,H',rfl,ho,hgn,un,hok,na,nT,fl,ha,hT,hE⟩:=cx
 obtain ⟨C',hCe,qC,hin,hE⟩:=hE
 cases hCe
 have I2:Inv X pins σ H' s2:=I1.call' (s':=s2) (ch:=[]) ho un hok hgn (λb hb=>by cases hb)
 have up:∀b,s1.heap.get? b=none->X.s₀.heap.get? b=none:=λb q=>by
  cases z:X.s₀.heap.get? b with
  | none=>rfl
  | some o=>obtain ⟨o',e⟩:=I1.base.there b o z (by rw [hex];simp);rw [q] at e;cases e
 have out:∀b,s1.heap.get? b=none->X.env.locals≠b/\(∀x c,X.env.cells.lookup x=some c->c≠b)/\∀p∈X.pn++pins,p.1≠b:=λb q=>by
  refine ⟨λz=>?_,λx c hc z=>?_,λp hp z=>?_⟩
  ·obtain ⟨m,⟨o,_,_,h1,_⟩,_⟩:=I1.loc
   rw [z,q] at h1;cases h1
  ·obtain ⟨v,o,h1,_⟩:=I1.cell x c hc
   rw [z,q] at h1;cases h1
  ·have:=(I1.pin p hp).1
   rw [z,q] at this;cases this
 have stk:∀{σ':L2.St} {H'':Hp} {s':Shared},Inv X pins σ' H'' s'->s'.heap.FunFrames X.base (X.env :: X.outer):=λI=>by have:=I.stack;rw [hstk] at this;exact this
 have oa:=out a na
 have oT:=out T nT
 refine yb3 (L:=X.env.locals) (by rw [I2.ok.frames,hstk]) (stk I2) hfm fl λh3 T3 tr3 fl3 hT3=>?_
 rw [<-hstk] at tr3
 have I3:Inv X pins σ H' { s2 with heap:=h3 }:=Inv.tr (t':=s2.toks) I2 hex tr3 (up a na) (up T nT) ha hT ⟨oa.1,oT.1⟩ (λx c q=>⟨oa.2.1 x c q,oT.2.1 x c q⟩) (λp q=>⟨oa.2.2 p q,oT.2.2 p q⟩)
 have nT3:s1.heap.get? T3=none:=by
  rcases hT3 with rfl|q
  ·exact nT
  ·cases z:s1.heap.get? T3 with
   | none=>rfl
   | some o=>obtain ⟨o',e⟩:=un.there T3 o z (by simp);rw [q] at e;cases e
 have hT3':H' T3=none:=by
  rcases hT3 with rfl|q
  ·exact hT
  ·cases z:H' T3 with
   | none=>rfl
   | some u=>obtain ⟨o',e⟩:=ObjOk.there (hok T3 u z);rw [q] at e;cases e
 have oT3:=out T3 nT3
 obtain ⟨N1,nm1,qn1,bs1,hdct1,sn1,sub1,ab1,col1,dd1,k01,k11,k21,k31,k51,mN1,hC1,_,_,_⟩:=zli (h:=h3) I3.kIn qC
 obtain ⟨N2,nm2,qn2,bs2,hdct2,sn2,sub2,ab2,col2,dd2,k02,k12,k22,k32,k52,mN2,hC2,_,_,TL2⟩:=zli (h:=h3) I3.kIn qD
 obtain ⟨oe,vs,oT',ts,a0,he,hcl,_⟩:=id fl3
 refine wpAny_handleBy_cons (codeAny_handlers_test (Calls.Name_function_global I3.ok.kind hg (Calls.loadGlobal_global (by rw [I3.ok.glob];exact I3.mod.glob.keeps I3.bk) hm ?_) hd)) (by intro q;cases q)
 refine yb5 hC1 hC2 he hcl (TL2.hasType F.excBase_ValueError.hasBase) hin ?_
 refine codeAny_handlers_suite_as ?_
 refine yb4 (s:={ s2 with heap:=h3 }) (stk I3) fl3 λh4 T4 tr4 fl4 hT4=>?_
 rw [<-hstk] at tr4
 have I4:Inv X pins σ H' { s2 with heap:=h4 }:=Inv.tr (s:={ s2 with heap:=h3 }) (t':=s2.toks) I3 hex tr4 (up a na) (up T3 nT3) ha hT3' ⟨oa.1,oT3.1⟩ (λx c q=>⟨oa.2.1 x c q,oT3.2.1 x c q⟩) (λp q=>⟨oa.2.2 p q,oT3.2.2 p q⟩)
 obtain ⟨oe4,vs4,oT4,ts4,a04,he4,hcl4,_⟩:=id fl4
 have I5:=Inv.track (C:=C) I4 ha (up a na) oa.1 oa.2.1 oa.2.2 ⟨oe4,he4,hcl4⟩
 refine zmd (v:=.ref a) I5 hN hi (.inl hln) rfl (λs6 I6=>?_) (.inr hln)
 refine wpAny_mono (hS (.ref a) pins s6 (σ.set i (some (.ref a))) _ _ (Inv.mk1 I6) (hE a ha)) (λf s7 hf=>?_) λ_ _ z=>False.elim z
 cases f with
 | next =>
  obtain ⟨σ',H'',I7,q7⟩:=hf
  have I7:=Inv.unmk1 I6.ok I7
  obtain ⟨m,hn,_⟩:=I7.loc
  show wpAny _ X.A (do bindName X.env n .none;unbindBehindTheSuite X.env n hpos) _ _ s7
  exact wpAny_nameGoes_keeps hln hn (by rw [I7.ok.kind];rfl) λh8 v hn8 sb8=>⟨σ'.set i none,H'',Inv.unbound I7 hN hi hn hn8 sb8,q7⟩
 | ret v=>obtain ⟨_,_,_,_,_,q⟩:=hf;exact q.elim
 | brk=>obtain ⟨_,_,_,q⟩:=hf;exact q.elim
 | cont=>obtain ⟨_,_,_,q⟩:=hf;exact q.elim
end
noncomputable def zge (k:Nat) (r:ZM):ZF:=λds S=>r (ds.map some++List.replicate (k-ds.length) none) S
theorem yb7 {P:Program}{w:World}{K:QFg}{mg:Str->Option Value}{base:Heap}{CA:Str->Addr}{x:Str}{st:Stmt}{f:Addr}{fd:FuncData}{N ps:List Str}{k n:Nat}{r:ZM}(F:Fun K x x st f fd) (hm:mg x=some (.ref f)) (S:FnScope N ps (zas st)) (hn:ps.length=n) (hb:Binds K fd ps [])
  (hbody:∀(cdv:Value),PySem.W.codeIn K cdv x=true->∀(A:Around) (outer:List Env) (s:Shared) (H:Hp) (E:XK),Room k (A.deeper (envOfC x (zas st) s.heap.objs.size f cdv)) ->
   zgd (zcj (CX1 P w) P w K mg base N x (zas st) f cdv A outer s H E) E CA (zfn st) r):zby P w K mg base CA x (k+1) n (zge N.length r):=by
 refine ⟨f,fd,ps,?_,hm,F.kp,hb⟩
 obtain ⟨oc,od,kV,doc,pm,an,cdv,ct,osl,rfl,lk,hcd⟩:=F.ex
 refine zps lk hcd S (λvs H Q E h=>by rw [h.1,hn]) λA outer s H vs Q E hr h=>?_
 obtain ⟨hl,ρ,ds,S0,C,S',sim,rd,hz,p⟩:=h
 exact ⟨_,hbody cdv hcd A outer s H E hr,ρ,_,S0,C,S',sim,rd.locals N,hz,p⟩
section
variable {X:Cx}{E:XK}{CA:Str->Addr}{a:Expr}{es:List Expr}{mA:AM}{cpos p apos py tpos:Pos}{x y:Str}{k j n:Nat}{rx:ZF}
theorem yb8 (F:zby X.prog X.w X.K X.mg X.base CA x k n rx) (hxe:∀e s,X.xe e s->False) (hr:Room j X.A) (hkj:k<=j) (hg:Gl X x)
  (ha:PA3 X (a :: es) mA) (hl:∀l S v S',mA l S=some (v,S')->v.length=n) (hdb:(x == ("__debug__":Str))=false) (he:starEach (a :: es) X.env=(false,eval a X.env) :: starEach es X.env) (hpl:(backTo cpos (starEach es X.env)).any (·.1)=false)
  (hs:swapsWithSole [.Name y py] (.Call (.Name x p) (a :: es) [] cpos) apos.line X.env=pure false) (hw:swappedStores [.Name y py] (.Call (.Name x p) (a :: es) [] cpos) X.env=pure none)
  {pins:List (Addr × Obj)} {s:Shared} {σ:L2.St} {H:Hp} {Q:Flow->Shared->Prop} (I:Inv X pins σ H s) (h:Rz X.K E CA (zb8 rx mA) σ H) :
  wpAny (model X.prog X.w) X.A (execs [.Assign [.Name y py] (.Call (.Name x p) (a :: es) [] cpos) apos] X.env) Q (λe s'=>∃H1 s1,Inv X pins σ H1 s1/\CX1 X.prog X.w X.stack H1 s1 E e s') s:=by
 obtain ⟨f,fd,ps,F,hm,hk,hb⟩:=F
 obtain ⟨ρ,l,S,C,S',sim,ro,hz,pz⟩:=h
 obtain ⟨⟨ds,S1⟩,q1,hz⟩:=bnd hz
 refine wpAny_execs_cons (wpAny_mono (Q:=λ_ _=>False) ?_ (λ_ _ z=>z.elim) λ_ _ z=>z)
 refine wpAny_Assign_stores (wpAny_mono (Q:=λ_ _=>False) ?_ (λ_ _ z=>z.elim) λ_ _ z=>z) hs hw
 refine wpAny_Call_Name_kw (zio I hg hm ?_ hdb)
 refine PySem.W.callWith_K (h₀:=X.base) I.ok.mod.kin hk (wpAny_mono (ha cpos pins s σ H (λvs H1=>spZ X.K CA n rx vs H1 (λ_ _=>False) E) I ⟨ρ,l,S,ds,S1,sim,ro,q1,λρ1 H1 vs e1 s1 r1=>⟨by rw [<-r1.length];exact hl _ _ _ _ q1,ρ1,ds,S1,C,S',s1,r1,hz,λρ2 H2 e2 s2=>pz ρ2 H2 (e1.trans e2) s2⟩⟩) (λus s1 ⟨vs,H1,I1,r,q⟩=>⟨I1.kIn,?_⟩) λ_ _ z=>(hxe _ _ z).elim) he hpl
 have r2:Vals (vs++[]) (us++[]):=by rw [List.append_nil,List.append_nil];exact r
 have hlen:(us++[]).length=ps.length:=by rw [List.append_nil,<-r.length];exact F.len _ _ _ _ q
 refine wpAny_call (codeAny_mono (F.run X.A X.stack s1 H1 ⟨us,[]⟩ (us++[]) (vs++[]) (λ_ _=>False) E (hr.mono hkj) I1.env0 (hb s1 us I1.kIn hlen) r2 (by rw [List.append_nil];exact q)) λres s' hq=>?_)
 cases res with
 | error e=>exact ⟨H1,s1,I1,hq⟩
 | ok fl =>
  cases fl with
  | ret u=>obtain ⟨_,_,_,_,_,_,_,z⟩:=hq;exact z.elim
  | next=>exact False.elim hq
  | brk=>exact False.elim hq
  | cont=>exact False.elim hq
variable {tN tS:TS}{i:Nat}{Dh:Addr}{nm hx:Str}{np hpos:Pos}{b0:Stmt}{suite:List Stmt}
end
theorem RO.unset {ρ:List Addr}{H:Hp}{l:Lo}{σ:L2.St}(r:RO ρ H l σ) (i:Nat):RO ρ H (l.set i none) (σ.set i none):=by
 refine ⟨by rw [List.length_set,List.length_set];exact r.len,λj d h=>?_⟩
 by_cases e:i=j
 ·subst e
  have hl:i<l.length:=by
   have:=(qme h).1
   rw [List.length_set] at this;exact this
  rw [List.getElem?_set_self hl] at h;cases h
 ·rw [List.getElem?_set_ne e] at h ⊢
  exact r.get j d h
noncomputable def zhm (i:Nat) (ok:Str->Bool) (mN:SM) (r:ZM) (mS:SM):SM:=λl S=>match mN l S with
 | some q=>some q
 | none=>match r l S with
  | some (c,S')=>if ok c=true then (mS (l.set i (some (.ref S'.length))) (S'++[.exc c])).bind λq=>(match q.1 with
   | .nx=>some (.nx,q.2.1.set i none,q.2.2)
   | _=>none) else none
  | none=>none
section
variable {X:Cx}{E:XK}{CA:Str->Addr}{a:Expr}{es:List Expr}{mA:AM}{cpos p apos py tpos:Pos}{x y:Str}{k j n:Nat}{rx:ZF}{i:Nat}{Dh:Addr}{nm hx:Str}{np hpos:Pos}{b0:Stmt}{suite:List Stmt}{mN mS:SM}{ok:Str->Bool}
end
open PySem.Builtin PySem.Builtin.ObjectAttr PySem.Builtin.Getset_descriptor
theorem zrm {a C:Addr}(M:Model) (h:Heap) (p:phi a C h):Looks M h (typeOf (.ref a)) (.ref C):=by
 obtain ⟨o,h1,h2⟩:=p
 exact h2 ▸ (Looks.ld h1).andThen .now
section
variable {prog:Program}{w:World}{A:Around}{E:Value->Shared->Prop}{h:Heap}{g:Array GenState}{d:Drawn}{t:Nat}{os:OsState}{a:Addr}{o:Obj}{K:QFg}{C:Addr}
theorem yb9 {tp:Value}{R:Result->Shared->Prop}{s:Shared}(X:K.In s.heap) (p:phi a C s.heap) (hm:mroIn K C (.type "object")=some true) (hq:R (.ok (.ret (.ref C))) s) :
  codeAny (model prog w) A (.call (.builtin "getset_descriptor.__get__") ⟨[.builtin "object.__class__",.ref a,tp],[]⟩) R s:=by
 obtain ⟨hh,g,dr,t,os⟩:=s
 have L0:=zrm (model prog w) hh p
 have L1:=looks_mroIn (M:=model prog w) X hm
 refine codeAny_call_builtin KF.slot_gs.plain KF.entry_gs (KF.slot_gs.check _ _ _ _ _ _ _ _ KF.type_class (KF.args_gs _ _ _) ?_)
 unfold Builtin.«getset_descriptor.__get__» descrGet
 rw [dga_obj]
 refine qwb (qwp ?_)
 unfold descrGetter descrCheckInstance descrNameAndClass isInstance
 simp only [KF.owner_class]
 repeat lk
 refine ⟨Code.quiet_builtin _ (by decide +kernel),codeAny_builtin KF.entry_class ?_⟩
 unfold Builtin.«object.__class__» shownTypeOf
 repeat lk
 exact hq
theorem yca {tk:Tok}{Q:Fin->Shared->Prop}(X:K.In h) (hx:h.get? a=some o) (hc:o.cls=.ref C) (hm:mroIn K C (.type "object")=some true) (hf:findIn K (.ref C) "__class__" = some (some (.builtin "object.__class__")))
  (hq:Q (.done (.ret (.ref C))) ⟨h,g,d,t,os⟩):wpAny (model prog w) A (Builtin.«object.__getattribute__» ⟨[.ref a,.str "__class__" tk],[]⟩) Q E ⟨h,g,d,t,os⟩:=by
 have hT5:(⟨h,g,d,t,os⟩:Shared).TypeIs (.builtin "object.__class__") "getset_descriptor":=F.typeOf_object_class
 have f5:=F.typeOf_object_class
 have f6:=F.slot_gs_get.lookup
 have f7:=F.slot_gs_set.lookup
 have L:=looks_findIn (M:=model prog w) X hf
 repeat (any_goals (first|assumption|(with_reducible refine wpAny_loadPart_at hx ?_;rw [hc])|with_reducible refine L.at ?_|wp_step))
 refine yb9 (s:=⟨h,g,d,t,os⟩) X ⟨o,hx,hc⟩ hm ?_
 repeat (any_goals (first|assumption|wp_step))
theorem ycb {M:Model}{nameV:Value}{Q:Unit->Shared->Prop}{nm q:Str}{N:Addr}{bs bm:List Value}{hdct:Bool}{sn:List Str}{sub:List Value}{ab:Bool}{col:Option Bool}{dd:Option Addr}{k0 k1 k2 k3 k5:Option Value}{newId:String}
  (hC:h.get? C=some (excClassObj nm q C N bs bm hdct sn sub ab col dd k0 k1 k2 k3 k5 newId)) (T:OwnTail h zc6 bm)
  (hx:h.get? a=some o) (hc:o.cls=.ref C) (hq:Q () ⟨h,g,d,t,os⟩):wpAny M A (checkBuiltinCall "BaseException.__getattribute__" ⟨[.ref a,nameV],[]⟩) Q E ⟨h,g,d,t,os⟩:=by
 have hk:builtinKind "BaseException.__getattribute__" = some .slot:=by decide +kernel
 have hsplit:splitId "BaseException.__getattribute__" = some ("BaseException","__getattribute__"):=by decide +kernel
 have hcB:(Value.ref C :: bm).contains (.type "BaseException")=true:=by rw [List.contains_cons,T.hasType F.excBase_ValueError.hasBase];rfl
 have ha:=F.args_bexc_ga (.ref a) nameV
 simp only [checkBuiltinCall,hk,hsplit]
 refine qwb ?_
 ·unfold isInstance
  repeat (first|(with_reducible refine wpAny_loadPart_at hx ?_;rw [hc])|(with_reducible refine wpAny_isSubtype_exc hC ?_;rw [hcB])|wp_step)
  exact hq
end
structure ExcQ (K:QFg) (C:Addr):Prop where
 exc:excIn K C zc6 "ValueError.__new__" = true
 obj:mroIn K C (.type "object")=some true
 cls:findIn K (.ref C) "__class__" = some (some (.builtin "object.__class__"))
 ga:findIn K (.ref C) "__getattribute__" = some (some (.builtin "BaseException.__getattribute__"))
 gr:findIn K (.ref C) "__getattr__" = some none
 is:(clsIn K C).isSome=true
section
variable {prog:Program}{w:World}{A:Around}{E:Value->Shared->Prop}{h:Heap}{g:Array GenState}{d:Drawn}{t:Nat}{os:OsState}{a:Addr}{o:Obj}{K:QFg}{C:Addr}
theorem ycc {tk:Tok}{R:Result->Shared->Prop}(X:K.In h) (c:ExcQ K C) (hx:h.get? a=some o) (hc:o.cls=.ref C) (hq:R (.ok (.ret (.ref C))) ⟨h,g,d,t,os⟩) :
  codeAny (model prog w) A (.call (.builtin "BaseException.__getattribute__") ⟨[.ref a,.str "__class__" tk],[]⟩) R ⟨h,g,d,t,os⟩:=by
 obtain ⟨N,nm,qn,bs,hdct,sn,sub,ab,col,dd,k0,k1,k2,k3,k5,mN,hC,hN,hni,T⟩:=zli X c.exc
 exact codeAny_call_builtin F.attrBase_ValueError.ga.plain F.entry_bexc_ga (ycb hC T hx hc (yca X hx hc c.obj c.cls hq))
theorem ycd {tk:Tok}{Q:Value->Shared->Prop}(X:K.In h) (c:ExcQ K C) (hx:h.get? a=some o) (hc:o.cls=.ref C) (hq:Q (.ref C) ⟨h,g,d,t,os⟩) :
  wpAny (model prog w) A (getAttrBy (.ref a) (.str "__class__" tk) false) Q E ⟨h,g,d,t,os⟩:=by
 have f3:=F.attrBase_ValueError.ga.bind (.ref a)
 have hx2:(Value.builtin "BaseException.__getattribute__" == Value.builtin "object.__getattribute__")=false:=by decide +kernel
 have hx1:(onTheHeap (Value.ref C) && Value.builtin "BaseException.__getattribute__" == Value.builtin "object.__getattribute__")=false:=by rw [hx2];rfl
 have L1:=looks_findIn (M:=model prog w) X c.ga
 have L2:=looks_findIn (M:=model prog w) X c.gr
 repeat (any_goals (first|assumption|(with_reducible refine wpAny_loadPart_at hx ?_;rw [hc])|with_reducible refine L1.at ?_|with_reducible refine L2.at ?_|wp_step))
 refine ycc X c hx hc ?_
 repeat (any_goals (first|assumption|wp_step))
theorem yce {Q:Option Value->Shared->Prop}{s:Shared}(X:K.In s.heap) (c:ExcQ K C) (p:phi a C s.heap) (hq:Q (some (.ref C)) { s with toks:=s.toks+1 }) :
  wpAny (model prog w) A (getAttr? (.ref a) "__class__") Q E s:=by
 obtain ⟨hh,g,d,t,os⟩:=s
 obtain ⟨o,hx,hc⟩:=p
 unfold getAttr? getAttrBy?
 repeat (any_goals (first|assumption|with_reducible apply ycd X c hx hc|wp_step))
theorem zrn (c:ExcQ K C):KitX K (.ref a) (.ref C) (phi a C) where
 ty:=λM h _ p=>zrm M h p
 it:=λ_ _ X _=>by
  obtain ⟨cdD,hcD⟩:=Option.isSome_iff_exists.mp c.is
  unfold clsIn at hcD
  split at hcD
  ·rename_i c' d' cd' sl' ho
   intro A' Q' E' s' k q
   unfold isType loadHead
   exact qwb (wpAny_loadPart (k _ _ (X _ _ ho)) (qwp q))
  ·cases hcD
 ne:=λh tp dd its n sl X htp=>by
  obtain ⟨cdD,hcD⟩:=Option.isSome_iff_exists.mp c.is
  refine Bool.eq_false_iff.mpr λq=>?_
  have e:C=tp:=Value.ref.inj (beq_iff_eq.mp q)
  subst e
  unfold clsIn at hcD
  split at hcD
  ·rename_i c' d' cd' sl' ho
   have z:=(X _ _ ho).symm.trans htp
   cases z
  ·cases hcD
 ca:=λX p k=>yce X c p k
end
def PN (X:Cx) (es:List Expr) (Cs:List Addr):Prop:=PA X es (λ_ H Q=>Q (Cs.map V.ref) H)
section
variable {X:Cx}{es:List Expr}{Cs:List Addr}{y:Str}{C:Addr}{p:Pos}
theorem zro (hg:Gl X y) (hm:X.mg y=some (.ref C)) (hd:(y == ("__debug__":Str))=false:=by decide):PE X (.Name y p) (tC (.ref C)):=λ_ _ _ H _ I h=>zio I hg hm ⟨.ref C,H,I,rfl,h⟩ hd
theorem zrp:PN X [] []:=λpos pins s σ H Q I h=>zhz pos pins s σ H Q I h
theorem zgf (hg:Gl X y) (hm:X.mg y=some (.ref C)) (h:PN X es Cs) (hd:(y == ("__debug__":Str))=false:=by decide) (hs:starEach (.Name y p :: es) X.env=(false,eval (.Name y p) X.env) :: starEach es X.env:=by rfl):PN X (.Name y p :: es) (C :: Cs) :=
 λpos pins s σ H Q I q=>zfm (zro hg hm hd) h hs pos pins s σ H Q I q
theorem zrq:∀{Cs:List Addr}{us:List Value},Vals (Cs.map V.ref) us->us=Cs.map Value.ref
 | [],us,h=>by cases h;rfl
 | C :: Cs,us,h=>by
  cases h with
  | cons r q =>
   rw [zrq q]
   cases (show _=Value.ref C from r)
   rfl
def ycf (K:QFg):List V->Hp->VK->Prop:=λxs H Q=>∃(a tp C:Addr) (Cs:List Addr) (b:Bool),xs=[.ref a,.ref tp]/\H a=some (.ext (phi a C))/\H tp=some (.tup (Cs.map V.ref))/\ExcQ K C/\kitAny K (.ref C) (Cs.map Value.ref)=some b/\Q (.bl b) H
theorem ycg:CallR X (.builtin "isinstance") (ycf X.K):=by
 intro pins s σ H xs us Q I r h
 obtain ⟨a,tp,C,Cs,b,rfl,ha,ht,hc,hk,q⟩:=h
 obtain ⟨u1,u2,rfl,r1,r2⟩:=r.two
 cases (show u1=Value.ref a from r1)
 cases (show u2=Value.ref tp from r2)
 obtain ⟨ph,_⟩:=(show ObjOk X.prog X.w H s.heap a (.ext (phi a C)) from I.hok a _ ha)
 obtain ⟨its,rv,pt,_⟩:=I.tuple (SqT.of (K:=X.K) ht)
 have e:=zrq rv
 subst e
 obtain ⟨ob,h1,h2,h3⟩:=pt
 obtain ⟨n,h3⟩:=h3
 obtain ⟨c,dd,dt,sl⟩:=ob
 cases h2;cases h3
 exact kia_tup (zrn hc) I.kIn ph h1 hk (λz=>nomatch z) λtk=>⟨.bl b,H,I.tok tk,rfl,q⟩
def ych (K:QFg) (c:V) (cv:Value):List V->Hp->VK->Prop:=λxs H Q=>∃(a C:Addr) (b:Bool),xs=[.ref a,c]/\H a=some (.ext (phi a C))/\ExcQ K C/\kitOne K (.ref C) cv=some b/\Q (.bl b) H
theorem zrr {c:V}{cv:Value}(hcv:∀u,RelV c u->u=cv):CallR X (.builtin "isinstance") (ych X.K c cv):=by
 intro pins s σ H xs us Q I r h
 obtain ⟨a,C,b,rfl,ha,hc,hk,q⟩:=h
 obtain ⟨u1,u2,rfl,r1,r2⟩:=r.two
 cases (show u1=Value.ref a from r1)
 cases hcv u2 r2
 obtain ⟨ph,_⟩:=(show ObjOk X.prog X.w H s.heap a (.ext (phi a C)) from I.hok a _ ha)
 exact kia_one (zrn hc) I.kIn ph hk (λz=>nomatch z) λtk=>⟨.bl b,H,I.tok tk,rfl,q⟩
end
noncomputable def zd6 (tab:List (Str × Bool)):D->Sto->Option (D × Sto):=λx S=>match x with
 | .ref n=>(match S[n]? with
  | some (.exc c)=>(tab.lookup c).bind λb=>some (.bl b,S)
  | _=>none)
 | _=>none
theorem znc {K:QFg}{ρ:List Addr}{S:Sto}{H:Hp}{x v:D}{S':Sto}{x':V}{tab:List (Str × Bool)}(sim:Sim K ρ S H) (r:RD ρ H x x') (h:zd6 tab x S=some (v,S')) :
  S' = S/\∃a c C b,x' = .ref a/\tab.lookup c=some b/\v=.bl b/\nsIn K mainGlobals c=some (some (.ref C))/\H a=some (.ext (phi a C)):=by
 unfold zd6 at h
 split at h
 ·split at h
  ·rename_i n S c e
   obtain ⟨b,hb,h⟩:=bnd h
   cases h
   cases r with
   | @ref _ a hn =>
    obtain ⟨C,hc,hH⟩:=sim.at' n a _ hn e
    exact ⟨rfl,a,c,C,b,rfl,hb,rfl,hc,hH⟩
  ·cases h
 ·cases h
section
variable {X:Cx}{a:Expr}{ma:EM}{pos p tp p2:Pos}{es:List Expr}{Cs:List Addr}{x1:Nat}{tab:List (Str × Bool)}{y:Str}{D0:Addr}
theorem znd:bootBuiltins "isinstance" = some (.builtin "isinstance"):=by decide +kernel
theorem zrs (hg:Gl X "isinstance") (hm:X.mg "isinstance" = none) (ha:PE3 X a ma) (hn:PN X es Cs) (hl:Cs.length<=sizeLine)
  (hk:∀c b C,tab.lookup c=some b->nsIn X.K mainGlobals c=some (some (.ref C))->ExcQ X.K C/\kitAny X.K (.ref C) (Cs.map Value.ref)=some b)
  (he:starEach (a :: [.Tuple es x1 tp]) X.env=(false,eval a X.env) :: starEach [.Tuple es x1 tp] X.env:=by rfl) (he2:starEach [.Tuple es x1 tp] X.env=(false,eval (.Tuple es x1 tp) X.env) :: starEach [] X.env:=by rfl) (hpl:(backTo pos (starEach [.Tuple es x1 tp] X.env)).any (·.1)=false:=by rfl) :
  PE3 X (.Call (.Name "isinstance" p) [a,.Tuple es x1 tp] [] pos) (eUn (zd6 tab) ma) :=
 PE.imp (zjg ycg hg hm znd (zfm ha (zfm (zpj hn) zhz he2) he) (by decide) (by decide) he hpl) λσ H Q hx1_=>by
  obtain ⟨ρ,l,S,v,S',sim,ro,hq,pz⟩:=hx1_
  obtain ⟨⟨x,S1⟩,h1,hq⟩:=bnd hq
  refine ⟨ρ,l,S,x,S1,sim,ro,h1,λρ1 H1 x' e1 s1 r1=>?_⟩
  obtain ⟨rfl,a',c,C,b,rfl,hb,rfl,hc,hH⟩:=znc s1 r1 hq
  obtain ⟨q1,q2⟩:=hk c b C hb hc
  refine ⟨by rw [qlm];exact hl,λt ht=>?_⟩
  refine ⟨a',t,C,Cs,b,rfl,?_,zfe,q1,q2,?_⟩
  ·rw [za2 (zci hH ht)];exact hH
  ·exact pz ρ1 _ _ (e1.trans (zff ht)) (s1.laid ht) (.bl b)
theorem yci (hg:Gl X "isinstance") (hm:X.mg "isinstance" = none) (ha:PE3 X a ma) (hgy:Gl X y) (hmy:X.mg y=some (.ref D0))
  (hk:∀c b C,tab.lookup c=some b->nsIn X.K mainGlobals c=some (some (.ref C))->ExcQ X.K C/\kitOne X.K (.ref C) (.ref D0)=some b) (hd:(y == ("__debug__":Str))=false:=by decide)
  (he:starEach (a :: [.Name y p2]) X.env=(false,eval a X.env) :: starEach [.Name y p2] X.env:=by rfl) (he2:starEach [.Name y p2] X.env=(false,eval (.Name y p2) X.env) :: starEach [] X.env:=by rfl) (hpl:(backTo pos (starEach [.Name y p2] X.env)).any (·.1)=false:=by rfl) :
  PE3 X (.Call (.Name "isinstance" p) [a,.Name y p2] [] pos) (eUn (zd6 tab) ma) :=
 PE.imp (zjg (zrr (c:=.ref D0) (cv:=.ref D0) λu h=>h) hg hm znd (zfm ha (zfm (zro hgy hmy hd) zhz he2) he) (by decide) (by decide) he hpl) λσ H Q hx2_=>by
  obtain ⟨ρ,l,S,v,S',sim,ro,hq,pz⟩:=hx2_
  obtain ⟨⟨x,S1⟩,h1,hq⟩:=bnd hq
  refine ⟨ρ,l,S,x,S1,sim,ro,h1,λρ1 H1 x' e1 s1 r1=>?_⟩
  obtain ⟨rfl,a',c,C,b,rfl,hb,rfl,hc,hH⟩:=znc s1 r1 hq
  obtain ⟨q1,q2⟩:=hk c b C hb hc
  exact ⟨a',C,b,rfl,hH,q1,q2,pz ρ1 _ _ e1 s1 (.bl b)⟩
theorem ycj {U:String}(hg:Gl X "isinstance") (hm:X.mg "isinstance" = none) (ha:PE3 X a ma) (hgy:Gl X y) (hmy:X.mg y=none) (hv:bootBuiltins y=some (.type U))
  (hk:∀c b C,tab.lookup c=some b->nsIn X.K mainGlobals c=some (some (.ref C))->ExcQ X.K C/\kitOne X.K (.ref C) (.type U)=some b) (hn:y≠"__name__":=by decide) (hdb:(y == ("__debug__":Str))=false:=by decide)
  (he:starEach (a :: [.Name y p2]) X.env=(false,eval a X.env) :: starEach [.Name y p2] X.env:=by rfl) (he2:starEach [.Name y p2] X.env=(false,eval (.Name y p2) X.env) :: starEach [] X.env:=by rfl) (hpl:(backTo pos (starEach [.Name y p2] X.env)).any (·.1)=false:=by rfl) :
  PE3 X (.Call (.Name "isinstance" p) [a,.Name y p2] [] pos) (eUn (zd6 tab) ma) :=
 PE.imp (zjg (zrr (c:=.ty U) (cv:=.type U) λu h=>h) hg hm znd (zfm ha (zfm (zoy (v:=.ty U) hgy hmy hv rfl hn hdb) zhz he2) he) (by decide) (by decide) he hpl) λσ H Q hx3_=>by
  obtain ⟨ρ,l,S,v,S',sim,ro,hq,pz⟩:=hx3_
  obtain ⟨⟨x,S1⟩,h1,hq⟩:=bnd hq
  refine ⟨ρ,l,S,x,S1,sim,ro,h1,λρ1 H1 x' e1 s1 r1=>?_⟩
  obtain ⟨rfl,a',c,C,b,rfl,hb,rfl,hc,hH⟩:=znc s1 r1 hq
  obtain ⟨q1,q2⟩:=hk c b C hb hc
  exact ⟨a',C,b,rfl,hH,q1,q2,pz ρ1 _ _ e1 s1 (.bl b)⟩
end
theorem zlj {K:QFg}{c0:Str}{b0:Bool}{C0:Addr}{R:Addr->Bool->Prop}(hn:nsIn K mainGlobals c0=some (some (.ref C0))) (h:R C0 b0) :
  ∀c b C,([(c0,b0)]:List (Str × Bool)).lookup c=some b->nsIn K mainGlobals c=some (some (.ref C))->R C b:=λc b C hl hc=>by
 rw [List.lookup_cons] at hl
 split at hl
 ·rename_i q
  cases hl
  have e:c=c0:=by simpa using q
  subst e
  rw [hn] at hc;cases hc
  exact h
 ·cases hl
theorem yck {c0:Str}{R:Str->Prop}(h:R c0):∀c,(c == c0)=true->R c:=λc hc=>by
 have e:c=c0:=by simpa using hc
 rw [e];exact h
section
variable {X:Cx}{o e:Expr}{es:List Expr}{to:TE}{t:TA}{name:Str}{apos cpos:Pos}{T id:String}{r:V->List V->Hp->VK->Prop}{ty:V->Hp->Prop}
end
section
variable {X:Cx}{j:Nat}
end
section
variable {X:Cx}{j:Nat}{o e:Expr}{mo m:EM}{apos cpos:Pos}
variable {a b:Expr}{ma mb:EM}{pos:Pos}
end
section
variable {K:QFg}{ρ:List Addr}{H:Hp}{S:Sto}
end
section
variable {X:Cx}{a b e f o i value:Expr}{ma mb me mf mo mi mv:EM}{pos pos' apos cpos:Pos}{k:Nat}
end
section
variable {X:Cx}{pos:Pos}
end
section
variable {X:Cx}{o i value:Expr}{mo mi mv:EM}{pos pos':Pos}{k:Nat}
end
def Fnc (K:QFg) (mg:Str->Option Value) (x:Str):Prop:=∃f o,PySem.W.nsIn K mainGlobals x=some (some (.ref f))/\K.lookup f=some o/\mg x=some (.ref f)
section
variable {K:QFg}{ρ:List Addr}{H:Hp}{S:Sto}
end
section
variable {X:Cx}{x y:Str}{pos p:Pos}{a:Expr}{es:List Expr}
end
section
variable {k:Nat}{names:List (Str × NameKind)}{acc:List (Str × Addr)}
end
theorem ycl {X:Cx}{tgt iter:Expr}{im:IM}(h:PI3 X tgt iter im):zrb X tgt iter im:=PI.imp h λσ H R ⟨ρ,l,S,it,k,S',sim,ro,hm,p⟩=>⟨ρ,l,S,it,k,S',sim,ro,hm,λρ1 H1 J e1 s1 ok=>p ρ1 H1 J e1 s1 λi ρ2 S2 H2 e2 s2=>⟨(ok i ρ2 S2 H2 e2 s2).1,λx hx=>⟨((ok i ρ2 S2 H2 e2 s2).2 x hx).1,λy H3 hy=>by
 obtain ⟨e,r⟩:=((ok i ρ2 S2 H2 e2 s2).2 x hx).2 y H3 hy
 subst e
 exact ⟨Ext.refl ..,s2,r⟩⟩⟩⟩
end L3
namespace SP
open PySem PySem.W PyProof.Rows PySem.Calls
section
variable {prog:Program}{w:World}{A:Around}{E:Value->Shared->Prop}{s:Shared}
end
end SP
namespace L3
open PySem PySem.Spec PyProof.Rows L2
section
variable {X:Cx}
end
section
variable {X:Cx}{a:Expr}{es:List Expr}{mA:AM}{pos p:Pos}
end
end L3
namespace SP
open PySem PySem.W PyProof.Rows PySem.Calls
section
variable {prog:Program}{w:World}{A:Around}{E:Value->Shared->Prop}{s:Shared}{d it:Addr}{es:Array DictEntry}{ep i:Nat}
end
end SP
namespace L3
open PySem PySem.Spec PyProof.Rows L2
section
variable {X:Cx}{tg:Expr}
end
noncomputable def tD (k:List Key):D:=.tup (k.map kD)
section
variable {X:Cx}{tgt iter:Expr}{m:EM}
end
section
variable {X:Cx}
end
section
variable {X:Cx}{a:Expr}{es:List Expr}{mA:AM}{pos p:Pos}
end
section
variable {X:Cx}{a:Expr}
end
section
variable {prog:Program}{w:World}{A:Around}{E:Value->Shared->Prop}{s:Shared}{c:Addr}{i j:Int}{t u:Tok}
end
section
variable {X:Cx}
end
section
variable {X:Cx}{a:Expr}{es:List Expr}{mA:AM}{pos p:Pos}
end
section
variable {prog:Program}{w:World}{K:Type} [DecidableEq K] {knd:HeapKind prog w K}{A:Around}{E:Value->Shared->Prop}{s:Shared}{d a:Addr}{k:K}{xs:List (K × Addr × Value)}{z:Value}
end
section
variable {X:Cx}{o e f:Expr}{td ty tx:TE}{apos cpos:Pos}
end
section
variable {X:Cx}{o e f:Expr}{mo me mf:EM}{apos cpos:Pos}{k:Nat}
end
section
variable {h:Heap}{p:PyData}
noncomputable def eqR (h:Heap) (p:PyData) (y:Value):Bool:=@decide (∃q as,Reads h y q as/\q.canLay0=true/\q.eqv p=true) (Classical.propDecidable _)
theorem zrt {y:Value}{q:PyData}{as:List Addr}(r:Reads h y q as) (c:q.canLay0=true):eqR h p y=q.eqv p:=by
 unfold eqR
 cases e:q.eqv p with
 | true=>exact @decide_eq_true _ (Classical.propDecidable _) ⟨q,as,r,c,e⟩
 | false =>
  refine @decide_eq_false _ (Classical.propDecidable _) λ⟨q',as',r',_,e'⟩=>?_
  have:=PySem.SeqAt.Reads.unique q q' y as as' c r r'
  subst this
  rw [e] at e';cases e'
theorem zru:∀{us:List Value}{qs:List PyData}{as:List Addr},ReadsAll h us qs as->PyData.canLayAll0 qs=true->us.map (eqR h p)=qs.map λq=>q.eqv p
 | _,_,_,.nil,_=>rfl
 | _,_,_,.cons r rs,c=>by
  rw [PyData.canLayAll0,Bool.and_eq_true] at c
  rw [List.map_cons,List.map_cons,zrt r c.1,zru rs c.2]
theorem zrv {A:Around}{s:Shared}{x:Value}{bs:List Addr}(rx:Reads s.heap x p bs) (cx:p.canLay0=true) (hu:A.units+p.depth<cLine):∀{us:List Value}{qs:List PyData}{as:List Addr},ReadsAll s.heap us qs as->PyData.canLayAll0 qs=true->∀y∈us,SeqAt.EqAt A s y x (eqR s.heap p y)
 | _,_,_,.nil,_=>λy hy=>by cases hy
 | _,_,_,.cons r rs,c=>λy hy=>by
  rw [PyData.canLayAll0,Bool.and_eq_true] at c
  rcases List.mem_cons.mp hy with e|hy
  ·subst e
   rw [zrt r c.1]
   exact PySem.SeqAt.eqAt_reads _ p A s _ x _ bs r rx c.1 cx (Nat.lt_of_le_of_lt (Nat.add_le_add_left (Nat.min_le_right _ _) _) hu)
  ·exact zrv rx cx hu rs c.2 y hy
end
def zrw (K:QFg) (neg:Bool):R2:=λx y H Q=>∃ρ S dx xs p qs a us,Sim K ρ S H/\RD ρ H dx x/\y=.ref a/\SqL K H a us/\RDs ρ H xs us/\zap S 60 dx=some p/\pyAll S 60 xs=some qs/\p.canLay0=true/\PyData.canLayAll0 qs=true/\Q (.bl (if neg then !qs.any λq=>q.eqv p else qs.any λq=>q.eqv p)) H
noncomputable def zi7 (neg:Bool):D->D->Sto->Option (D × Sto)
 | x,.ref n,S=>(lstOf S n).bind λxs=>(zap S 60 x).bind λp=>(pyAll S 60 xs).bind λqs=>if p.canLay0=true/\PyData.canLayAll0 qs=true then some (.bl (if neg then !qs.any λq=>q.eqv p else qs.any λq=>q.eqv p),S) else none
 | _,_,_=>none
section
variable {X:Cx}{k:Nat}
theorem ycm {us:List Value}{qs:List PyData}{f:Value->Bool}{g:PyData->Bool}(h:us.map f=qs.map g):us.toArray.any f=qs.any g:=by
 have h1:us.any f=(us.map f).any id:=by simp [List.any_map]
 have h2:qs.any g=(qs.map g).any id:=by simp [List.any_map]
 rw [List.any_toArray,h1,h,<-h2]
theorem ycn (hr:Room k X.A):OpR X (compareOp .In) (zrw X.K false):=by
 intro pins s σ H x y v u Q I rx ry h
 obtain ⟨ρ,S,dx,xs,p,qs,a,us,sim,r1,rfl,sq,r2,h1,h2,c1,c2,hq⟩:=h
 cases ry
 obtain ⟨⟨as,k1⟩,_,_,k2⟩:=zh6 I sim 60 dx x v p r1 rx h1
 obtain ⟨its,rv,pl,_⟩:=I.list sq
 obtain ⟨⟨bs,k3⟩,_,_,_⟩:=yaq I sim 60 xs us its qs r2 rv h2
 refine SeqAt.in_listAt (eqR s.heap p) pl.isList (λw hw=>zrv k1 c1 (by have:=hr.un;show X.A.units+1+_<_;omega) k3 c2 w (by simpa using hw)) ⟨.bl _,H,I,rfl,?_⟩
 rw [ycm (zru k3 c2)]
 exact hq
theorem yco {K:QFg}{neg:Bool}:Op3 K (zi7 neg) (zrw K neg):=by
 intro ρ S H x y x' y' v S' Q sim rx ry h p
 unfold zi7 at h
 split at h
 ·obtain ⟨xs,h1,h⟩:=bnd h
  obtain ⟨d1,h2,h⟩:=bnd h
  obtain ⟨ds,h3,h⟩:=bnd h
  obtain ⟨hc,e⟩:=zb3 h
  cases e
  obtain ⟨a,us,ha,sq,rv⟩:=sim.lstOf h1
  cases ry with
  | ref hn =>
   rw [ha] at hn;cases hn
   exact ⟨ρ,_,x,xs,d1,ds,a,us,sim,rx,rfl,sq,rv,h2,h3,hc.1,hc.2,p ρ H _ (Ext.refl ..) sim (.bl _)⟩
 ·cases h
variable {a b:Expr}{ma mb:EM}{pos:Pos}
theorem ycp (hr:Room k X.A) (ha:PE3 X a ma) (hb:PE3 X b mb) (hm:behindInMarks .In b=false:=by rfl):PT3 X (.Compare a [.In] [b] pos) (tE (eOp (zi7 false) ma mb)):=zfq (ycn hr) (yco (neg:=false)) ha hb hm
end
section
variable {X:Cx}{k:Nat}
variable {o e:Expr}{mo me:EM}{apos cpos:Pos}
end
section
variable {X:Cx}{o:Expr}{mo:EM}{apos cpos:Pos}
end
section
variable {X:Cx}{pos:Pos}{ke ve:Expr}
end
section
variable {X:Cx}{pos:Pos}{ke ve:Expr}{mk mv:EM}{k:Nat}
end
section
variable {X:Cx}
end
section
variable {X:Cx}{a:Expr}{es:List Expr}{mA:AM}{pos p:Pos}
end
section
variable {elt t1 i1 t2 i2:Expr}{ifs1 ifs2:List Expr}{scope:Scope}{pos:Pos}{it acc:Value}{env:Env}
noncomputable abbrev two (elt t1 i1 t2 i2:Expr) (ifs1 ifs2:List Expr) (scope:Scope) (pos:Pos):Expr:=.ListComp elt [⟨t1,i1,ifs1,0⟩,⟨t2,i2,ifs2,0⟩] scope pos
variable {prog:Program}{w:World}{A:Around}{R:Result->Shared->Prop}{s:Shared}
end
abbrev RM:=Lo->Sto->Option ((Int × Nat) × Sto)
inductive tr (K:QFg) (r:RM) (σ:St) (H:Hp) (R:It->Hp->Prop):Prop
 | mk (ρ:_) (l:_) (S:_) (lo:_) (n:_) (S':_) (_:Sim K ρ S H) (_:RO ρ H l σ) (_:r l S=some ((lo,n),S')) (_:∀ρ' H',Ext ρ H ρ' H'->Sim K ρ' S' H'->R (Itr lo n) H')
section
variable {X:Cx}{tgt:Expr}{mA:AM}{p0 pos':Pos}{a a2:Expr}
end
section
variable {prog:Program}{w:World}{A:Around}{E:Value->Shared->Prop}{s:Shared}
variable {z TI TO i1 i2 c1 c2:Addr}{n1 n2 k:Nat}{P1 P2:Nat->Value->Prop}{T1 T2:Nat->Heap->Prop}{a b:Value}
end
section
variable {prog:Program}{w:World}{A:Around}{E:Value->Shared->Prop}{s:Shared}
variable {z TI TO i1 i2 c1 c2:Addr}{n1 n2 k:Nat}{P1 P2:Nat->Value->Prop}{T1 T2:Nat->Heap->Prop}{a b:Value}
end
section
variable {prog:Program}{w:World}{A:Around}{E:Value->Shared->Prop}{s:Shared}
end
section
variable {P:Program}{w:World}{K:QFg}{tg:Expr}
theorem zrx (x:Str) (t:Tok) (T:String) (it:Addr) (hn:["enumerate","zip","dict_itemiterator","dict_reverseitemiterator","odict_iterator","itertools.zip_longest","itertools.pairwise"].contains T=false)
  (W:∀A:Around,A.handled=none->Walks P w A it [it] [it] x.cps.size (SignAt x) (λi h=>h.IsStrIter it T x t i))
  (hs:∀(A:Around) (i:Nat) (s:Shared) (Q:Value->Shared->Prop) (E:Value->Shared->Prop),s.heap.IsStrIter it T x t i->Q (.ref it) s->wpAny (model P w) A (pyIter (.ref it)) Q E s) :
  Turn P w K tg (Its x) [it] it (λi h=>h.IsStrIter it T x t i/\i<=x.cps.size) where
 mem:=by simp
 obj:=λi h st b hb=>by
  have e:b=it:=by simpa using hb
  subst e
  obtain ⟨⟨o,e,c,d⟩,_⟩:=st
  exact ⟨o,e,λv z=>by rw [d] at z;cases z⟩
 keep:=λi h h1 st k=>let ⟨⟨o,q,r⟩,l⟩:=st;⟨⟨o,k it (by simp) o q,r⟩,l⟩
 item:=by
  intro X hP hw hK hc i pins s σ H E I hf st hg
  subst hP hw hK
  obtain ⟨f0,f1,f2,f3,f4,f5⟩:=hf it (by simp)
  refine (W X.A (I.ok.hd hc)).item i s _ _ hg st.1 λv h' tk hv st' kk=>?_
  obtain ⟨c,u,hc1,rfl⟩:=hv
  have I1:Inv X pins σ H { s with heap:=h',toks:=tk }:=I.turned (λb o hb e=>kk b o (by simpa using hb) e) f0 f1 f3 f4 f5
  obtain ⟨o,e,c2,d⟩:=id st'
  exact ⟨_,rfl,zkr (s:={ s with heap:=h',toks:=tk }) e c2 d hn ⟨.str ⟨#[c]⟩,H,I1,⟨u,rfl⟩,⟨rfl,c,hc1,rfl⟩,⟨st',hg⟩,λb hb=>(hf b hb).1⟩⟩
 done:=by
  intro X hP hw hK hc i pins s σ H E I hf st hg
  subst hP hw hK
  obtain ⟨f0,f1,f2,f3,f4,f5⟩:=hf it (by simp)
  have hge:x.cps.size<=i:=hg
  have hi:i=x.cps.size:=by have:=st.2;omega
  subst hi
  exact (W X.A (I.ok.hd hc)).done s _ _ st.1 λh' tk kk=>⟨rfl,I.turned (λb o hb e=>kk b o (by simpa using hb) e) f0 f1 f3 f4 f5⟩
 self:=λA i s Q E st h=>hs A i s Q E st.1 h
end
section
variable {X:Cx}{tg l:Expr}{tl:TE}{m:EM}
def ycq (tl:TE):TI:=λσ H R=>tl σ H λx H1=>∃z,x=.str z/\R (Its z) H1
theorem ycr (hl:PE X l tl):PI X tg l (ycq tl):=by
 intro pins s σ H R I h
 refine thn (hl pins s σ H _ I h) λv s1 ⟨x,H1,I1,r1,q1⟩=>?_
 obtain ⟨z,rfl,q⟩:=q1
 obtain ⟨t,rfl⟩:=r1
 refine wpAny_pyIter_strU ?_
 have fp:∀b∈[s1.heap.objs.size],zfl X pins H1 b:=λb hb=>by
  have e:b=s1.heap.objs.size:=by simpa using hb
  subst e
  exact I1.fpOk (qlr _) (I1.hok.fresh (qlr _))
 have I2:Inv X pins σ H1 { s1 with heap:=s1.heap.push { cls:=.type (strIterType z),data:=.fields #[.str z t,.int 0 0] } }:=I1.kept (t':=s1.toks) λb o e=>qps _ e
 cases ha:z.cps.all (· < 128)
 ·have hT:strIterType z = "str_iterator":=by simp [strIterType,ha]
  rw [hT] at I2 ⊢
  exact ⟨s1.heap.objs.size,[s1.heap.objs.size],_,_,H1,rfl,I2,zrx z t _ _ (by decide) (λA hA=>Walks.strWide hA _ z t) (λA i s Q E st h=>wpAny_pyIter_striter_wide st h),⟨⟨_,Heap.get?_push_size _ rfl,rfl,rfl⟩,Nat.zero_le _⟩,fp,q⟩
 ·have hT:strIterType z = "str_ascii_iterator":=by simp [strIterType,ha]
  rw [hT] at I2 ⊢
  exact ⟨s1.heap.objs.size,[s1.heap.objs.size],_,_,H1,rfl,I2,zrx z t _ _ (by decide) (λA hA=>Walks.strAscii hA _ z t) (λA i s Q E st h=>wpAny_pyIter_striter_ascii st h),⟨⟨_,Heap.get?_push_size _ rfl,rfl,rfl⟩,Nat.zero_le _⟩,fp,q⟩
noncomputable def zcd (e:EM):IM:=λl S=>(e l S).bind λp=>match p.1 with
 | .str z=>some (itX (sgn z),z.cps.size+1,p.2)
 | _=>none
theorem zgg (hl:PE3 X l m):PI3 X tg l (zcd m):=PI.imp (ycr hl) λσ H R hx1_=>by
 obtain ⟨ρ,l,S,it,k,S',sim,ro,hm,p⟩:=hx1_
 obtain ⟨⟨x,S1⟩,h1,hm⟩:=bnd hm
 refine ⟨ρ,l,S,x,S1,sim,ro,h1,λρ1 H1 x' e1 s1 r1=>?_⟩
 cases r1 with
 | str z=>cases hm;exact ⟨z,rfl,p ρ1 H1 _ e1 s1 ybo⟩
 | _=>cases hm
end
noncomputable def fvD:D->Option Str
 | .str z=>if z.length<=sizeLine then some z else none
 | .int i=>if i.natAbs.log2<1920 then some (toString i) else none
 | _=>none
noncomputable def eFv (m:EM):EM:=λl S=>(m l S).bind λp=>(fvD p.1).bind λz=>some (.str z,p.2)
noncomputable def eJp (out:Str):List EM->EM
 | []=>λ_ S=>if out.length<=sizeLine then some (.str out,S) else none
 | m :: ms=>λl S=>(m l S).bind λp=>match p.1 with
  | .str z=>if (out++z).length<=sizeLine then eJp (out++z) ms l p.2 else none
  | _=>none
section
variable {X:Cx}{a b e:Expr}{m ma mb:EM}{pos:Pos}{es:List Expr}{ms:List EM}{out:Str}
def PJ3 (X:Cx) (out:Str) (es:List Expr) (ms:List EM):Prop :=
 ∀(pins:List (Addr × Obj)) (s:Shared) (σ:St) (H:Hp) (Q:VK),Inv X pins σ H s->te X.K (eJp out ms) σ H Q->wpAny (model X.prog X.w) X.A (joinParts out (evalEach es X.env)) (EP X pins σ Q) X.xe s
theorem zry (ha:PE3 X a m):PE3 X (.FormattedValue a (-1) none pos) (eFv m):=by
 intro pins s σ H Q I h
 obtain ⟨ρ,l,S,v,S',sim,ro,hm,p⟩:=h
 obtain ⟨⟨x,S1⟩,h1,hm⟩:=bnd hm
 obtain ⟨z,h2,hm⟩:=bnd hm
 cases hm
 refine FormattedValue_plain (thn (ha pins s σ H (λv' H'=>(∃z',v' = .str z'/\z'.length<=sizeLine/\Q (.str z') H')\/∃i,v' = .int i/\i.natAbs.log2<1920/\Q (.str (toString i)) H') I ⟨ρ,l,S,x,S1,sim,ro,h1,λρ1 H1 x' e1 s1 r1=>?_⟩) λv s1 ⟨x',H1,I1,r1,q1⟩=>?_)
 ·cases r1 with
  | str y =>
   obtain ⟨hz,e⟩:=zb3 (show (if y.length<=sizeLine then some y else none)=some z from h2)
   subst e
   exact .inl ⟨_,rfl,hz,p ρ1 H1 _ e1 s1 (.str _)⟩
  | int i =>
   obtain ⟨hz,e⟩:=zb3 (show (if i.natAbs.log2<1920 then some (toString i:Str) else none)=some z from h2)
   subst e
   exact .inr ⟨_,rfl,hz,p ρ1 H1 _ e1 s1 (.str _)⟩
  | _=>cases h2
 ·rcases q1 with ⟨y,rfl,hz,q⟩|⟨i,rfl,hz,q⟩
  ·obtain ⟨t,rfl⟩:=r1
   exact formatField_str (λt' tk=>⟨.str y,H1,I1.tok _,⟨t',rfl⟩,q⟩) hz
  ·obtain ⟨t,rfl⟩:=r1
   exact formatField_int_small hz ⟨.str (toString i),H1,I1.tok _,⟨_,rfl⟩,q⟩
theorem ycs:PJ3 X out [] []:=by
 intro pins s σ H Q I h
 obtain ⟨ρ,l,S,v,S',sim,ro,hm,p⟩:=h
 obtain ⟨hz,e⟩:=zb3 (show (if out.length<=sizeLine then some (D.str out,S) else none)=some (v,S') from hm)
 cases e
 exact joinParts_nil ⟨.str out,H,I.tok _,⟨_,rfl⟩,p ρ H _ (Ext.refl ..) sim (.str _)⟩ hz
theorem zne (he:PE3 X e m) (hr:∀z,PJ3 X (out++z) es ms):PJ3 X out (e :: es) (m :: ms):=by
 intro pins s σ H Q I h
 obtain ⟨ρ,l,S,v,S',sim,ro,hm,p⟩:=h
 obtain ⟨⟨x,S1⟩,h1,hm⟩:=bnd (show (m l S).bind (λp=>match p.1 with
  | .str z=>if (out++z).length<=sizeLine then eJp (out++z) ms l p.2 else none
  | _=>none)=some (v,S') from hm)
 refine joinParts_cons (thn (he pins s σ H (λv' H'=>∃z',v' = .str z'/\(out++z').length<=sizeLine/\te X.K (eJp (out++z') ms) σ H' Q) I ⟨ρ,l,S,x,S1,sim,ro,h1,λρ1 H1 x' e1 s1 r1=>?_⟩) λv s1 ⟨x',H1,I1,r1,q1⟩=>?_)
 ·cases r1 with
  | str y =>
   dsimp only at hm
   by_cases hz:(out++y).length<=sizeLine
   ·rw [if_pos hz] at hm
    exact ⟨y,rfl,hz,ρ1,l,S1,v,S',s1,ro.mono e1,hm,p.ext e1⟩
   ·rw [if_neg hz] at hm;cases hm
  | _=>cases hm
 ·obtain ⟨y,rfl,hz,q⟩:=q1
  obtain ⟨t,rfl⟩:=r1
  exact ⟨hz,hr y pins s1 σ H1 Q I1 q⟩
theorem yct {e1 e2:Expr}{m1 m2:EM}(h:PJ3 X Str.empty (e1 :: e2 :: es) (m1 :: m2 :: ms)):PE3 X (.JoinedStr (e1 :: e2 :: es) pos) (eJp Str.empty (m1 :: m2 :: ms)) :=
 λpins s σ H Q I q=>JoinedStr_many (h pins s σ H Q I q)
theorem znf {α:Type}{c:Prop} [Decidable c] {x:Option α}{b:α}(h:(if c then x else none)=some b):c/\x=some b:=by
 by_cases hc:c
 ·rw [if_pos hc] at h;exact ⟨hc,h⟩
 ·rw [if_neg hc] at h;cases h
noncomputable def zh8 (a b:EM):EM:=λl S=>(a l S).bind λp=>match p.1 with
 | .str z=>if z.length<=sizeLine then (if z.length=0 then b l p.2 else some (.str z,p.2)) else none
 | _=>none
theorem zng {rest:List Expr}(ha:PE3 X a ma) (hb:PE3 X (.BoolOp .Or (b :: rest) pos) mb):PE3 X (.BoolOp .Or (a :: b :: rest) pos) (zh8 ma mb):=by
 intro pins s σ H Q I h
 obtain ⟨ρ,l,S,v,S',sim,ro,hm,p⟩:=h
 obtain ⟨⟨x,S1⟩,h1,hm⟩:=bnd hm
 refine BoolOp_or (thn (ha pins s σ H (λv' H'=>∃z,v' = .str z/\z.length<=sizeLine/\if z.length=0 then te X.K mb σ H' Q else Q (.str z) H') I ⟨ρ,l,S,x,S1,sim,ro,h1,λρ1 H1 x' e1 s1 r1=>?_⟩) λv s1 ⟨x',H1,I1,r1,q1⟩=>?_)
 ·cases r1 with
  | str y =>
   obtain ⟨hz,hm⟩:=znf (show (if y.length<=sizeLine then (if y.length=0 then mb l S1 else some (.str y,S1)) else none)=some (v,S') from hm)
   refine ⟨y,rfl,hz,?_⟩
   by_cases h0:y.length=0
   ·rw [if_pos h0] at hm ⊢
    exact ⟨ρ1,l,S1,v,S',s1,ro.mono e1,hm,p.ext e1⟩
   ·rw [if_neg h0] at hm ⊢
    cases hm
    exact p ρ1 H1 _ e1 s1 (.str _)
  | _=>cases hm
 ·obtain ⟨y,rfl,hz,q⟩:=q1
  obtain ⟨t,rfl⟩:=r1
  have hsz:(16777216:Nat)=sizeLine:=by decide
  refine PySem.P.truthy_str (by omega) ?_
  by_cases h0:y.length=0
  ·rw [if_pos h0] at q
   have e:((y.length:Int) != 0)=false:=by rw [h0];rfl
   rw [e]
   exact hb pins _ σ H1 Q (I1.tok _) q
  ·rw [if_neg h0] at q
   have e:((y.length:Int) != 0)=true:=by simp;omega
   rw [e]
   exact ⟨.str y,H1,I1.tok _,⟨t,rfl⟩,q⟩
end
open PySem.Builtin PySem.Builtin.Str
noncomputable def zei:D->List D->Sto->Option (D × Sto)
 | .str x,[.str y],S=>if y.length≠0/\x.length+2<=sizeLine then some (.ref S.length,S++[.lst ((Txt.split x y).map D.str)]) else none
 | _,_,_=>none
def zrz:V->List V->Hp->VK->Prop:=λv vs H Q=>∃x y,v=.str x/\vs=[.str y]/\y.length≠0/\x.length+2<=sizeLine/\∀a,H a=none->Q (.ref a) (upd H a (.lst ((Txt.split x y).map V.str)))
theorem zr0:∀(k:Nat) (ps:List Str),Vals (ps.map V.str) (strsFrom k ps)
 | _,[]=>.nil
 | k,p :: ps=>.cons ⟨k,rfl⟩ (zr0 (k+1) ps)
section
variable {X:Cx}
theorem ycu:MtM X "str.split" zrz:=by
 intro pins s σ H v vs v' us Q I rx rv h
 obtain ⟨x,y,rfl,rfl,hy,hx,q⟩:=h
 obtain ⟨t,rfl⟩:=rx
 obtain ⟨w,rfl,rw'⟩:=rv.one
 obtain ⟨u,rfl⟩:=rw'
 have hl:=split_le x y
 have hy0:(y.length == 0)=false:=by simp [hy]
 have key:∀(its:List Value) (k:Nat),Vals ((Txt.split x y).map V.str) its->EP X pins σ Q (.ref s.heap.objs.size) { s with heap:=s.heap.push { cls:=.type "list",data:=.seq its.toArray },toks:=k }:=λits k hv =>
  ⟨.ref s.heap.objs.size,_,I.lnew hv (by rw [qlm];omega),rfl,q _ I.fresh⟩
 cases h1:(decide (x.length<y.length) || decide (strKind x<strKind y))
 ·cases hf:(occurrences x y 0 x.length (x.length+1)).isEmpty
  ·have e:Txt.split x y=partsBetween x (occurrences x y 0 x.length (x.length+1)) y.length:=(if_neg (ne_true_of_eq_false h1)).trans (if_neg (ne_true_of_eq_false hf))
   refine call_meets F.slot_str_split (typeIs_str _ _ _) F.entry_str_split (F.args_str_split_2 _ _) (meets_str_split_sep x y t u h1 hy0 hf (by omega) (by rw [<-e];omega)) ?_
   exact key _ _ (by rw [e];exact zr0 _ _)
  ·have e:Txt.split x y=[x]:=(if_neg (ne_true_of_eq_false h1)).trans (if_pos hf)
   refine call_meets F.slot_str_split (typeIs_str _ _ _) F.entry_str_split (F.args_str_split_2 _ _) (meets_str_split_not_found x y t u h1 hy0 hf) ?_
   exact key _ _ (by rw [e];exact .cons ⟨t,rfl⟩ .nil)
 ·have e:Txt.split x y=[x]:=if_pos h1
  refine call_meets F.slot_str_split (typeIs_str _ _ _) F.entry_str_split (F.args_str_split_2 _ _) (meets_str_split_cannot_occur x y t u h1) ?_
  exact key _ _ (by rw [e];exact .cons ⟨t,rfl⟩ .nil)
theorem ycv {K:QFg}:Mt3 K zei zrz:=by
 intro ρ S H x x' xs vs v S' Q sim rx r h p
 unfold zei at h
 split at h
 ·obtain ⟨hz,e⟩:=zb3 h
  cases e
  obtain ⟨w,rfl,rw'⟩:=r.one
  cases rw';cases rx
  exact ⟨_,_,rfl,rfl,hz.1,hz.2,zh3 sim (zrg _) p⟩
 ·cases h
variable {o e:Expr}{mo m:EM}{apos cpos:Pos}{name:Str}{id:String}{f:D->List D->Sto->Option (D × Sto)}{r:V->List V->Hp->VK->Prop}
theorem ycw (slot:Slot "str" name id) (hty:typeOf (.builtin id)=pure (.type "method_descriptor")) (hm:MtM X id r) (h3:Mt3 X.K f r) (ho:PE3 X o mo) (he:PE3 X e m)
  (hbase:attributeBase o name X.env (eval o X.env)=eval o X.env)
  (hfew:((backTo cpos (starEach [e] X.env)).all (λx=>!x.1) && (backToKw cpos (keywordEach [] X.env)).all (λx=>x.1.isSome)
   && decide ([e].length+([]:List Keyword).length+(if ([]:List Keyword).isEmpty then 0 else 1)<30))=true)
  (hline:(apos.endLine == cpos.line)=true) (hs:starEach [e] X.env=(false,eval e X.env) :: starEach [] X.env) :
  PE3 X (.Call (.Attribute o name apos) [e] [] cpos) (zbt f mo (zaa m zab)) :=
 PE.imp (zkw PySem.F.plainAttrs_str slot hty hm ho (zae he zaf hs) hbase hfew hline hs rfl) λσ H Q hx3_=>by
  obtain ⟨ρ,l,S,v,S',sim,ro,hq,p⟩:=hx3_
  obtain ⟨⟨x,S1⟩,h1,hq⟩:=bnd hq
  obtain ⟨_,h2,hq⟩:=bnd hq
  obtain ⟨⟨ys,S2⟩,h4,hq⟩:=bnd hq
  refine ⟨ρ,l,S,x,S1,sim,ro,h1,λρ1 H1 x' e1 s1 r1=>⟨?_,ρ1,l,S1,ys,S2,s1,ro.mono e1,h4,λρ2 H2 vs e2 s2 r2=>h3 ρ2 S2 H2 x x' ys vs v S' Q s2 (r1.mono e2) r2 hq (p.ext (e1.trans e2))⟩⟩
  cases r1 with
  | str z=>exact rfl
  | _=>cases h2
theorem zh9 (ho:PE3 X o mo) (he:PE3 X e m) (hbase:attributeBase o "split" X.env (eval o X.env)=eval o X.env:=by rfl)
  (hfew:((backTo cpos (starEach [e] X.env)).all (λx=>!x.1) && (backToKw cpos (keywordEach [] X.env)).all (λx=>x.1.isSome)
   && decide ([e].length+([]:List Keyword).length+(if ([]:List Keyword).isEmpty then 0 else 1)<30))=true:=by rfl)
  (hline:(apos.endLine == cpos.line)=true:=by rfl) (hs:starEach [e] X.env=(false,eval e X.env) :: starEach [] X.env:=by rfl) :
  PE3 X (.Call (.Attribute o "split" apos) [e] [] cpos) (zbt zei mo (zaa m zab)):=ycw F.slot_str_split F.type_str_split ycu ycv ho he hbase hfew hline hs
end
section
variable {X:Cx}{o:Expr}{mo:EM}{apos cpos:Pos}
end
section
variable {prog:Program}{w:World}{A:Around}{E:Value->Shared->Prop}
end
theorem ycx {X:Cx}{pins:List (Addr × Obj)}{σ:St}{H:Hp}{s:Shared}{a:Addr}{xs:List V}(I:Inv X pins σ H s) (h:H a=some (.tup xs)):∃its:List Value,Vals xs its/\IsTD s.heap a its.toArray:=by
 obtain ⟨_,its,r,p⟩:=I.hok a _ h
 exact ⟨its,r,p⟩
section
variable {X:Cx}
variable {o e:Expr}{mo m:EM}{apos cpos:Pos}
end
section
variable {prog:Program}{w:World}{A:Around}{E:Value->Shared->Prop}{s:Shared}
noncomputable abbrev dis (ns:List Int) (n:Nat):List Int:=firstMet (λi=>ns.getD i 0) n
end
section
variable {X:Cx}{K:QFg}{a:Expr}{es:List Expr}{mA:AM}{pos p:Pos}{k:Nat}
end
end L3
namespace SP
open PySem PySem.W PyProof.Rows PySem.Calls
section
variable {prog:Program}{w:World}{A:Around}{E:Value->Shared->Prop}{s:Shared}
end
end SP
namespace L3
open PySem PySem.Spec PyProof.Rows L2
section
variable {X:Cx}{K:QFg}{a:Expr}{es:List Expr}{mA:AM}{pos p:Pos}
end
noncomputable def zgu:D->D->Sto->Option (D × Sto)
 | .str z,.int k,S=>if 0<=k/\k<1000/\1<=z.length/\z.length<1000 then some (.str (zeh z k.toNat),S) else none
 | _,_,_=>none
def zr1:R2:=λx y H Q=>∃z k,x=.str z/\y=.int k/\0<=k/\k<1000/\1<=z.length/\z.length<1000/\Q (.str (zeh z k.toNat)) H
theorem ycy {X:Cx}:OpR X (binaryOp .Mult) zr1:=by
 intro pins s σ H x y v u Q I rx ry h
 obtain ⟨z,k,rfl,rfl,h1,h2,h3,h4,q⟩:=h
 by_cases hk:1<=k
 ·exact ybw pins s σ H _ _ v u Q I rx ry ⟨z,k,rfl,rfl,hk,h2,h3,h4,q⟩
 ·have e:k=0:=by omega
  subst e
  obtain ⟨t,rfl⟩:=rx
  obtain ⟨t',rfl⟩:=ry
  have e0:zeh z (0:Int).toNat=Str.empty:=by simp [zeh];rfl
  rw [e0] at q
  exact P.mul_str_none (by decide) (by decide) ⟨.str Str.empty,H,I.tok _,⟨_,rfl⟩,q⟩
theorem ycz {K:QFg}:Op3 K zgu zr1:=by
 intro ρ S H x y x' y' v S' Q sim rx ry h p
 unfold zgu at h
 split at h
 ·obtain ⟨hz,e⟩:=zb3 h
  cases e
  cases rx;cases ry
  exact ⟨_,_,rfl,rfl,hz.1,hz.2.1,hz.2.2.1,hz.2.2.2,p ρ H _ (Ext.refl ..) sim (.str _)⟩
 ·cases h
section
variable {X:Cx}{a b:Expr}{ma mb:EM}{pos:Pos}
theorem zr2 (ha:PE3 X a ma) (hb:PE3 X b mb):PE3 X (.BinOp a .Mult b pos) (eOp zgu ma mb):=zhg ycy ycz ha hb
theorem yc0 {z:Str}{k:Int}{S:Sto}{Q:D->Sto->Prop}:Wo (zgu (.str z) (.int k) S) Q=((0<=k/\k<1000/\1<=z.length/\z.length<1000)/\Q (.str (zeh z k.toNat)) S):=zgs
theorem yc1 (z:Str) (k:Nat):(zeh z k).cps.size=k*z.cps.size:=by simp [zeh]
end
open PySem.W
section
variable {X:Cx}{pos:Pos}
end
section
variable {X:Cx}{E:XK}{CA:Str->Addr}{tgt iter:Expr}{body:List Stmt}{g:GM}{b:SM}{rb:ZM}{m:EM}{pos:Pos}
end
def rSetL:List V->Hp->VK->Prop:=λxs H Q=>∃(a:Addr) (ns:List Int),xs=[.ref a]/\H a=some (.lst (ns.map V.int))/\ns.length+1<scanBound/\∀l,H l=none->Q (.ref l) (upd H l (.set (λk=>(dis ns ns.length).any (· == k)) (dis ns ns.length).length))
section
variable {X:Cx}{K:QFg}{a:Expr}{es:List Expr}{mA:AM}{pos p:Pos}{k:Nat}
end
section
variable {X:Cx}{K:QFg}{a:Expr}{es:List Expr}{mA:AM}{pos p:Pos}
end
def FlyM (h:Heap) (e C T:Addr) (m:Value):Prop:=∃oe vs oT ts a0,h.get? e=some oe/\oe.cls=.ref C/\oe.data=.fields vs/\vs[0]? = some a0/\vs[1]? = some (.ref T)/\T≠e/\h.get? T=some oT/\oT.data=.fields ts/\ts[3]? = some m
theorem FlyM.keep {h h':Heap}{e C T b:Addr}{m:Value}(f:FlyM h e C T m) (k:∀x o,x≠b->h.get? x=some o->h'.get? x=some o) (hb:∀o vs,h.get? b=some o->o.data≠.fields vs):FlyM h' e C T m:=by
 obtain ⟨oe,vs,oT,ts,a0,he,hc,hd,h0,h1,hTe,hT,hdT,h3⟩:=f
 exact ⟨oe,vs,oT,ts,a0,k e oe (λz=>hb oe vs (by rw [<-z];exact he) hd) he,hc,hd,h0,h1,hTe,k T oT (λz=>hb oT ts (by rw [<-z];exact hT) hdT) hT,hdT,h3⟩
section
variable {M:Model}{A:Around}{E:Value->Shared->Prop}{s:Shared}{base:Heap}{env:Env}{outer:List Env}{L e C T:Addr}{m:Value}{Q:Unit->Shared->Prop}
theorem zr3 {fr:Option Addr}(fl:FlyM s.heap e C T m) (hQ:∀h',(∀b,b≠T->h'.get? b=s.heap.get? b)->FlyM h' e C T (fr.elim .none λf=>rawInt f)->Q () { s with heap:=h' }):wpAny M A (setFlight (.ref e) fr) Q E s:=by
 obtain ⟨oe,vs,oT,ts,a0,he,hc,hd,h0,h1,hTe,hT,hdT,h3⟩:=fl
 have z3:3<ts.size:=(Array.getElem?_eq_some_iff.mp h3).1
 unfold setFlight
 refine qwb (wpAny_field he hd h1 (if_pos (c:=(Value.ref T != Value.none)=true) (by simp) ▸ wpAny_setField hT hdT z3 (hQ _ (λb hb=>Heap.get?_update_other _ _ (Ne.symm hb)) ?_)))
 exact ⟨oe,vs,_,_,a0,by rw [Heap.get?_update_other _ _ hTe];exact he,hc,hd,h0,h1,hTe,Heap.get?_update_self _ hT (Obj.isFreed_of_fields (Obj.data_mapFields hdT _)),Obj.data_mapFields hdT _,by simp [z3]⟩
theorem zr4 (hfr:A.frames=some (env :: outer)) (hl:s.heap.FunFrames base (env :: outer)) (hf:env.frame=some L) (fl:FlyM s.heap e C T m)
  (hQ:∀h' T',Tr (frs (env :: outer)) e T s.heap h'->FlyM h' e C T' (rawInt L)->(T' = T\/s.heap.get? T' = none)->Q () { s with heap:=h' }):wpAny M A (noteFrame (.ref e) env) Q E s:=by
 have fl0:=fl
 obtain ⟨oe,vs,oT,ts,a0,he,hc,hd,h0,h1,hTe,hT,hdT,h3⟩:=fl
 unfold noteFrame
 rw [hf]
 refine qwb (wpAny_field he hd h1 ?_)
 rw [if_pos (c:=(Value.ref T != Value.none)=true) (by simp)]
 refine qwb (wpAny_field hT hdT h3 ?_)
 by_cases hm:m=rawInt L
 ·rw [if_pos (by rw [hm];simp)]
  exact qwp (hQ s.heap T ⟨λ_ _ _ _ _ q=>q,λb o _ q _=>⟨o.slots,q⟩⟩ (by rw [<-hm];exact fl0) (.inl rfl))
 ·rw [if_neg (by simpa using hm)]
  have z3:3<ts.size:=(Array.getElem?_eq_some_iff.mp h3).1
  refine qwb (wpAny_setField hT hdT z3 ?_)
  have other:∀b,b≠T->(s.heap.update T (Obj.mapFields (·.setIfInBounds 3 .none))).get? b=s.heap.get? b:=λb hb=>Heap.get?_update_other _ _ (Ne.symm hb)
  have nof:∀b o,s.heap.get? b=some o->(∀ws,o.data≠.fields ws)->b≠T:=λb o hb hn q=>by
   rw [q,hT] at hb;cases hb;exact hn ts hdT
  have hl':=funFrames_hide (as:=e :: T :: frs (env :: outer)) hl λv hv a ha=>List.mem_cons_of_mem _ (List.mem_cons_of_mem _ (zlg v hv a ha))
  refine wpAny_entryW (base:=hideAll s.heap (e :: T :: frs (env :: outer))) hfr (hl'.of_keeps λb o hb hn=>⟨o,(other b (nof b o hb hn)).trans hb,rfl⟩) hf ((other e (Ne.symm hTe)).trans he) (λb o q=>?_) (hideAll_none _ (by simp)) hd (Array.getElem?_eq_some_iff.mp h1).1 h0 λh' hN=>?_
  ·have hbT:b≠T:=λz=>by rw [z,hideAll_none _ (by simp)] at q;cases q
   rw [other b hbT];exact of_hideAll _ q
  ·obtain ⟨k1,k2,⟨oe',vs',T',oT',ts',e1,⟨c1,z1⟩,d1,f1,n1,ne1,g1,d1',t1⟩,k4⟩:=hN
   have k5:∀b o,s.heap.get? b=some o->(∀ws,o.data≠.fields ws)->∃sl,h'.get? b=some { o with slots:=sl }:=λb o q hn=>k4 b o ((other b (nof b o q hn)).trans q) hn
   refine hQ h' T' ⟨λb o hb h2 h3 q=>k1 b o (hideAll_get _ q (by simp only [List.mem_cons,not_or];exact ⟨h2,h3,hb⟩)),λb o _ q hn=>k5 b o q hn⟩ ⟨oe',vs',oT',ts',a0,e1,c1.trans hc,d1,z1,f1,ne1,g1,d1',t1⟩ ?_
   cases q:s.heap.get? T' with
   | none=>exact .inr rfl
   | some o =>
    refine .inl (Classical.byContradiction λhTT=>?_)
    by_cases hmm:T'∈e :: T :: frs (env :: outer)
    ·simp only [List.mem_cons] at hmm
     rcases hmm with z|z|z
     ·exact ne1 z
     ·exact hTT z
     ·obtain ⟨_,o2,ho2,hnf⟩:=hl.mem z
      rw [q] at ho2;cases ho2
      obtain ⟨sl,hs⟩:=k5 T' o q hnf
      rw [g1] at hs;cases hs
      exact hnf ts' d1'
    ·rw [hideAll_get _ q hmm] at n1;cases n1
theorem yc2 (hfr:A.frames=some (env :: outer)) (hl:s.heap.FunFrames base (env :: outer)) (hf:env.frame=some L) (fl:FlyM s.heap e C T m)
  (hQ:∀h' T',Tr (frs (env :: outer)) e T s.heap h'->Fly h' e C T'->(T' = T\/s.heap.get? T' = none)->Q () { s with heap:=h' }):wpAny M A (leaving env (.ref e)) Q E s:=by
 have fl0:=fl
 obtain ⟨_,_,oT,ts,_,_,_,_,_,_,_,hT,hdT,_⟩:=fl0
 refine qwb (zr4 hfr hl hf fl λh1 T1 tr f1 hT1=>zr3 (s:={ s with heap:=h1 }) f1 λh2 k f2=>hQ h2 T1 ⟨λb o hb he hT' q=>?_,λb o hb q hn=>?_⟩ f2 hT1)
 ·rw [k b ?_]
  ·exact tr.keep b o hb he hT' q
  ·rcases hT1 with z|z
   ·rw [z];exact hT'
   ·rintro rfl;rw [z] at q;cases q
 ·rw [k b ?_]
  ·exact tr.slot b o hb q hn
  ·rintro rfl
   rcases hT1 with z|z
   ·rw [z,hT] at q;cases q;exact hn ts hdT
   ·rw [z] at q;cases q
end
structure XF (X:Cx) (E:XK):Prop where
 stk:∃e0 out L,X.stack=e0 :: out/\e0.frame=some L/\X.env.frame=some L
 fly:∀(pins:List (Addr × Obj)) (σ:L2.St) (H:Hp) (s:Shared) (a C T:Addr) (m:Value),Inv X pins σ H s->(∀o,X.s₀.heap.get? a=some o->a∈X.ex)->(∀o,X.s₀.heap.get? T=some o->T∈X.ex)->H a=none->H T=none->FlyM s.heap a C T m->E (.ref C) none H->X.xe (.ref a) s
section
variable {P:Program}{w:World}{K:QFg}{mg:Str->Option Value}{base:Heap}{N:List Str}{qual:Str}{scope:Scope}{f:Addr}{cd:Value}{A:Around}{outer:List Env}{s:Shared}{H:Hp}{E:XK}
theorem zr5 {h:Heap}{a:Addr}(z:∀o,h.get? a=some o->a∈([]:List Addr)):h.get? a=none:=by
 cases q:h.get? a with
 | none=>rfl
 | some o=>cases z o q
theorem znh:XF (zcj (CX1 P w) P w K mg base N qual scope f cd A outer s H E) E where
 stk:=⟨_,_,s.heap.objs.size,rfl,rfl,rfl⟩
 fly:=λpins σ H1 s1 a C T m I na nT ha hT fl hE=>yc2 (L:=s.heap.objs.size) I.ok.frames I.stack rfl fl λh' T' tr fl' hT'=>zna I (zr5 na) (zr5 nT) ha hT hE tr fl' hT'
end
theorem XF.passes {X:Cx}{E:XK}(F:XF X E):zh0 (CX1 X.prog X.w) X E:=by
 rintro pins σ H1 s1 e s2 I ⟨a,C,T,H',rfl,ho,hg,un,hok,na,nT,fl,ha,hT,hE⟩
 have I2:=I.call' (s':=s2) (ch:=[]) ho un hok hg (λb hb=>by cases hb)
 have up:∀b,s1.heap.get? b=none->∀o,X.s₀.heap.get? b=some o->b∈X.ex:=λb q o z=>Classical.byContradiction λhx=>by
  obtain ⟨o',e⟩:=I.base.there b o z hx;rw [q] at e;cases e
 exact F.fly pins σ H' s2 a C T .none I2 (up a na) (up T nT) ha hT fl hE
def xeB (X:Cx) (scope:Scope) (C:Addr):Value->Shared->Prop :=
 notedBy (model X.prog X.w) X.A (compEnvC scope (zem X.env scope.names []) C X.env) λx s''=>∃m,s''.heap.Ns C m/\∀h',Heap.SameBut C s''.heap h'->∀cenv:Env,cenv.locals=C->wpAny (model X.prog X.w) X.A (PySem.passOn "comprehension.variables-let-go" x cenv:Sem Value) (λ_ _=>False) X.xe { s'' with heap:=h' }
noncomputable abbrev cxZ (X:Cx) (N':List Str) (scope:Scope) (C:Addr) (s:Shared) (H:Hp) (fp:List Addr) (pins:List (Addr × Obj)):Cx:=(cxC X N' scope C s H fp pins).wish (xeB X scope C)
theorem yc3 {X:Cx}{E:XK}{N':List Str}{scope:Scope}{fp:List Addr}{pins:List (Addr × Obj)}{σ:L2.St}{H3:Hp}{s3:Shared}(F:XF X E) (I3:Inv X pins σ H3 s3) (f3:∀b∈fp,zfl X pins H3 b):XF (cxZ X N' scope s3.heap.objs.size s3 H3 fp pins) E:=by
 obtain ⟨e0,out,L,hs,h0,hL⟩:=F.stk
 refine ⟨⟨e0,out,L,hs,h0,hL⟩,λpins5 σ5 H5 s5 a C T m I na nT ha hT fl hE=>?_⟩
 have na:∀o,s3.heap.get? a=some o->a∈fp:=na
 have nT:∀o,s3.heap.get? T=some o->T∈fp:=nT
 have hfr:X.A.frames=some (e0 :: out):=by rw [<-hs];exact I3.ok.frames
 have hst:s5.heap.FunFrames X.base (e0 :: out):=by have z:s5.heap.FunFrames X.base X.stack:=I.stack;rw [hs] at z;exact z
 have hcf:(compEnvC scope (zem X.env scope.names []) s3.heap.objs.size X.env).frame=some L:=hL
 have e1:noteFrame (.ref a) (compEnvC scope (zem X.env scope.names []) s3.heap.objs.size X.env)=noteFrame (.ref a) e0:=by
  unfold noteFrame PySem.frameOf
  rw [hcf,h0]
 show wpAny _ _ (noteFrame _ _) _ _ _
 rw [e1]
 have fl5:=fl
 obtain ⟨oe,vs,oT,ts,a0,he5,_,hd5,_,_,_,hT5,hdT5,_⟩:=fl5
 obtain ⟨mC,hnC,_⟩:=I.loc
 have hnC:s5.heap.Ns s3.heap.objs.size mC:=hnC
 have base:Un (frs X.stack) fp H3 H5 s3.heap s5.heap:=I.base
 have hC5:H5 s3.heap.objs.size=none:=I.free
 have stkF:∀b∈frs X.stack,H5 b=none:=λb hb=>I.stkFree b hb
 have hok5:HOk X.prog X.w H5 s5.heap:=I.hok
 have os5:s5.os=s3.os:=I.os
 obtain ⟨oC,es,ep,hoC,hdC,rC⟩:=hnC
 have hCa:s3.heap.objs.size≠a:=λz=>by rw [z,he5] at hoC;cases hoC;rw [hd5] at hdC;cases hdC
 have hCT:s3.heap.objs.size≠T:=λz=>by rw [z,hT5] at hoC;cases hoC;rw [hdT5] at hdC;cases hdC
 have lt3:∀b o,s3.heap.get? b=some o->b≠s3.heap.objs.size:=λb o q=>Nat.ne_of_lt (Heap.lt_size q)
 have frO:∀b,b∈frs X.stack->b≠s3.heap.objs.size/\∃o,s5.heap.get? b=some o/\∀ws,o.data≠.fields ws:=λb hb=>by
  obtain ⟨_,o,ho,_⟩:=I3.stack.mem hb
  obtain ⟨_,o2,ho2,hn2⟩:=hst.mem (by rw [hs] at hb;exact hb)
  exact ⟨lt3 b o ho,o2,ho2,hn2⟩
 rw [<-hs] at hfr hst
 refine zr4 (outer:=out) (by rw [hfr,hs]) (by rw [hs] at hst;exact hst) h0 fl λh1 T1 tr f1 hT1=>?_
 rw [<-hs] at tr
 have c1:h1.get? s3.heap.objs.size=some oC:=tr.keep _ oC (λz=>(frO _ z).1 rfl) hCa hCT hoC
 refine ⟨mC,⟨oC,es,ep,c1,hdC,rC⟩,λh' sb cenv _=>?_⟩
 have f2:FlyM h' a C T1 (rawInt L):=f1.keep (b:=s3.heap.objs.size) (λx o hx q=>sb.extBut x o hx q) λo ws q z=>by rw [c1] at q;cases q;rw [hdC] at z;cases z
 have f2':=f2
 obtain ⟨oe',vs',_,_,_,he',_,hd',_,h1',_⟩:=f2'
 unfold PySem.passOn
 refine qwb (wpAny_field (s:={ s5 with heap:=h' }) he' hd' h1' ?_)
 rw [if_neg (by simp)]
 have fin:wpAny (model X.prog X.w) X.A (do setFlight (.ref a) cenv.frame;throw (.ref a):Sem Value) (λ_ _=>False) X.xe { s5 with heap:=h' }:=by
  refine qwb (zr3 (s:={ s5 with heap:=h' }) f2 λh2 k2 f3'=>wpAny_throw ?_)
  have ne1:∀b o,s5.heap.get? b=some o->b≠T->b≠T1:=λb o q hb z=>by
   rcases hT1 with y|y
   ·exact hb (z.trans y)
   ·rw [<-z,q] at y;cases y
  have keep:∀b o,b ∉ frs X.stack->b≠a->b≠T->b≠s3.heap.objs.size->s5.heap.get? b=some o->h2.get? b=some o:=λb o x1 x2 x3 x4 q=>by
   rw [k2 b (ne1 b o q x3)]
   exact sb.extBut b o x4 (tr.keep b o x1 x2 x3 q)
  have slot:∀b o,b∈frs X.stack->s5.heap.get? b=some o->∃sl,h2.get? b=some { o with slots:=sl }:=λb o hb q=>by
   obtain ⟨x1,o2,ho2,hn2⟩:=frO b hb
   rw [q] at ho2;cases ho2
   obtain ⟨sl,e⟩:=tr.slot b o hb q hn2
   refine ⟨sl,?_⟩
   rw [k2 b (ne1 b o q λz=>by rw [z,hT5] at q;cases q;exact hn2 ts hdT5)]
   exact sb.extBut b _ x1 e
  have un:Un (frs X.stack) fp H3 H5 s3.heap h2:=by
   refine ⟨λb o q n hb hx=>?_,λb o q n hb hx=>?_,base.free,λb o q hx=>?_,base.tups,base.frzs,base.tbls⟩
   ·exact keep b o hb (λz=>hx (by rw [z] at q ⊢;exact na o q)) (λz=>hx (by rw [z] at q ⊢;exact nT o q)) (lt3 b o q) (base.keep b o q n hb hx)
   ·obtain ⟨sl,e⟩:=base.slot b o q n hb hx
    obtain ⟨sl',e'⟩:=slot b _ hb e
    exact ⟨sl',e'⟩
   ·obtain ⟨o',e⟩:=base.there b o q hx
    by_cases hb:b∈frs X.stack
    ·obtain ⟨sl,e'⟩:=slot b o' hb e
     exact ⟨_,e'⟩
    ·exact ⟨o',keep b o' hb (λz=>hx (by rw [z] at q ⊢;exact na o q)) (λz=>hx (by rw [z] at q ⊢;exact nT o q)) (lt3 b o q) e⟩
  have hok2:HOk X.prog X.w H5 h2:=λb u e=>(hok5 b u e).stay (λc v hc q=>by
   have hcn:H5 c≠none:=by
    rcases hc with z|z
    ·rw [z,e];intro y;cases y
    ·rw [z];intro y;cases y
   exact keep c v (λz=>hcn (stkF c z)) (λz=>hcn (by rw [z];exact ha)) (λz=>hcn (by rw [z];exact hT)) (λz=>hcn (by rw [z];exact hC5)) q) (λ_ q=>q) λ_ _ q=>q
  have IX:Inv X pins σ H5 { s5 with heap:=h2 }:=I3.call' (s':={ s5 with heap:=h2 }) (ch:=fp) os5 un hok2 I.bare λb hb=>⟨(f3 b hb).2.2.2.1,(f3 b hb).2.1,(f3 b hb).2.2.2.2.1,(f3 b hb).2.2.2.2.2⟩
  have up:∀b,(∀o,s3.heap.get? b=some o->b∈fp)->∀o,X.s₀.heap.get? b=some o->b∈X.ex:=λb q o z=>Classical.byContradiction λhx=>by
   obtain ⟨o',e⟩:=I3.base.there b o z hx
   rcases (f3 b (q o' e)).2.2.2.1 with y|y
   ·exact hx y
   ·exact absurd (Heap.lt_size z) (Nat.not_lt.mpr y)
  have nT1:∀o,s3.heap.get? T1=some o->T1∈fp:=λo q=>Classical.byContradiction λhx=>by
   obtain ⟨o',e⟩:=base.there T1 o q hx
   rcases hT1 with y|y
   ·rw [y] at q hx;exact hx (nT o q)
   ·rw [y] at e;cases e
  have hT1':H5 T1=none:=by
   rcases hT1 with y|y
   ·rw [y];exact hT
   ·cases z:H5 T1 with
    | none=>rfl
    | some u=>obtain ⟨o',e⟩:=ObjOk.there (hok5 T1 u z);rw [y] at e;cases e
  exact F.fly pins σ H5 _ a C T1 _ IX (up a na) (up T1 nT1) ha hT1' f3' hE
 first
  | exact qwb (qwp fin)
  | exact fin
section
variable {X:Cx}{E:XK}{CA:Str->Addr}{N':List Str}{elt iter tgt:Expr}{ifs:List Expr}{scope:Scope}{pos:Pos}
theorem yc4 {wi:TI}{src:L2.St->L2.St}{g:TG}{tts:TT}{t:TE}(F:XF X E) (hcalm:X.calm=true) (sc:CompSc X N' scope src) (hi:PI X tgt iter wi) (hg:∀C s H fp pins,PG (cxZ X N' scope C s H fp pins) tgt g) (ht:∀C s H fp pins,PTs (cxZ X N' scope C s H fp pins) ifs tts)
  (he:∀C s H fp pins,XF (cxZ X N' scope C s H fp pins) E->PE (cxZ X N' scope C s H fp pins) elt t) (hs:∀x,foldedSetIterable iter X.env x=pure x):PE X (.ListComp elt [⟨tgt,iter,ifs,0⟩] scope pos) (zi1 X.K wi src g tts t):=by
 intro pins s σ H Q I h
 rw [eval_ListComp]
 refine zm1 (xb:=xeB X scope) (B:=λC s H fp pins=>XF (cxZ X N' scope C s H fp pins) E) (use:=none) hcalm sc hi hg ht he (λ_ _ _ _ z=>z) (λ_ _ _ I3 f3=>yc3 F I3 f3) hs I h λD H5 s6 C mC IX fp hn q=>⟨mC,hn,λh'' sb=>⟨.ref D,H5,?_,rfl,q⟩⟩
 exact IX.turned (t':=s6.toks) (λb o hb e=>sb.extBut b o hb e) fp.1 fp.2.1 fp.2.2.2.1 fp.2.2.2.2.1 fp.2.2.2.2.2
end
noncomputable def zeu (it:ItM) (g:GM) (t:TM) (e:EM) (r:ZM):Nat->Nat->ZM
 | 0,_=>λ_ _=>none
 | m+1,i=>λl S=>(it i S).bind λo=>match o with
  | none=>none
  | some x=>(g x l S).bind λq=>(t q.1 q.2).bind λb=>if b.1=true then (r q.1 b.2).or ((e q.1 b.2).bind λv=>zeu it g t e r m (i+1) q.1 v.2) else zeu it g t e r m (i+1) q.1 b.2
noncomputable def ze7 (im:IM) (ixs:List (Option Nat)) (g:GM) (t:TM) (e:EM) (r:ZM):ZM:=λl S=>(im l S).bind λp=>if p.2.1<=sizeLine then zeu p.1 g t e r p.2.1 0 (za8 ixs l) p.2.2 else none
theorem yc5 {K:QFg}{E:XK}{CA:Str->Addr}{im:IM}{ixs:List (Option Nat)}{g:GM}{t:TM}{e:EM}{r:ZM}(σ:L2.St) (H:Hp) (Q:VK) (q:Rz K E CA (ze7 im ixs g t e r) σ H):zi1 K (ti K im) (za8 ixs) (tg K g) (tt K t) (λσ H Q=>te K e σ H Q\/Rz K E CA r σ H) σ H Q:=by
 obtain ⟨ρ,l,S,C,S',sim,ro,hm,p⟩:=q
 obtain ⟨⟨it,k,S1⟩,q1,hm⟩:=bnd hm
 obtain ⟨hz,hm⟩:=zq7 hm
 refine ⟨ρ,l,S,it,k,S1,sim,ro,q1,λρ1 H1 J e1 s1 io D hD hK=>⟨λi m σ' H'=>∃ρ' l' S2 vs,Ext ρ1 H1 ρ' H'/\Sim K ρ' S2 H'/\RO ρ' H' l' σ'/\H' D=some (.lst vs)/\(∀n:Nat,ρ'[n]?≠some D)/\zeu it g t e r m i l' S2=some (C,S')/\vs.length+m<=sizeLine,⟨k,ρ1,za8 ixs l,S1,[],zff hD,s1.laid hD,(zqs ixs (ro.mono e1)).mono (zff hD),zfe,s1.notin hD hK,hm,by simpa using hz⟩,?_⟩⟩
 rintro i m σ' H' ⟨ρ',l',S2,vs,e2,s2,ro2,hD2,hn2,hc,hl⟩
 cases m with
 | zero=>cases hc
 | succ m =>
  unfold zeu at hc
  obtain ⟨o,ho,hc⟩:=bnd hc
  obtain ⟨iStop,iGo⟩:=io i ρ' S2 H' e2 s2
  cases o with
  | none=>cases hc
  | some x =>
   obtain ⟨⟨l3,S3⟩,q3,hc⟩:=bnd hc
   obtain ⟨⟨b,S4⟩,q4,hc⟩:=bnd hc
   obtain ⟨hgo,hy⟩:=iGo x ho
   refine .inr ⟨hgo,_,λσ' H' h=>h,λy H'' hyl=>?_⟩
   obtain ⟨rfl,ry⟩:=hy y H'' hyl
   refine ⟨ρ',l',S2,x,l3,S3,s2,ro2,ry,q3,λρ3 H3 σ3 e3 s3 ro3=>⟨ρ3,l3,S3,b,S4,s3,ro3,q4,λρ4 H4 e4 s4=>?_⟩⟩
   obtain ⟨hD3,hn3⟩:=e3.out D _ hD2 hn2
   obtain ⟨hD4,hn4⟩:=e4.out D _ hD3 hn3
   cases b with
   | false=>exact zfy ⟨m,Nat.lt_succ_self m,ρ4,l3,S4,vs,e2.trans (e3.trans e4),s4,ro3.mono e4,hD4,hn4,hc,by omega⟩
   | true =>
    have hc:((r l3 S4).or ((e l3 S4).bind λv=>zeu it g t e r m (i+1) l3 v.2))=some (C,S'):=hc
    cases er:r l3 S4 with
    | some z =>
     rw [er] at hc;cases hc
     exact zfo (.inr ⟨ρ4,l3,S4,C,S',s4,ro3.mono e4,er,λρ5 H5 e5 s5=>p ρ5 H5 (e1.trans (e2.trans (e3.trans (e4.trans e5)))) s5⟩)
    | none =>
     rw [er] at hc
     obtain ⟨⟨y5,S5⟩,q5,hc⟩:=bnd (show ((e l3 S4).bind λv=>zeu it g t e r m (i+1) l3 v.2)=some (C,S') from hc)
     refine zfo (.inl ⟨ρ4,l3,S4,y5,S5,s4,ro3.mono e4,q5,λρ5 H5 v5 e5 s5 r5=>?_⟩)
     obtain ⟨hD5,hn5⟩:=e5.out D _ hD4 hn4
     refine ⟨vs,hD5,by omega,m,Nat.lt_succ_self m,ρ5,l3,S5,vs++[v5],(e2.trans (e3.trans (e4.trans e5))).beside hD hD5,s5.beside hD5 hn5,?_,zfe,hn5,hc,by simp;omega⟩
     have r0:=(ro3.mono e4).mono e5
     exact ⟨r0.len,λi d h=>let ⟨w,h1,h2⟩:=r0.get i d h;⟨w,h1,h2.mono0 (zjh hD5)⟩⟩
section
variable {X:Cx}{E:XK}{CA:Str->Addr}{r q:ZM}{mc:TM}{pos:Pos}
theorem zni {N':List Str}{elt iter tgt:Expr}{ifs:List Expr}{scope:Scope}{im:IM}{ixs:List (Option Nat)}{g:GM}{t:TM}{e:EM}(F:XF X E) (hcalm:X.calm=true) (sc:CompSc X N' scope (za8 ixs)) (hi:PI3 X tgt iter im)
  (hg:∀C s H fp pins,PG3 (cxZ X N' scope C s H fp pins) tgt g) (ht:∀C s H fp pins,PTs (cxZ X N' scope C s H fp pins) ifs (tt X.K t)) (he:∀C s H fp pins,PE3 (cxZ X N' scope C s H fp pins) elt e) (hz:∀C s H fp pins,XF (cxZ X N' scope C s H fp pins) E->PEz (cxZ X N' scope C s H fp pins) E CA elt r)
  (hs:∀x,foldedSetIterable iter X.env x=pure x:=by intro _;rfl):PEz X E CA (.ListComp elt [⟨tgt,iter,ifs,0⟩] scope pos) (ze7 im ixs g t e r):=λpins s σ H Q I h =>
 yc4 (g:=tg X.K g) (tts:=tt X.K t) (t:=λσ H Q=>te X.K e σ H Q\/Rz X.K E CA r σ H) F hcalm sc hi hg ht (λC s H fp pins xf pins' s' σ' H' Q' I' h'=>h'.elim (he C s H fp pins pins' s' σ' H' Q' I') (hz C s H fp pins xf pins' s' σ' H' Q' I')) hs pins s σ H Q I (yc5 σ H Q h)
theorem yc6 {c a d:Expr}(hc:PT3 X c mc) (ha:PEz X E CA a r) (hb:PEz X E CA d q):PEz X E CA (.IfExp c a d pos) (zIf mc r q):=λpins s σ H Q I ⟨ρ,l,S,C,S',sim,ro,hm,p⟩=>zoz hc ha hb pins s σ H Q I (by
 obtain ⟨⟨x,S1⟩,q1,hm⟩:=bnd hm
 refine ⟨ρ,l,S,x,S1,sim,ro,q1,λρ1 H1 e1 s1=>?_⟩
 cases x with
 | true=>exact zfo ⟨ρ1,l,S1,C,S',s1,ro.mono e1,hm,λρ2 H2 e2 s2=>p ρ2 H2 (e1.trans e2) s2⟩
 | false=>exact zfy ⟨ρ1,l,S1,C,S',s1,ro.mono e1,hm,λρ2 H2 e2 s2=>p ρ2 H2 (e1.trans e2) s2⟩)
theorem zr6 {a:Expr}{es:List Expr}{p:Pos}(hg:Gl X "tuple") (hm:X.mg "tuple" = none) (ha:PAz X E CA (a :: es) r) (he:starEach (a :: es) X.env=(false,eval a X.env) :: starEach es X.env:=by rfl) (hpl:(backTo pos (starEach es X.env)).any (·.1)=false:=by rfl):PEz X E CA (.Call (.Name "tuple" p) (a :: es) [] pos) r :=
 λpins s σ H Q I q=>zpt zp2 hg hm zqu ha (by decide) (by decide) he hpl pins s σ H Q I q
end
def TZ (X:Cx) (E:XK) (CA:Str->Addr) (sts:List Stmt) (r:ZM):Prop:=∀(pins:List (Addr × Obj)) (s:Shared) (σ:L2.St) (H:Hp),Inv X pins σ H s->Rz X.K E CA r σ H ->
 wpAny (model X.prog X.w) X.A (execs sts X.env) (λ_ _=>False) (λe s'=>∃H1 s1,Inv X pins σ H1 s1/\CX1 X.prog X.w X.stack H1 s1 E e s') s
section
variable {X:Cx}{E:XK}{CA:Str->Addr}{a:Expr}{es:List Expr}{mA:AM}{cpos p apos py tpos:Pos}{x y:Str}{k j n:Nat}{rx:ZF}{r q:ZM}
theorem zr7 (F:zby X.prog X.w X.K X.mg X.base CA x k n rx) (hxe:∀e s,X.xe e s->False) (hr:Room j X.A) (hkj:k<=j) (ha:PA3 X (a :: es) mA) (hl:∀l S v S',mA l S=some (v,S')->v.length=n) (hg:Gl X x:=by rfl) (hdb:(x == ("__debug__":Str))=false:=by decide) (he:starEach (a :: es) X.env=(false,eval a X.env) :: starEach es X.env:=by rfl) (hpl:(backTo cpos (starEach es X.env)).any (·.1)=false:=by rfl)
  (hs:swapsWithSole [.Name y py] (.Call (.Name x p) (a :: es) [] cpos) apos.line X.env=pure false:=by rfl) (hw:swappedStores [.Name y py] (.Call (.Name x p) (a :: es) [] cpos) X.env=pure none:=by rfl):TZ X E CA [.Assign [.Name y py] (.Call (.Name x p) (a :: es) [] cpos) apos] (zb8 rx mA) :=
 λ_ _ _ _ I h=>yb8 F hxe hr hkj hg ha hl hdb he hpl hs hw I h
theorem yc7 {c:Expr}{a b:List Stmt}{mc:TM}(hxe:∀e s,X.xe e s->False) (hc:PT3 X c mc) (ha:TZ X E CA a r) (hb:TZ X E CA b q):TZ X E CA [.If c a b apos] (zIf mc r q):=by
 intro pins s σ H I ⟨ρ,l,S,C,S',sim,ro,hm,p⟩
 refine wpAny_execs_cons (wpAny_mono (Q:=λ_ _=>False) ?_ (λ_ _ z=>z.elim) λ_ _ z=>z)
 obtain ⟨⟨v,S1⟩,q1,hm⟩:=bnd hm
 refine wpAny_If (wpAny_mono (hc pins s σ H (λb' H1=>∃ρ1,Ext ρ H ρ1 H1/\Sim X.K ρ1 S1 H1/\b' = v) I ⟨ρ,l,S,v,S1,sim,ro,q1,λρ1 H1 e1 s1=>⟨ρ1,e1,s1,rfl⟩⟩) (λd s1 ⟨H1,I1,ρ1,e1,s1',hd⟩=>?_) λ_ _ z=>(hxe _ _ z).elim)
 subst hd
 cases d with
 | true=>exact ha pins s1 σ H1 I1 ⟨ρ1,l,S1,C,S',s1',ro.mono e1,hm,λρ2 H2 e2 s2=>p ρ2 H2 (e1.trans e2) s2⟩
 | false=>exact hb pins s1 σ H1 I1 ⟨ρ1,l,S1,C,S',s1',ro.mono e1,hm,λρ2 H2 e2 s2=>p ρ2 H2 (e1.trans e2) s2⟩
variable {i:Nat}{Dh:Addr}{nm hx:Str}{np hpos:Pos}{b0:Stmt}{body suite:List Stmt}{mN mS:SM}{ok:Str->Bool}
theorem yc8 (i:Nat) (hN:X.N.Nodup) (hxe:∀e s,X.xe e s->False) (hstk:X.stack=X.env :: X.outer) (hfm:X.env.frame=some X.env.locals) (hex:X.ex=[]) (hmh:X.mg hx=some (.ref Dh)) (qD:excIn X.K Dh zc6 "ValueError.__new__" = true)
  (hok:∀c,ok c=true->PySem.W.nsIn X.K mainGlobals c=some (some (.ref (CA c)))/\excIn X.K (CA c) zc6 "ValueError.__new__" = true/\(Value.ref (CA c) :: zg8 X.K (CA c)).contains (.ref Dh)=true)
  (hS:∀e,ze3 (mk1 X e) (b0 :: suite) mS) (hz:∀E,TZ X E CA body r) (hNorm:ze3 X body mN)
  (hi:X.N[i]? = some nm:=by rfl) (hln:X.env.scope.names.lookup nm=some .local:=by rfl) (hgh:Gl X hx:=by rfl) (hd:(hx == ("__debug__":Str))=false:=by decide) :
  PS3 X (.Try body [.ExceptHandler (some (.Name hx np)) (some nm) (b0 :: suite) hpos] [] [] tpos) (zhm i ok mN r mS):=by
 have main:PS X (.Try body [.ExceptHandler (some (.Name hx np)) (some nm) (b0 :: suite) hpos] [] [] tpos) (λD σ H=>ts X.K mN D σ H\/Rz X.K (EH X Dh (ts X.K mS) i D σ) CA r σ H):=by
  intro pins s σ H D I h
  rcases h with h|h
  ·refine wpAny_Try_except (wpAny_mono (hNorm pins s σ H D I h) (λf s1 q=>?_) λe s1 z=>(hxe _ _ z).elim)
   cases f with
   | next=>exact wpAny_execs_nil q
   | _=>exact q
  ·exact wpAny_Try_except (wpAny_mono (hz _ pins s σ H I h) (λ_ _ z=>z.elim) λe s2 ⟨H1,s1,I1,cx⟩=>yb6 (tS:=ts X.K mS) hstk hfm hex hgh hmh qD hS hN hi hln hd I1 cx)
 refine PS.imp main λD σ H hx1_=>?_
 obtain ⟨ρ,l,S,f,l',S',sim,ro,hm,pz⟩:=hx1_
 unfold zhm at hm
 cases e1:mN l S with
 | some q =>
  rw [e1] at hm
  cases hm
  exact .inl ⟨ρ,l,S,f,l',S',sim,ro,e1,pz⟩
 | none =>
  rw [e1] at hm
  cases e2:r l S with
  | none=>rw [e2] at hm;cases hm
  | some q =>
   obtain ⟨c,S1⟩:=q
   rw [e2] at hm
   obtain ⟨hc,hm⟩:=zq7 hm
   obtain ⟨⟨g,l2,S2⟩,q2,hm⟩:=bnd hm
   obtain ⟨k1,k2,k3⟩:=hok c hc
   refine .inr ⟨ρ,l,S,c,S1,sim,ro,e2,λρ1 H1 ex1 s1=>⟨CA c,rfl,k2,k3,λe he'=>?_⟩⟩
   have ex2:=zqc (ρ:=ρ1) (u:=.ext (phi e (CA c))) he'
   have sim2:Sim X.K (ρ1++[e]) (S1++[.exc c]) (upd H1 e (.ext (phi e (CA c)))):=s1.pushG he' ⟨CA c,k1,zfe⟩
   have ro2:=((ro.mono ex1).mono ex2).set i (d:=.ref S1.length) (v:=.ref e) (.ref (by rw [<-s1.len];exact zd5 ρ1 e))
   cases g with
   | nx =>
    cases hm
    exact ⟨ρ1++[e],_,_,.nx,l2,S2,sim2,ro2,q2,λρ' H' σ' e' s' r'=>pz ρ' H' (σ'.set i none) (ex1.trans (ex2.trans e')) s' (RO.unset r' i)⟩
   | _=>cases hm
end
noncomputable def zhn (i j:Str):Bool:=!(Builtin.Str.occurrences j i 0 j.length 1).isEmpty
noncomputable def zev (neg:Bool):D->D->Sto->Option (D × Sto)
 | .str i,.str j,S=>some (.bl (if neg=true then !(zhn i j) else zhn i j),S)
 | _,_,_=>none
section
variable {X:Cx}{K:QFg}{a b:Expr}{ma mb:EM}{pos:Pos}
theorem zr8 {neg:Bool}:Op3 K (zev neg) (λx y H Q=>∃i j,x=.str i/\y=.str j/\Q (.bl (if neg=true then !(zhn i j) else zhn i j)) H):=by
 intro ρ S H x y x' y' v S' Q sim rx ry h p
 unfold zev at h
 split at h
 ·cases h;cases rx;cases ry
  exact ⟨_,_,rfl,rfl,p ρ H _ (Ext.refl ..) sim (.bl _)⟩
 ·cases h
theorem yc9 (ha:PE3 X a ma) (hb:PE3 X b mb) (hm:behindInMarks .In b=false:=by rfl):PE3 X (.Compare a [.In] [b] pos) (eOp (zev false) ma mb):=zjk (zxw (X:=X)) zr8 ha hb hm
theorem znj (ha:PE3 X a ma) (hb:PE3 X b mb) (hm:behindInMarks .NotIn b=false:=by rfl):PT3 X (.Compare a [.NotIn] [b] pos) (tE (eOp (zev true) ma mb)):=zfq (zxz (X:=X)) zr8 ha hb hm
end
theorem yda {X:Cx}{x:Str}{k j:Nat}{m:FM}{p pos:Pos}(F:Has X.prog X.w X.K X.mg X.base x k 0 m) (hr:Room j X.A) (hkj:k<=j) (hg:Gl X x) (hdb:(x == ("__debug__":Str))=false:=by decide):PE3 X (.Call (.Name x p) [] [] pos) (zac m zab):=by
 obtain ⟨f,fd,ps,F,hm,hk,hb⟩:=F
 refine PE.imp (zyd F (hr.mono hkj) hg hm hk hb .nil zp8 hdb) λσ H Q hx=>?_
 obtain ⟨ρ,l,S,v,S',sim,ro,hq,q⟩:=hx
 exact ⟨rfl,ρ,[],S,v,S',sim,.nil,hq,q⟩
end L3
namespace TX
open PySem PySem.Builtin PySem.Builtin.Str PySem.StrLaws
structure Mk (y:Str) (d m:Nat):Prop where
 at_:y.cps.toList[m]? = some d
 pre:∀i,i<m->y.cps.toList[i]?≠some d
 kind:strKind y=1
variable {x y:Str}{d m:Nat}
theorem len_eq (z:Str):z.length=z.cps.toList.length:=by simp [Str.length]
theorem zr9 (h:Mk y d m) {k:Nat}(hk:At x y x.length k):x.cps.toList[k+m]? = some d:=by
 have:=hk.2
 rw [subAt_eq] at this
 have e:=eq_of_beq this
 have hm:=(qme h.at_).1
 have h1:=h.at_
 rw [<-e,List.getElem?_take_of_lt (by rw [len_eq];exact hm),List.getElem?_drop] at h1
 exact h1
theorem ydb {a:Nat}{p r:List Nat}(h:x.cps.toList.drop a=p++y.cps.toList++r) (ha:a<=x.length):At x y x.length (a+p.length):=by
 have hl:=congrArg List.length h
 simp only [List.length_drop,qla] at hl
 rw [<-len_eq,<-len_eq] at hl
 refine ⟨by omega,?_⟩
 rw [subAt_eq,<-List.drop_drop,h,List.append_assoc,List.drop_left,len_eq,List.take_left]
 exact beq_self_eq_true _
theorem ydc (hm:Mk y d m) {a k:Nat}{p r:List Nat}(h:x.cps.toList.drop a=p++y.cps.toList++r) (hf:d ∉ p) (h1:a<=k) (h2:k<a+p.length):¬At x y x.length k:=by
 intro hA
 have e:=zr9 hm hA
 have e2:(x.cps.toList.drop a)[k-a+m]? = some d:=by rw [List.getElem?_drop];rw [show a+(k-a+m)=k+m by omega];exact e
 have hmy:=(qme hm.at_).1
 rw [h,List.append_assoc] at e2
 by_cases hlt:k-a+m<p.length
 ·rw [List.getElem?_append_left hlt] at e2
  exact hf (qmg e2)
 ·rw [List.getElem?_append_right (by omega),List.getElem?_append_left (by omega)] at e2
  exact hm.pre _ (by omega) e2
theorem ydd (hm:Mk y d m) {a k:Nat}{p:List Nat}(h:x.cps.toList.drop a=p) (hf:d ∉ p) (h1:a<=k):¬At x y x.length k:=by
 intro hA
 have e:=zr9 hm hA
 have e2:(x.cps.toList.drop a)[k-a+m]? = some d:=by rw [List.getElem?_drop];rw [show a+(k-a+m)=k+m by omega];exact e
 rw [h] at e2
 exact hf (qmg e2)
theorem join_cons (p q:Str) (r:List Str):(Str.join y (p :: q :: r)).cps.toList=p.cps.toList++y.cps.toList++(Str.join y (q :: r)).cps.toList:=by
 show (p++y++Str.join y (q :: r)).cps.toList=_
 simp only [Str.cps_append,Array.toList_append]
theorem str_ext {a b:Str}(h:a.cps.toList=b.cps.toList):a=b:=Str.ext' (Array.toList_inj.mp h)
theorem zsa (hm:Mk y d m):∀(ps:List Str) (a f:Nat) (cuts:List Nat),ps≠[]->(∀p∈ps,d ∉ p.cps.toList)->ChainG x y x.length a cuts f->(∀k,f<=k->¬At x y x.length k)->a<=x.length ->
  x.cps.toList.drop a=(Str.join y ps).cps.toList->partsFrom x y.length a cuts=ps
 | [],_,_,_,h,_,_,_,_,_=>absurd rfl h
 | [p],a,f,cuts,_,hf,hc,hn,ha,h=>by
  have hp:d ∉ p.cps.toList:=hf p List.mem_cons_self
  cases cuts with
  | nil =>
   show [strSub x a x.length]=[p]
   refine congrArg (λz=>[z]) (str_ext ?_)
   rw [strSub_toList,List.take_of_length_le (by rw [List.length_drop,<-len_eq];omega)]
   exact h
  | cons c r=>exact absurd hc.2.1 (ydd hm (p:=p.cps.toList) h hp hc.1)
 | p :: q :: r,a,f,cuts,_,hf,hc,hn,ha,h=>by
  have hp:d ∉ p.cps.toList:=hf p List.mem_cons_self
  rw [join_cons] at h
  have hA:=ydb h ha
  cases cuts with
  | nil =>
   have e:f=a:=hc
   exact absurd hA (hn _ (by omega))
  | cons c cs =>
   have e:c=a+p.cps.toList.length:=by
    have h1:c<=a+p.cps.toList.length:=Nat.le_of_not_lt λz=>hc.2.2.1 _ (by omega) z hA
    by_cases h2:c<a+p.cps.toList.length
    ·exact absurd hc.2.1 (ydc hm h hp hc.1 h2)
    ·omega
   subst e
   show strSub x a _ :: partsFrom x y.length _ cs=_
   have hA1:=hA.1
   have hd:x.cps.toList.drop (a+p.cps.toList.length+y.length)=(Str.join y (q :: r)).cps.toList:=by
    rw [<-List.drop_drop,<-List.drop_drop,h,List.append_assoc,List.drop_left,len_eq,List.drop_left]
   rw [zsa hm (q :: r) _ f cs (by simp) (λz hz=>hf z (List.mem_cons_of_mem _ hz)) hc.2.2.2 hn hA1 hd]
   refine congrArg (λz=>z :: q :: r) (str_ext ?_)
   rw [strSub_toList,h,List.append_assoc,Nat.add_sub_cancel_left,List.take_left]
theorem yde (p q:Str) (r:List Str):y.length<=(Str.join y (p :: q :: r)).length:=by
 rw [len_eq,len_eq,join_cons]
 simp only [qla];omega
theorem split_join (hm:Mk y d m) (ps:List Str) (hne:ps≠[]) (hf:∀p∈ps,d ∉ p.cps.toList):Txt.split (Str.join y ps) y=ps:=by
 have hy:1<=y.length:=by
  have:=(qme hm.at_).1
  rw [len_eq];omega
 obtain ⟨f,hG,hn⟩:=occ_tight (Str.join y ps) y hy
 have key:=zsa hm ps 0 f _ hne hf hG hn (Nat.zero_le _) rfl
 unfold Txt.split
 split
 ·rename_i hc
  rw [Bool.or_eq_true,decide_eq_true_eq,decide_eq_true_eq,hm.kind] at hc
  have hc:(Str.join y ps).length<y.length:=hc.resolve_right (by
   intro z
   have:1<=strKind (Str.join y ps):=by unfold Builtin.Str.strKind;split;decide;split <;> decide
   omega)
  match ps,hne,hc with
  | [p],_,_=>rfl
  | p :: q :: r,_,hc=>exact absurd (yde (y:=y) p q r) (by omega)
 ·split
  ·rename_i he
   rw [List.isEmpty_iff.mp he] at key
   have key:[strSub (Str.join y ps) 0 (Str.join y ps).length]=ps:=key
   rw [sub_whole] at key
   exact key
  ·rw [partsBetween_eq];exact key
theorem mem_join {c:Nat}:∀(ps:List Str),c∈(Str.join y ps).cps.toList->c∈y.cps.toList\/∃p∈ps,c∈p.cps.toList
 | [],h=>by cases h
 | [p],h=>.inr ⟨p,List.mem_cons_self,h⟩
 | p :: q :: r,h=>by
  rw [join_cons] at h
  rcases List.mem_append.mp h with h|h
  ·rcases List.mem_append.mp h with h|h
   ·exact .inr ⟨p,List.mem_cons_self,h⟩
   ·exact .inl h
  ·rcases mem_join (q :: r) h with h|⟨p',hp,h⟩
   ·exact .inl h
   ·exact .inr ⟨p',List.mem_cons_of_mem _ hp,h⟩
end TX
namespace L3
open PySem
theorem zau {α:Type}{x:α}{p:α->Prop}:(∃d,(some (some x):Option (Option α))=some (some d)/\p d)=p x:=by
 apply propext;constructor
 ·rintro ⟨d,h,q⟩;cases h;exact q
 ·exact λq=>⟨x,rfl,q⟩
theorem zbe {α:Type}{x:α}{p:α->Prop}:(∃d,(some x:Option α)=some d/\p d)=p x:=by
 apply propext;constructor
 ·rintro ⟨d,h,q⟩;cases h;exact q
 ·exact λq=>⟨x,rfl,q⟩
theorem zbo {b:Bool}{p:Bool->Prop}:(∃k,D.bl b=D.bl k/\p k)=p b:=by
 apply propext;constructor
 ·rintro ⟨d,h,q⟩;cases h;exact q
 ·exact λq=>⟨b,rfl,q⟩
theorem zdv {α:Type}{x y:α}:L2.atI [x,y] 0=some x:=rfl
theorem zdw {α:Type}{x y:α}:L2.atI [x,y] 1=some y:=rfl
theorem zdj {α:Type}{x y z:α}:L2.atI [x,y,z] 0=some x:=rfl
theorem zdx {α:Type}{x y z:α}:L2.atI [x,y,z] 1=some y:=rfl
theorem zdy {α:Type}{x y z:α}:L2.atI [x,y,z] 2=some z:=rfl
theorem za9 {S:Sto}{xs:List D}:lstOf (S++[.lst xs]) S.length=some xs:=by unfold lstOf;rw [zd5]
theorem znk {α:Type}(xs:List α) (i:Int) (h0:0<=i) (h1:i<xs.length):∃x,L2.atI xs i=some x/\x∈xs:=by
 have hl:i.toNat<xs.length:=by omega
 refine ⟨xs[i.toNat],?_,List.getElem_mem hl⟩
 unfold L2.atI L2.ixN
 rw [if_pos h0,if_pos h1]
 simp [hl]
theorem atI_get {α:Type}{xs:List α}{i:Nat}{x:α}(h:xs[i]? = some x):L2.atI xs (i:Int)=some x:=by
 have hl:=(qme h).1
 unfold L2.atI L2.ixN
 rw [if_pos (by omega),if_pos (by omega)]
 simpa using h
section
variable {S:Sto}{Q:D->Sto->Prop}{l:Lo}{QG:Lo->Sto->Prop}
theorem zdz {i j:Int}:Wo (zg5 (.int i) (.int j) S) Q=(((-(2 ^ 64)<i/\i<2 ^ 64)\/(-(2 ^ 64)<j/\j<2 ^ 64))/\Q (.int (i*j)) S):=zgs
theorem zsb:Wo none Q=False:=by unfold Wo;simp
theorem zb5 {k:Nat}{i:Int}:Wo (zav (.ref k) (.int i) S) Q = ∃xs,lstOf S k=some xs/\∃v,L2.atI xs i=some v/\Q v S:=by
 have e:zav (.ref k) (.int i) S=dIx (.ref k) (.int i) S:=by
  unfold zav
  cases h:dIx (.ref k) (.int i) S with
  | some v=>rfl
  | none=>rfl
 rw [e,zdf]
theorem zc7 {z:Str}{i:Int}:Wo (zav (.str z) (.int i) S) Q=(z.length<=sizeLine/\∃c,L2.atI z.cps.toList i=some c/\Q (.str ⟨#[c]⟩) S):=by
 show Wo (if z.length<=sizeLine then (L2.atI z.cps.toList i).bind λc=>some (.str ⟨#[c]⟩,S) else none) Q=_
 by_cases h:z.length<=sizeLine
 ·rw [if_pos h,zh5];simp only [zbs,h,true_and]
 ·rw [if_neg h,zsb];simp [h]
theorem zco {k:Nat}:Wo (zax [.ref k] S) Q = ∃xs,lstOf S k=some xs/\Q (.int xs.length) S:=zdh
theorem zd0 {xs:List D}:Wo (zax [.tup xs] S) Q=Q (.int xs.length) S:=zdg
theorem zd1 {z:Str}:Wo (zax [.str z] S) Q=(z.length<=sizeLine/\Q (.int z.length) S):=zgs
theorem zc8 {i:Int}:Wo (zgt [.int i] S) Q=(i.natAbs.log2<1920/\Q (.str (toString i)) S):=zgs
theorem zdk {i j:Str}:Wo (dEq (.str i) (.str j) S) Q=Q (.bl (decide (i=j))) S:=zbs
theorem zcc {f:D->List D->Sto->Option (D × Sto)}{a:EM}{r:AM}:We (zbt f a r) l S Q=We a l S λx S1=>zlf x=some ()/\Wa r l S1 λys S2=>Wo (f x ys S2) Q:=by
 apply propext
 constructor
 ·rintro ⟨v,S',h,q⟩
  obtain ⟨⟨x,S1⟩,h1,h⟩:=bnd h
  obtain ⟨_,h2,h⟩:=bnd h
  obtain ⟨⟨y,S2⟩,h3,h⟩:=bnd h
  exact ⟨x,S1,h1,h2,y,S2,h3,v,S',h,q⟩
 ·rintro ⟨x,S1,h1,h2,y,S2,h3,v,S',h,q⟩
  refine ⟨v,S',?_,q⟩
  unfold zbt;rw [h1];show (zlf x).bind _=_;rw [h2];show (r l S1).bind _=_;rw [h3];exact h
theorem zho {z:Str}{n:Nat}:Wo (zes (.str z) [.ref n] S) Q = ∃xs,lstOf S n=some xs/\∃ts,zft xs=some ts/\(ts.map (·.length)).sum+ts.length*z.length<=16777216/\Q (.str (Str.join z ts)) S:=by
 show Wo ((lstOf S n).bind λxs=>(zft xs).bind λts=>if (ts.map (·.length)).sum+ts.length*z.length<=16777216 then some (.str (Str.join z ts),S) else none) Q=_
 rw [zh5];simp only [zh5,zgs]
theorem zsc {n m:Nat}{xs:List D}(h1:S[n]? = some (.lst xs)) (h2:S[m]? = some (.lst [])):Wo (zhj (.ref n) (.ref m) S) Q=Q (.bl xs.isEmpty) S:=by
 show Wo (match S[n]?,S[m]? with|some (.lst xs),some (.lst [])=>some (.bl xs.isEmpty,S)|_,_=>none) Q=_
 rw [h1,h2];exact zbs
theorem zsd {n m:Nat}{xs:List D}(h1:S[n]? = some (.lst xs)) (h2:S[m]? = some (.lst [])):Wo (zer (.ref n) (.ref m) S) Q=Q (.bl (!xs.isEmpty)) S:=by
 show Wo (match S[n]?,S[m]? with|some (.lst xs),some (.lst [])=>some (.bl (!xs.isEmpty),S)|_,_=>none) Q=_
 rw [h1,h2];exact zbs
end
def Gr (S0 S:Sto):Prop:=∃ex,S=S0++ex
theorem Gr.refl (S:Sto):Gr S S:=⟨[],by rw [List.append_nil]⟩
theorem Gr.trans {A B C:Sto}(h:Gr A B) (g:Gr B C):Gr A C:=by obtain ⟨x,rfl⟩:=h;obtain ⟨y,rfl⟩:=g;exact ⟨x++y,by rw [List.append_assoc]⟩
theorem Gr.push {A B:Sto}(h:Gr A B) (o:Ob):Gr A (B++[o]):=h.trans ⟨[o],rfl⟩
theorem Gr.get {A B:Sto}{n:Nat}{o:Ob}(h:Gr A B) (e:A[n]? = some o):B[n]? = some o:=by
 obtain ⟨x,rfl⟩:=h
 rw [List.getElem?_append_left (qme e).1];exact e
theorem Gr.lst {A B:Sto}{n:Nat}{xs:List D}(h:Gr A B) (e:lstOf A n=some xs):lstOf B n=some xs:=by
 unfold lstOf at e ⊢
 cases q:A[n]? with
 | none=>rw [q] at e;cases e
 | some o=>rw [h.get q];rw [q] at e;exact e
section
variable {it:ItM}{im:IM}{ixs:List (Option Nat)}{g:GM}{t:TM}{e:EM}{l:Lo}{S S1:Sto}{Q:D->Sto->Prop}{k:Nat}
theorem znl (xs:List D) (R:Nat->List D->Lo->Sto->Prop) (hit:∀i acc l S,R i acc l S->it i S=some xs[i]?)
  (step:∀(i:Nat) x acc l S,xs[i]? = some x->R i acc l S->Wg (g x l S) λl1 S1=>Wt t l1 S1 λb S2=>if b=true then We e l1 S2 λv S3=>R (i+1) (acc++[v]) l1 S3 else R (i+1) acc l1 S2) :
  ∀(n i:Nat) (acc:List D) (l:Lo) (S:Sto),n+i=xs.length->R i acc l S->∃rest S' l',zdr it g t e (n+1) i l S=some (rest,S')/\R xs.length (acc++rest) l' S'
 | 0,i,acc,l,S,hn,h=>by
  have hi:i=xs.length:=by omega
  have e0:=hit i acc l S h
  rw [List.getElem?_eq_none_iff.mpr (by omega)] at e0
  refine ⟨[],S,l,?_,by rw [List.append_nil,<-hi];exact h⟩
  unfold zdr;rw [e0];rfl
 | n+1,i,acc,l,S,hn,h=>by
  have hi:i<xs.length:=by omega
  have e0:=hit i acc l S h
  rw [qge hi] at e0
  obtain ⟨l1,S1,e1,b,S2,e2,q⟩:=step i _ acc l S (qge hi) h
  cases b with
  | true =>
   obtain ⟨v,S3,e3,q⟩:=q
   obtain ⟨rest,S',l',e4,q⟩:=znl xs R hit step n (i+1) (acc++[v]) l1 S3 (by omega) q
   refine ⟨v :: rest,S',l',?_,by rw [List.append_assoc] at q;exact q⟩
   unfold zdr;rw [e0];show (g _ l S).bind _=_;rw [e1];show (t l1 S1).bind _=_;rw [e2]
   show (e l1 S2).bind _=_;rw [e3];show (zdr it g t e (n+1) (i+1) l1 S3).bind _=_;rw [e4];rfl
  | false =>
   obtain ⟨rest,S',l',e4,q⟩:=znl xs R hit step n (i+1) acc l1 S2 (by omega) q
   refine ⟨rest,S',l',?_,q⟩
   unfold zdr;rw [e0];show (g _ l S).bind _=_;rw [e1];show (t l1 S1).bind _=_;rw [e2]
   exact e4
theorem znm (xs:List D) (R:Nat->List D->Lo->Sto->Prop) (him:im l S=some (it,xs.length+1,S1)) (h0:R 0 [] (za8 ixs l) S1) (hit:∀i acc l S,R i acc l S->it i S=some xs[i]?)
  (step:∀(i:Nat) x acc l S,xs[i]? = some x->R i acc l S->Wg (g x l S) λl1 S1=>Wt t l1 S1 λb S2=>if b=true then We e l1 S2 λv S3=>R (i+1) (acc++[v]) l1 S3 else R (i+1) acc l1 S2)
  (fin:∀acc l' S',R xs.length acc l' S'->acc.length<=sizeLine/\Q (.ref S'.length) (S'++[.lst acc])):We (zbc im ixs g t e) l S Q:=by
 obtain ⟨rest,S',l',h1,h2⟩:=znl (it:=it) (g:=g) (t:=t) (e:=e) xs R hit step xs.length 0 [] (za8 ixs l) S1 rfl h0
 obtain ⟨hz,q⟩:=fin rest l' S' h2
 refine ⟨_,_,?_,q⟩
 unfold zbc;rw [him];show (zdr it g t e (xs.length+1) 0 (za8 ixs l) S1).bind _=_;rw [h1];show (if _ then _ else _)=_;rw [if_pos hz]
theorem znn (xs:List D) (F:D->Option D) (P:Sto->Prop) (L:Lo->Prop) (him:im l S=some (it,xs.length+1,S1)) (h0:P S1) (l0:L (za8 ixs l)) (hit:∀i S,P S->it i S=some xs[i]?) (hz:xs.length<=sizeLine)
  (step:∀x l S,x∈xs->L l->P S->Wg (g x l S) λl1 S2=>L l1/\Wt t l1 S2 λb S3=>P S3/\(b=false->F x=none)/\(b=true->We e l1 S3 λv S4=>F x=some v/\P S4))
  (fin:∀S',P S'->Q (.ref S'.length) (S'++[.lst (xs.filterMap F)])):We (zbc im ixs g t e) l S Q:=by
 refine znm xs (λi acc l S=>acc=(xs.take i).filterMap F/\L l/\P S) him ⟨rfl,l0,h0⟩ (λi acc l S h=>hit i S h.2.2) ?_ ?_
 ·rintro i x acc l S hx ⟨rfl,hl,hp⟩
  obtain ⟨l1,S2,e1,q1,b,S3,e2,p3,hf,ht⟩:=step x l S (qmg hx) hl hp
  refine ⟨l1,S2,e1,b,S3,e2,?_⟩
  have et:xs.take (i+1)=xs.take i++[x]:=by rw [List.take_add_one,hx];rfl
  cases b with
  | true =>
   obtain ⟨v,S4,e4,hv,p4⟩:=ht rfl
   dsimp only
   rw [if_pos rfl]
   refine ⟨v,S4,e4,?_,q1,p4⟩
   rw [et,List.filterMap_append];simp [hv]
  | false =>
   dsimp only
   rw [if_neg Bool.false_ne_true]
   refine ⟨?_,q1,p3⟩
   rw [et,List.filterMap_append];simp [hf rfl]
 ·rintro acc l' S' ⟨rfl,hl,hp⟩
  rw [List.take_length]
  exact ⟨Nat.le_trans (List.length_filterMap_le _ _) hz,fin S' hp⟩
theorem zno (xs:List D) (V:D->Prop) (P:Nat->Sto->Prop) (L:Lo->Prop) (him:im l S=some (it,xs.length+1,S1)) (h0:P 0 S1) (l0:L (za8 ixs l)) (hit:∀i S,P i S->it i S=some xs[i]?) (hz:xs.length<=sizeLine)
  (step:∀(i:Nat) x l S,xs[i]? = some x->L l->P i S->Wg (g x l S) λl1 S2=>L l1/\We e l1 S2 λv S3=>V v/\P (i+1) S3)
  (fin:∀vs S',vs.length=xs.length->(∀v∈vs,V v)->P xs.length S'->Q (.ref S'.length) (S'++[.lst vs])):We (zbc im ixs g za5 e) l S Q:=by
 refine znm xs (λi acc l S=>acc.length=i/\(∀v∈acc,V v)/\L l/\P i S) him ⟨rfl,(λv hv=>by cases hv),l0,h0⟩ (λi acc l S h=>hit i S h.2.2.2) ?_ ?_
 ·rintro i x acc l S hx ⟨hl,hv,hL,hp⟩
  obtain ⟨l1,S2,e1,q1,v,S3,e2,hv2,p3⟩:=step i x l S hx hL hp
  refine ⟨l1,S2,e1,?_⟩
  dsimp only
  rw [zqw,if_pos rfl]
  refine ⟨v,S3,e2,by simp [hl],λu hu=>?_,q1,p3⟩
  rcases List.mem_append.mp hu with hu|hu
  ·exact hv u hu
  ·rw [List.mem_singleton.mp hu];exact hv2
 ·rintro acc l' S' ⟨hl,hv,hL,hp⟩
  exact ⟨by rw [hl];exact hz,fin acc S' hl hv hp⟩
end
theorem ydf {as:AM}{l:Lo}{S S1:Sto}{j:Int}(h:as l S=some ([.int j],S1)) (hz:-(2 ^ 62)<=j/\j<2 ^ 62):zdb as l S=some ((0,j.toNat),S1):=by
 unfold zdb;rw [h];simp only [Option.bind_some];rw [if_pos hz]
theorem znp {as:AM}{l:Lo}{S S1:Sto}{n:Nat}(h:as l S=some ([.int (n:Int)],S1)) (hn:n<1000000000):zi2 (zdb as) l S=some (itX (zda 0 n),(zda 0 n).length+1,S1):=by
 have:=ydf h ⟨by omega,by omega⟩
 unfold zi2;rw [this];simp only [Option.bind_some,Int.toNat_natCast,zhh]
theorem znq {e:EM}{l:Lo}{S S1:Sto}{xs:List D}(h:e l S=some (.tup xs,S1)):zb9 e l S=some (itX xs,xs.length+1,S1):=by
 unfold zb9;rw [h];rfl
theorem zse {e:EM}{l:Lo}{S S1:Sto}{n:Nat}{xs:List D}(h:e l S=some (.ref n,S1)) (hn:lstOf S1 n=some xs):zb9 e l S=some (itL n,xs.length+1,S1):=by
 unfold zb9;rw [h];show (lstOf S1 n).bind _=_;rw [hn];rfl
theorem zsf {n i:Nat}{S:Sto}{xs:List D}(hn:lstOf S n=some xs):itL n i S=some xs[i]?:=by unfold itL;rw [hn];rfl
section
variable {g:GM}{b:SM}
theorem znr (P:Nat->Lo->Sto->Prop) (O:D->Sto->Prop):∀(xs:List D) (k:Nat) (l:Lo) (S:Sto),P k l S ->
  (∀(i:Nat) x l S,xs[i]? = some x->P (k+i) l S->Wg (g x l S) λl1 S1=>Ws b l1 S1 λf l2 S2=>((f=.nx\/f=.ct)/\P (k+i+1) l2 S2)\/∃d,f=.rt d/\O d S2) ->
  Wr (zfr g b xs l S) λf l' S'=>(f=.nx/\P (k+xs.length) l' S')\/∃d,f=.rt d/\O d S'
 | [],k,l,S,h0,_=>⟨_,_,_,rfl,.inl ⟨rfl,h0⟩⟩
 | x :: xs,k,l,S,h0,hs=>by
  obtain ⟨l1,S1,e1,f,l2,S2,e2,q⟩:=hs 0 x l S rfl h0
  rcases q with ⟨hf,h1⟩|⟨d,rfl,hd⟩
  ·have ih:=znr P O xs (k+1) l2 S2 h1 λi y l S hy hp=>by
    have:=hs (i+1) y l S (by simpa using hy) (by rw [show k+(i+1)=k+1+i by omega];exact hp)
    rw [show k+(i+1)+1=k+1+i+1 by omega] at this
    exact this
   obtain ⟨f',l',S',e3,q1⟩:=ih
   refine ⟨f',l',S',?_,by rw [List.length_cons,show k+(xs.length+1)=k+1+xs.length by omega];exact q1⟩
   unfold zfr
   rw [e1];show (b l1 S1).bind _=_;rw [e2]
   rcases hf with rfl|rfl <;> exact e3
  ·refine ⟨_,l2,S2,?_,.inr ⟨d,rfl,hd⟩⟩
   unfold zfr
   rw [e1];show (b l1 S1).bind _=_;rw [e2];rfl
theorem zj3 (P:Nat->Lo->Sto->Prop) (O:D->Sto->Prop) {as:AM}{l:Lo}{S S1:Sto}{n:Nat}{QS:Fl->Lo->Sto->Prop}(h:as l S=some ([.int (n:Int)],S1)) (hn:n<1000000000) (h0:P 0 l S1)
  (step:∀(i:Nat) l S,i<n->P i l S->Wg (g (.int i) l S) λl1 S1=>Ws b l1 S1 λf l2 S2=>((f=.nx\/f=.ct)/\P (i+1) l2 S2)\/∃d,f=.rt d/\O d S2)
  (fin:∀l' S',P n l' S'->QS .nx l' S') (out:∀d l' S',O d S'->QS (.rt d) l' S'):Ws (zfi (zdb as) g b) l S QS:=by
 rw [yao]
 refine ⟨_,_,h,(n:Int),rfl,⟨by omega,by omega⟩,?_⟩
 rw [Int.toNat_natCast]
 refine (znr P O (zda 0 n) 0 l S1 h0 ?_).mono ?_
 ·intro i x l S hx hp
  obtain ⟨hi,rfl⟩:=yap hx
  rw [Nat.zero_add] at hp
  have:=step i l S hi hp
  rw [Int.zero_add,Nat.zero_add]
  exact this
 ·rintro f l' S' (⟨rfl,hp⟩|⟨d,rfl,hd⟩)
  ·rw [zhh,Nat.zero_add] at hp;exact fin l' S' hp
  ·exact out d l' S' hd
end
section
variable {S:Sto}{Q:D->Sto->Prop}{l:Lo}
theorem zcv {i j:Int}:Wo (dPlusA (.int i) (.int j) S) Q=Q (.int (i+j)) S:=zbs
theorem zsg {i j:Str}:Wo (dPlusA (.str i) (.str j) S) Q=(i.length+j.length<=sizeLine/\Q (.str (i++j)) S):=by
 by_cases h:i.length+j.length<=sizeLine
 ·have:dPlusA (.str i) (.str j) S=some (.str (i++j),S):=by unfold dPlusA zhk;simp only [h,if_true]
  rw [this,zbs];simp [h]
 ·have:dPlusA (.str i) (.str j) S=none:=by unfold dPlusA zhk;simp only [h,if_false];rfl
  rw [this,zsb];simp [h]
theorem zd2 {k:Bool}:Wo (zgc [.bl k] S) Q=Q (.int (if k then 1 else 0)) S:=zbs
def Wp (o:OM) (l:Lo) (S:Sto) (Q:Option Int->Sto->Prop):Prop:=∃v S',o l S=some (v,S')/\Q v S'
theorem zdl {Q:Option Int->Sto->Prop}:Wp zb4 l S Q=Q none S:=by
 apply propext
 exact ⟨λhx1_=>by obtain ⟨v,S',h,q⟩:=hx1_;cases h;exact q,λq=>⟨_,_,rfl,q⟩⟩
theorem zdm {e:EM}{Q:Option Int->Sto->Prop}:Wp (zbf e) l S Q=We e l S λx S1=>∃i,x=.int i/\Q (some i) S1:=by
 apply propext
 constructor
 ·rintro ⟨v,S',h,q⟩
  obtain ⟨⟨x,S1⟩,h1,h⟩:=bnd h
  refine ⟨x,S1,h1,?_⟩
  cases x with
  | int i=>cases h;exact ⟨i,rfl,q⟩
  | _=>cases h
 ·rintro ⟨x,S1,h1,i,rfl,q⟩
  exact ⟨_,S1,by unfold zbf;rw [h1];rfl,q⟩
theorem zdn {b:Int}{p:Int->Prop}:(∃k,D.int b=D.int k/\p k)=p b:=by
 apply propext;constructor
 ·rintro ⟨d,h,q⟩;cases h;exact q
 ·exact λq=>⟨b,rfl,q⟩
noncomputable def slA (x:D) (a b:Option Int) (S:Sto):Option (D × Sto):=match x with
 | .tup xs=>some (.tup (zez xs a b),S)
 | .ref n=>(lstOf S n).bind λxs=>some (.ref S.length,S++[.lst (zez xs a b)])
 | .str z=>if z.length<=sizeLine then some (.str (Txt.slice z a b),S) else none
 | _=>none
theorem zdo {m:EM}{lo hi:OM}:We (zbk m lo hi) l S Q=We m l S λx S1=>Wp lo l S1 λa S2=>Wp hi l S2 λb S3=>Wo (slA x a b S3) Q:=by
 apply propext
 constructor
 ·rintro ⟨v,S',h,q⟩
  obtain ⟨⟨x,S1⟩,h1,h⟩:=bnd h
  obtain ⟨⟨a,S2⟩,h2,h⟩:=bnd h
  obtain ⟨⟨b,S3⟩,h3,h⟩:=bnd h
  exact ⟨x,S1,h1,a,S2,h2,b,S3,h3,v,S',h,q⟩
 ·rintro ⟨x,S1,h1,a,S2,h2,b,S3,h3,v,S',h,q⟩
  refine ⟨v,S',?_,q⟩
  unfold zbk;rw [h1];show (lo l S1).bind _=_;rw [h2];show (hi l S2).bind _=_;rw [h3];exact h
theorem ydg {n:Nat}{xs:List D}{a b:Option Int}(h:lstOf S n=some xs):Wo (slA (.ref n) a b S) Q=Q (.ref S.length) (S++[.lst (zez xs a b)]):=by
 show Wo ((lstOf S n).bind λxs=>some (.ref S.length,S++[.lst (zez xs a b)])) Q=_
 rw [h];exact zbs
theorem ydh (xs:List D) (k:Nat):zez xs none (some (k:Int))=xs.take k:=by
 unfold zez;rw [HT.sIx_none,HT.sIx_nat,List.drop_zero,Nat.sub_zero]
 by_cases h:k<=xs.length
 ·rw [Nat.min_eq_left h]
 ·rw [Nat.min_eq_right (by omega),List.take_length,List.take_of_length_le (by omega)]
end
section
variable {it:ItM}{im:IM}{g:GM}{b:SM}
theorem zsh (xs:List D) (P:Nat->Lo->Sto->Prop) (O:D->Sto->Prop) (hit:∀i l S,P i l S->it i S=some xs[i]?)
  (step:∀(i:Nat) x l S,xs[i]? = some x->P i l S->Wg (g x l S) λl1 S1=>Ws b l1 S1 λf l2 S2=>((f=.nx\/f=.ct)/\P (i+1) l2 S2)\/∃d,f=.rt d/\O d S2) :
  ∀(n i:Nat) (l:Lo) (S:Sto),n+i=xs.length->P i l S->Wr (zgb it g b (n+1) i l S) λf l' S'=>(f=.nx/\P xs.length l' S')\/∃d,f=.rt d/\O d S'
 | 0,i,l,S,hn,h=>by
  have hi:i=xs.length:=by omega
  have e0:=hit i l S h
  rw [List.getElem?_eq_none_iff.mpr (by omega)] at e0
  refine ⟨.nx,l,S,?_,.inl ⟨rfl,by rw [<-hi];exact h⟩⟩
  unfold zgb;rw [e0];rfl
 | n+1,i,l,S,hn,h=>by
  have hi:i<xs.length:=by omega
  have e0:=hit i l S h
  rw [qge hi] at e0
  obtain ⟨l1,S1,e1,f,l2,S2,e2,q⟩:=step i _ l S (qge hi) h
  rcases q with ⟨hf,h1⟩|⟨d,rfl,hd⟩
  ·obtain ⟨f',l',S',e3,q1⟩:=zsh xs P O hit step n (i+1) l2 S2 (by omega) h1
   refine ⟨f',l',S',?_,q1⟩
   unfold zgb;rw [e0];show (g _ l S).bind _=_;rw [e1];show (b l1 S1).bind _=_;rw [e2]
   rcases hf with rfl|rfl <;> exact e3
  ·refine ⟨_,l2,S2,?_,.inr ⟨d,rfl,hd⟩⟩
   unfold zgb;rw [e0];show (g _ l S).bind _=_;rw [e1];show (b l1 S1).bind _=_;rw [e2];rfl
theorem ydi (xs:List D) (P:Nat->Lo->Sto->Prop) (O:D->Sto->Prop) {l:Lo}{S S1:Sto}{QS:Fl->Lo->Sto->Prop}(him:im l S=some (it,xs.length+1,S1)) (h0:P 0 l S1) (hit:∀i l S,P i l S->it i S=some xs[i]?)
  (step:∀(i:Nat) x l S,xs[i]? = some x->P i l S->Wg (g x l S) λl1 S1=>Ws b l1 S1 λf l2 S2=>((f=.nx\/f=.ct)/\P (i+1) l2 S2)\/∃d,f=.rt d/\O d S2)
  (fin:∀l' S',P xs.length l' S'->QS .nx l' S') (out:∀d l' S',O d S'->QS (.rt d) l' S'):Ws (zj2 im g b) l S QS:=by
 obtain ⟨f,l',S',e,q⟩:=zsh (it:=it) (g:=g) (b:=b) xs P O hit step xs.length 0 l S1 rfl h0
 refine ⟨f,l',S',by unfold zj2;rw [him];exact e,?_⟩
 rcases q with ⟨rfl,h⟩|⟨d,rfl,h⟩
 ·exact fin l' S' h
 ·exact out d l' S' h
theorem ydj {e:EM}(xs:List D) (P:Nat->Lo->Sto->Prop) (O:D->Sto->Prop) {l:Lo}{S S1:Sto}{QS:Fl->Lo->Sto->Prop}(he:e l S=some (.tup xs,S1)) (h0:P 0 l S1)
  (step:∀(i:Nat) x l S,xs[i]? = some x->P i l S->Wg (g x l S) λl1 S1=>Ws b l1 S1 λf l2 S2=>((f=.nx\/f=.ct)/\P (i+1) l2 S2)\/∃d,f=.rt d/\O d S2)
  (fin:∀l' S',P xs.length l' S'->QS .nx l' S') (out:∀d l' S',O d S'->QS (.rt d) l' S'):Ws (zfh e g b) l S QS:=by
 rw [zqx]
 refine ⟨_,_,he,?_⟩
 refine (znr P O xs 0 l S1 h0 ?_).mono ?_
 ·intro i x l S hx hp
  rw [Nat.zero_add] at hp ⊢
  exact step i x l S hx hp
 ·rintro f l' S' (⟨rfl,hp⟩|⟨d,rfl,hd⟩)
  ·rw [Nat.zero_add] at hp;exact fin l' S' hp
  ·exact out d l' S' hd
theorem zsi {n:Nat}(xs:List D) (P:Nat->Lo->Sto->Prop) (O:D->Sto->Prop) (hit:∀i l S,P i l S->lstOf S n=some xs)
  (step:∀(i:Nat) x l S,xs[i]? = some x->P i l S->Wg (g x l S) λl1 S1=>Ws b l1 S1 λf l2 S2=>((f=.nx\/f=.ct)/\P (i+1) l2 S2)\/∃d,f=.rt d/\O d S2) :
  ∀(k i:Nat) (l:Lo) (S:Sto),k+i=xs.length->P i l S->Wr (zfs g b n (k+1) i l S) λf l' S'=>(f=.nx/\P xs.length l' S')\/∃d,f=.rt d/\O d S'
 | 0,i,l,S,hn,h=>by
  have hi:i=xs.length:=by omega
  refine ⟨.nx,l,S,?_,.inl ⟨rfl,by rw [<-hi];exact h⟩⟩
  unfold zfs;rw [hit i l S h];simp only [Option.bind_some];rw [List.getElem?_eq_none_iff.mpr (by omega)]
 | k+1,i,l,S,hn,h=>by
  have hi:i<xs.length:=by omega
  obtain ⟨l1,S1,e1,f,l2,S2,e2,q⟩:=step i _ l S (qge hi) h
  rcases q with ⟨hf,h1⟩|⟨d,rfl,hd⟩
  ·obtain ⟨f',l',S',e3,q1⟩:=zsi xs P O hit step k (i+1) l2 S2 (by omega) h1
   refine ⟨f',l',S',?_,q1⟩
   unfold zfs;rw [hit i l S h];simp only [Option.bind_some];rw [qge hi];show (g _ l S).bind _=_;rw [e1];show (b l1 S1).bind _=_;rw [e2]
   rcases hf with rfl|rfl <;> exact e3
  ·refine ⟨_,l2,S2,?_,.inr ⟨d,rfl,hd⟩⟩
   unfold zfs;rw [hit i l S h];simp only [Option.bind_some];rw [qge hi];show (g _ l S).bind _=_;rw [e1];show (b l1 S1).bind _=_;rw [e2];rfl
theorem ydk {e:EM}{n:Nat}(xs:List D) (P:Nat->Lo->Sto->Prop) (O:D->Sto->Prop) {l:Lo}{S S1:Sto}{QS:Fl->Lo->Sto->Prop}(he:e l S=some (.ref n,S1)) (h0:P 0 l S1) (hit:∀i l S,P i l S->lstOf S n=some xs)
  (step:∀(i:Nat) x l S,xs[i]? = some x->P i l S->Wg (g x l S) λl1 S1=>Ws b l1 S1 λf l2 S2=>((f=.nx\/f=.ct)/\P (i+1) l2 S2)\/∃d,f=.rt d/\O d S2)
  (fin:∀l' S',P xs.length l' S'->QS .nx l' S') (out:∀d l' S',O d S'->QS (.rt d) l' S'):Ws (zfh e g b) l S QS:=by
 rw [zqx]
 refine ⟨_,_,he,?_⟩
 simp only
 rw [hit 0 l S1 h0];simp only [Option.bind_some]
 refine (zsi xs P O hit step xs.length 0 l S1 rfl h0).mono ?_
 rintro f l' S' (⟨rfl,hp⟩|⟨d,rfl,hd⟩)
 ·exact fin l' S' hp
 ·exact out d l' S' hd
end
theorem zns (B:Nat):∀ts:List Str,(∀t∈ts,t.length<=B)->(ts.map (·.length)).sum<=B*ts.length
 | [],_=>Nat.zero_le _
 | t :: ts,h=>by
  have h1:=h t List.mem_cons_self
  have h2:=zns B ts λx hx=>h x (List.mem_cons_of_mem _ hx)
  simp only [List.map_cons,List.sum_cons,List.length_cons]
  rw [Nat.mul_add];omega
theorem zsj (xs:List PyData):PyData.shownAll xs=xs.map PyData.shown:=by
 induction xs with
 | nil=>rfl
 | cons x xs ih=>unfold PyData.shownAll;rw [ih];rfl
theorem ydl (B:Nat) (xs:List PyData) (h:∀x∈xs,x.shown.length<=B):(PyData.list xs).shown.length<=B*xs.length+2*xs.length+3:=by
 show (listText (PyData.shownAll xs)).length<=_
 rw [zsj]
 have h1:=listText_len_le (xs.map PyData.shown)
 have h2:=zns B (xs.map PyData.shown) λt ht=>by
  obtain ⟨p,hp,rfl⟩:=List.mem_map.mp ht
  exact h p hp
 simp only [qlm] at h1 h2
 omega
theorem ydm (B:Nat) (xs:List PyData) (h:∀x∈xs,x.shown.length<=B):(PyData.tuple xs).shown.length<=B*xs.length+2*xs.length+3:=by
 show (tupleText (PyData.shownAll xs)).length<=_
 rw [zsj]
 have h1:=tupleText_len_le (xs.map PyData.shown)
 have h2:=zns B (xs.map PyData.shown) λt ht=>by
  obtain ⟨p,hp,rfl⟩:=List.mem_map.mp ht
  exact h p hp
 simp only [qlm] at h1 h2
 omega
def Sh (S:Sto) (k B:Nat) (d:D):Prop:=∃p:PyData,p.shown.length<=B/\∀S',Gr S S'->zap S' k d=some p
theorem Sh.le {S:Sto}{k B B':Nat}{d:D}(h:Sh S k B d) (hb:B<=B'):Sh S k B' d:=let ⟨p,h1,h2⟩:=h;⟨p,Nat.le_trans h1 hb,h2⟩
theorem znt {S:Sto}{k B:Nat}:∀(xs:List D),(∀x∈xs,Sh S k B x)->∃ps:List PyData,ps.length=xs.length/\(∀p∈ps,p.shown.length<=B)/\∀S',Gr S S'->pyAll S' k xs=some ps
 | [],_=>⟨[],rfl,(λp hp=>by cases hp),λex _=>by unfold pyAll;rfl⟩
 | x :: xs,h=>by
  obtain ⟨p,h1,h2⟩:=h x List.mem_cons_self
  obtain ⟨ps,h3,h4,h5⟩:=znt xs λy hy=>h y (List.mem_cons_of_mem _ hy)
  refine ⟨p :: ps,by simp [h3],λq hq=>?_,λex g=>?_⟩
  ·rcases List.mem_cons.mp hq with rfl|hq
   ·exact h1
   ·exact h4 q hq
  ·unfold pyAll;rw [h2 ex g,h5 ex g];rfl
theorem zlk {S:Sto}{k B n:Nat}{xs:List D}(h:∀x∈xs,Sh S k B x) (hn:xs.length<=n):Sh S (k+1) (B*n+2*n+3) (.tup xs):=by
 obtain ⟨ps,h1,h2,h3⟩:=znt xs h
 refine ⟨.tuple ps,?_,λex g=>?_⟩
 ·have:=ydm B ps h2
  rw [h1] at this
  have h4:B*xs.length<=B*n:=Nat.mul_le_mul_left _ hn
  omega
 ·unfold zap;rw [h3 ex g];rfl
theorem ydn {S:Sto}{k B n j:Nat}{xs:List D}(hj:lstOf S j=some xs) (h:∀x∈xs,Sh S k B x) (hn:xs.length<=n):Sh S (k+1) (B*n+2*n+3) (.ref j):=by
 obtain ⟨ps,h1,h2,h3⟩:=znt xs h
 refine ⟨.list ps,?_,λex g=>?_⟩
 ·have:=ydl B ps h2
  rw [h1] at this
  have h4:B*xs.length<=B*n:=Nat.mul_le_mul_left _ hn
  omega
 ·unfold zap;rw [g.lst hj];show (pyAll ex k xs).bind _=_;rw [h3 ex g];rfl
theorem zll {n:Nat}(h:n<1000000):((n:Nat):Int).natAbs.log2<1920:=by
 by_cases hz:n=0
 ·subst hz;decide
 ·have h1:((n:Nat):Int).natAbs=n:=by omega
  rw [h1]
  have h2:n.log2<20:=(Nat.log2_lt hz).mpr (Nat.lt_of_lt_of_le h (by decide))
  omega
theorem zsk {S:Sto}{k n:Nat}(h:n<1000000):Sh S (k+1) 10 (.int n):=by
 refine ⟨.int n,?_,λex _=>by unfold zap;rw [if_pos (zll h)]⟩
 show (PySem.Str.ofString (toString (n:Int))).length<=10
 exact PySem.W.KT.len_num (by omega) (by omega)
theorem ydo {S:Sto}{k:Nat}:Sh S (k+1) 10 .non:=⟨.none,by decide +kernel,λex _=>by unfold zap;rfl⟩
theorem ydp {S:Sto}{k B:Nat}{z:Str}(h:z.length<=B) (hc:∀c∈z.cps.toList,c<128):Sh S (k+1) (10*B+2) (.str z):=by
 refine ⟨.str z,?_,λex _=>by unfold zap;rfl⟩
 have:=StrLaws.reprText_len z λc hc'=>Nat.lt_of_lt_of_le (hc c hc') (by decide)
 show (PyData.str z).shown.length<=_;unfold PyData.shown
 omega
section
variable {l:Lo}{S:Sto}{Q:D->Sto->Prop}{QG:Lo->Sto->Prop}{a b c:EM}
end
theorem Gr.len {A B:Sto}(h:Gr A B):A.length<=B.length:=by obtain ⟨x,rfl⟩:=h;rw [qla];omega
theorem Gr.set {A B:Sto}{r:Nat}(h:Gr A B) (hr:A.length<=r) (o:Ob):Gr A (B.set r o):=by
 obtain ⟨x,rfl⟩:=h
 exact ⟨x.set (r-A.length) o,by rw [List.set_append_right _ _ hr]⟩
section
variable {a b m:EM}{ms:List EM}{l:Lo}{S S1:Sto}{Q:D->Sto->Prop}{out:Str}
theorem zsl:We (eFv m) l S Q=We m l S λx S1=>∃z,fvD x=some z/\Q (.str z) S1:=by
 apply propext
 constructor
 ·rintro ⟨v,S',h,q⟩
  obtain ⟨⟨x,S1⟩,h1,h⟩:=bnd h
  obtain ⟨z,h2,h⟩:=bnd h
  cases h
  exact ⟨x,_,h1,z,h2,q⟩
 ·rintro ⟨x,S1,h1,z,h2,q⟩
  exact ⟨_,_,by unfold eFv;rw [h1];show (fvD x).bind _=_;rw [h2];rfl,q⟩
theorem ydq:We (eJp out []) l S Q=(out.length<=sizeLine/\Q (.str out) S):=zgs
theorem znu:We (eJp out (m :: ms)) l S Q=We m l S λx S1=>∃z,x=.str z/\(out++z).length<=sizeLine/\We (eJp (out++z) ms) l S1 Q:=by
 apply propext
 constructor
 ·rintro ⟨v,S',h,q⟩
  obtain ⟨⟨x,S1⟩,h1,h⟩:=bnd (show (m l S).bind (λp=>match p.1 with
   | .str z=>if (out++z).length<=sizeLine then eJp (out++z) ms l p.2 else none
   | _=>none)=some (v,S') from h)
  cases x with
  | str z =>
   obtain ⟨hz,h⟩:=znf h
   exact ⟨_,S1,h1,z,rfl,hz,v,S',h,q⟩
  | _=>cases h
 ·rintro ⟨x,S1,h1,z,rfl,hz,v,S',h,q⟩
  refine ⟨v,S',?_,q⟩
  show (m l S).bind (λp=>match p.1 with
   | .str z=>if (out++z).length<=sizeLine then eJp (out++z) ms l p.2 else none
   | _=>none)=_
  rw [h1];show (if (out++z).length<=sizeLine then _ else _)=_;rw [if_pos hz];exact h
theorem znv:We (zh8 a b) l S Q=We a l S λx S1=>∃z,x=.str z/\z.length<=sizeLine/\if z.length=0 then We b l S1 Q else Q (.str z) S1:=by
 apply propext
 constructor
 ·rintro ⟨v,S',h,q⟩
  obtain ⟨⟨x,S1⟩,h1,h⟩:=bnd h
  cases x with
  | str z =>
   obtain ⟨hz,h⟩:=znf (show (if z.length<=sizeLine then (if z.length=0 then b l S1 else some (.str z,S1)) else none)=some (v,S') from h)
   refine ⟨_,S1,h1,z,rfl,hz,?_⟩
   by_cases h0:z.length=0
   ·rw [if_pos h0] at h ⊢;exact ⟨v,S',h,q⟩
   ·rw [if_neg h0] at h ⊢;cases h;exact q
  | _=>cases h
 ·rintro ⟨x,S1,h1,z,rfl,hz,h⟩
  by_cases h0:z.length=0
  ·rw [if_pos h0] at h
   obtain ⟨v,S',h,q⟩:=h
   exact ⟨v,S',by unfold zh8;rw [h1];show (if z.length<=sizeLine then _ else _)=_;rw [if_pos hz,if_pos h0];exact h,q⟩
  ·rw [if_neg h0] at h
   exact ⟨_,_,by unfold zh8;rw [h1];show (if z.length<=sizeLine then _ else _)=_;rw [if_pos hz,if_neg h0],h⟩
theorem znw {e:EM}{z:Str}(h:e l S=some (.str z,S1)):zcd e l S=some (itX (sgn z),(sgn z).length+1,S1):=by
 unfold zcd;rw [h,zi3];rfl
theorem zhp (ts:List Str):zft (ts.map D.str)=some ts:=by
 induction ts with
 | nil=>rfl
 | cons t ts ih=>show (zft (ts.map D.str)).bind _=_;rw [ih];rfl
theorem zlm {α:Type}{im:IM}{it:ItM}{ixs:List (Option Nat)}{g:GM}{e:EM}(ys:List α) (f h:α->D) (P:Sto->Prop) (L:Lo->Prop) (him:im l S=some (it,(ys.map f).length+1,S1)) (h0:P S1) (l0:L (za8 ixs l)) (hit:∀i S,P S->it i S=some (ys.map f)[i]?) (hz:ys.length<=sizeLine)
  (step:∀y l S,y∈ys->L l->P S->Wg (g (f y) l S) λl1 S2=>L l1/\We e l1 S2 λv S3=>v=h y/\P S3)
  (fin:∀S',P S'->Q (.ref S'.length) (S'++[.lst (ys.map h)])):We (zbc im ixs g za5 e) l S Q:=by
 refine znm (ys.map f) (λi acc l S=>acc=(ys.take i).map h/\L l/\P S) him ⟨rfl,l0,h0⟩ (λi acc l S h=>hit i S h.2.2) ?_ ?_
 ·rintro i x acc l S hx ⟨rfl,hl,hp⟩
  rw [qgm] at hx
  obtain ⟨y,hy,rfl⟩:=Option.map_eq_some_iff.mp hx
  obtain ⟨l1,S2,e1,q1,v,S3,e2,rfl,p3⟩:=step y l S (qmg hy) hl hp
  refine ⟨l1,S2,e1,?_⟩
  dsimp only
  rw [zqw,if_pos rfl]
  refine ⟨_,S3,e2,?_,q1,p3⟩
  rw [List.take_add_one,hy];simp
 ·rintro acc l' S' ⟨rfl,hl,hp⟩
  have e:ys.take (ys.map f).length=ys:=by rw [qlm,List.take_length]
  rw [e]
  exact ⟨by rw [qlm];exact hz,fin S' hp⟩
end
open PySem.Spec PyProof.Rows L2
noncomputable def zj4:D->List D->Sto->Option (D × Sto)
 | .str z,[.tup xs],S=>(zft xs).bind λts=>if (ts.map (·.length)).sum+ts.length*z.length<=16777216 then some (.str (Str.join z ts),S) else none
 | _,_,_=>none
def zsm:V->List V->Hp->VK->Prop:=λx vs H Q=>∃z p ts,x=.str z/\vs=[.ref p]/\H p=some (.tup (ts.map V.str))/\(ts.map (·.length)).sum+ts.length*z.length<=16777216/\Q (.str (Str.join z ts)) H
section
variable {X:Cx}
theorem ydr:MtM X "str.join" zsm:=by
 intro pins s σ H x vs v us Q I rx rv h
 obtain ⟨z,p,ts,rfl,rfl,hH,hz,q⟩:=h
 obtain ⟨t,rfl⟩:=rx
 obtain ⟨u,rfl,ru⟩:=rv.one
 cases ru
 obtain ⟨its,r,td⟩:=ycx I hH
 refine join_tuple td.tup (zm7 (by simpa using r)) hz λt' k=>?_
 exact ⟨.str _,H,I.tok _,⟨t',by show Value.str (Builtin.Str.glued z ts) t' = _;rw [StrLaws.glued_eq_join]⟩,q⟩
theorem yds {K:QFg}:Mt3 K zj4 zsm:=by
 intro ρ S H x x' xs vs v S' Q sim rx r h p
 unfold zj4 at h
 split at h
 ·obtain ⟨ts,h2,h⟩:=bnd h
  obtain ⟨hz,e⟩:=zb3 h
  cases e
  obtain ⟨w,rfl,rw'⟩:=r.one
  cases rx
  cases rw' with
  | tup ha rr =>
   have:=zm8 h2 rr
   subst this
   exact ⟨_,_,ts,rfl,rfl,ha,hz,p ρ H _ (Ext.refl ..) sim (.str _)⟩
 ·cases h
variable {o e:Expr}{mo m:EM}{apos cpos:Pos}
theorem ydt (ho:PE3 X o mo) (he:PE3 X e m)
  (hbase:attributeBase o "join" X.env (eval o X.env)=eval o X.env:=by rfl)
  (hfew:((backTo cpos (starEach [e] X.env)).all (λx=>!x.1) && (backToKw cpos (keywordEach [] X.env)).all (λx=>x.1.isSome)
   && decide ([e].length+([]:List Keyword).length+(if ([]:List Keyword).isEmpty then 0 else 1)<30))=true:=by rfl)
  (hline:(apos.endLine == cpos.line)=true:=by rfl) (hs:starEach [e] X.env=(false,eval e X.env) :: starEach [] X.env:=by rfl) :
  PE3 X (.Call (.Attribute o "join" apos) [e] [] cpos) (zbt zj4 mo (zaa m zab)) :=
 PE.imp (zkw PySem.F.plainAttrs_str PySem.F.slot_str_join PySem.F.type_str_join ydr ho (zae he zaf hs) hbase hfew hline hs rfl) λσ H Q hx3_=>by
  obtain ⟨ρ,l,S,v,S',sim,ro,hq,p⟩:=hx3_
  obtain ⟨⟨x,S1⟩,h1,hq⟩:=bnd hq
  obtain ⟨_,h2,hq⟩:=bnd hq
  obtain ⟨⟨ys,S2⟩,h4,hq⟩:=bnd hq
  refine ⟨ρ,l,S,x,S1,sim,ro,h1,λρ1 H1 x' e1 s1 r1=>⟨?_,ρ1,l,S1,ys,S2,s1,ro.mono e1,h4,λρ2 H2 vs e2 s2 r2=>yds ρ2 S2 H2 x x' ys vs v S' Q s2 (r1.mono e2) r2 hq (p.ext (e1.trans e2))⟩⟩
  cases r1 with
  | str z=>exact rfl
  | _=>cases h2
theorem ydu {z:Str}{ts:List Str}{S:Sto}{Q:D->Sto->Prop}(h:(ts.map (·.length)).sum+ts.length*z.length<=16777216):Wo (zj4 (.str z) [.tup (ts.map D.str)] S) Q=Q (.str (Str.join z ts)) S:=by
 have e:zft (ts.map D.str)=some ts:=by
  induction ts with
  | nil=>rfl
  | cons t r ih=>show (zft (r.map D.str)).bind _=_;rw [ih (by simp only [List.map_cons,List.sum_cons,List.length_cons,Nat.add_mul] at h;omega)];rfl
 show Wo ((zft (ts.map D.str)).bind _) Q=_
 rw [e]
 show Wo (if _ then _ else _) Q=_
 rw [if_pos h];exact zbs
noncomputable def zi8:FM
 | [.non],S=>some (.str "None",S)
 | ds,S=>zgt ds S
theorem call_str_none:CallR X (.type "str") (λxs H Q=>xs=[.non]/\Q (.str "None") H):=by
 intro pins s σ H xs us Q I r h
 obtain ⟨rfl,q⟩:=h
 obtain ⟨u,rfl,r1⟩:=zgk r
 cases r1
 exact PySem.P.str_of_none ⟨.str "None",H,I.tok _,⟨_,rfl⟩,q⟩
theorem ydv {K:QFg}:Fn3 K zi8 (λxs H Q=>(xs=[.non]/\Q (.str "None") H)\/∃i,xs=[.int i]/\i.natAbs.log2<1920/\Q (.str (toString i)) H):=by
 intro ρ S H xs vs v S' Q sim r h p
 unfold zi8 at h
 split at h
 ·cases h
  obtain ⟨w,rfl,rw'⟩:=r.one
  cases rw'
  exact .inl ⟨rfl,p ρ H _ (Ext.refl ..) sim (.str _)⟩
 ·exact .inr (zq9 ρ S H _ vs v S' Q sim r h p)
theorem ydw {a:Expr}{es:List Expr}{mA:AM}{pos p:Pos}(hg:Gl X "str") (hm:X.mg "str" = none) (ha:PA3 X (a :: es) mA) (he:starEach (a :: es) X.env=(false,eval a X.env) :: starEach es X.env:=by rfl) (hpl:(backTo pos (starEach es X.env)).any (·.1)=false:=by rfl):PE3 X (.Call (.Name "str" p) (a :: es) [] pos) (zac zi8 mA) :=
 zjo (call_str_none.or zph) ydv hg hm zk8 ha (by decide) (by decide) he hpl
theorem ydx {S:Sto}{Q:D->Sto->Prop}:Wo (zi8 [.non] S) Q=Q (.str "None") S:=zbs
theorem ydy {i:Int}{S:Sto}{Q:D->Sto->Prop}:Wo (zi8 [.int i] S) Q=(i.natAbs.log2<1920/\Q (.str (toString i)) S):=zc8
noncomputable def zln:List Expr->Option (List Str)
 | []=>some []
 | .Constant (.str z) _ _ :: r=>(zln r).bind λzs=>some (z :: zs)
 | _=>none
noncomputable def aTx:List Str->AM
 | []=>zab
 | z :: r=>zaa (eC (.str z)) (aTx r)
theorem zsn:∀{es:List Expr}{zs:List Str},zln es=some zs->PA3 X es (aTx zs)
 | [],zs,h=>by cases h;exact zaf
 | e :: es,zs,h=>by
  unfold zln at h
  split at h
  ·rename_i q;cases q
  ·rename_i q
   cases q
   obtain ⟨ws,h1,h2⟩:=bnd h
   cases h2
   exact zae zaz (zsn h1) rfl
  ·cases h
theorem ydz {es:List Expr}{zs:List Str}{pos:Pos}(h:zln es=some zs):PE3 X (.List es pos) (zac za3 (aTx zs)):=zcb (zsn h)
theorem yd0 {l:Lo}{S:Sto}{Q:List D->Sto->Prop}:∀{zs:List Str},Wa (aTx zs) l S Q=Q (zs.map D.str) S:=by
 intro zs
 induction zs generalizing Q with
 | nil=>exact zat
 | cons z r ih=>unfold aTx;rw [zaw,za1,ih];rfl
end
end L3
section
namespace G
open PySem PySem.Spec PyProof.Rows L2 L3
noncomputable abbrev bd:List Stmt:=PySem.Challenge.pw_opencells_k63_sheets_and_nets_written.main.body
noncomputable def zso:SM:=zah (zfi (zdb (zaa (eVar 1) (zab))) (gName3 2) (sIf (tE (eOp dEq (eVar 0) (zac zgt (zaa (eVar 2) (zab))))) (sRet (eVar 2)) (zaq))) (zea)
noncomputable def zej:FM:=zbm 3 zso
noncomputable def zsp:ZM:=zcq (zfi (zdb (zaa (eVar 1) (zab))) (gName3 2) (sIf (tE (eOp dEq (eVar 0) (zac zgt (zaa (eVar 2) (zab))))) (sRet (eVar 2)) (zaq))) (λ_ S=>some ("NoText",S))
noncomputable def zew:ZF:=zge 3 zsp
noncomputable def zsq:SM:=sRet (zeq (tE (eOp dEq (eVar 0) (eC (.str "-")))) (eC .non) (zac zej (zaa (eVar 0) (zaa (eVar 1) (zab)))))
noncomputable def ze8:FM:=zbm 2 zsq
noncomputable def znx:ZM:=zIf (tE (eOp dEq (eVar 0) (eC (.str "-")))) (zed) (zb8 zew (zaa (eVar 0) (zaa (eVar 1) (zab))))
noncomputable def zgv:ZF:=zge 2 znx
noncomputable def zny:SM:=sIf (zbi (tE (eUn (zjv "str") (eVar 0)))) (zea) (zaq)
noncomputable def ze0:FM:=zbm 1 zny
noncomputable def zj5:ZM:=zIf (zbi (tE (eUn (zjv "str") (eVar 0)))) (λ_ S=>some ("NoText",S)) (zed)
noncomputable def zgh:ZF:=zge 1 zj5
noncomputable def zsr:SM:=zah (zdq (zac ze0 (zaa (eVar 1) (zab)))) (zah (sIf (tE (eOp dEq (eVar 1) (eC (.str "-")))) (sRet (zac zbl (zab))) (zaq)) (zah (sIf (tE (eOp dEq (eVar 1) (eC (.str "")))) (zea) (zaq)) (sRet (zac zc9 (zaa (zbc (zcd (eVar 1)) [none,some 0] (gName3 0) (za5) (zac zej (zaa (eVar 0) (zaa (eVar 1) (zab))))) (zab))))))
noncomputable def zgi:FM:=zbm 2 zsr
noncomputable def znz:ZM:=zOr (zb8 zgh (zaa (eVar 1) (zab))) (zcq (zdq (zac ze0 (zaa (eVar 1) (zab)))) (zcq (sIf (tE (eOp dEq (eVar 1) (eC (.str "-")))) (sRet (zac zbl (zab))) (zaq)) (zOr (zIf (tE (eOp dEq (eVar 1) (eC (.str "")))) (λ_ S=>some ("NoText",S)) (zed)) (zcq (sIf (tE (eOp dEq (eVar 1) (eC (.str "")))) (zea) (zaq)) (ze7 (zcd (eVar 1)) [none,some 0] (gName3 0) (za5) (zac zej (zaa (eVar 0) (zaa (eVar 1) (zab)))) (zb8 zew (zaa (eVar 0) (zaa (eVar 1) (zab)))))))))
noncomputable def zia:ZF:=zge 2 znz
noncomputable def zss:SM:=zah (zak (zbt zei (eVar 1) (zaa (eC (.str " ")) zab)) (gName3 2)) (zah (sIf (tE (eOp dNe (zac zax (zaa (eVar 2) (zab))) (eC (.int 2)))) (zea) (zaq)) (zah (zak (zac zgi (zaa (eVar 0) (zaa (eOp zav (eVar 2) (eC (.int 0))) (zab)))) (gName3 3)) (zah (zak (zac zc9 (zaa (zbc (zcd (eOp zav (eVar 2) (eC (.int 1)))) [none] (gName3 0) (za5) (zac ze8 (zaa (eVar 0) (zaa (eC (.int 8)) (zab))))) (zab))) (gName3 4)) (zah (sIf (zca (zbi (tE (zf2 dLe dLe (eC (.int 1)) (zac zax (zaa (eVar 3) (zab))) (eC (.int 12))))) (tE (eOp dNe (zac zax (zaa (eVar 4) (zab))) (zac zax (zaa (eVar 3) (zab)))))) (zea) (zaq)) (sRet (zac zbl (zaa (eVar 3) (zaa (eVar 4) (zab)))))))))
noncomputable def zfk:FM:=zbm 5 zss
noncomputable def zn0:ZM:=zcq (zak (zbt zei (eVar 1) (zaa (eC (.str " ")) zab)) (gName3 2)) (zOr (zIf (tE (eOp dNe (zac zax (zaa (eVar 2) (zab))) (eC (.int 2)))) (λ_ S=>some ("NoText",S)) (zed)) (zcq (sIf (tE (eOp dNe (zac zax (zaa (eVar 2) (zab))) (eC (.int 2)))) (zea) (zaq)) (zOr (zb8 zia (zaa (eVar 0) (zaa (eOp zav (eVar 2) (eC (.int 0))) (zab)))) (zcq (zak (zac zgi (zaa (eVar 0) (zaa (eOp zav (eVar 2) (eC (.int 0))) (zab)))) (gName3 3)) (zOr (ze7 (zcd (eOp zav (eVar 2) (eC (.int 1)))) [none] (gName3 0) (za5) (zac ze8 (zaa (eVar 0) (zaa (eC (.int 8)) (zab)))) (zb8 zgv (zaa (eVar 0) (zaa (eC (.int 8)) (zab))))) (zcq (zak (zac zc9 (zaa (zbc (zcd (eOp zav (eVar 2) (eC (.int 1)))) [none] (gName3 0) (za5) (zac ze8 (zaa (eVar 0) (zaa (eC (.int 8)) (zab))))) (zab))) (gName3 4)) (zIf (zca (zbi (tE (zf2 dLe dLe (eC (.int 1)) (zac zax (zaa (eVar 3) (zab))) (eC (.int 12))))) (tE (eOp dNe (zac zax (zaa (eVar 4) (zab))) (zac zax (zaa (eVar 3) (zab)))))) (λ_ S=>some ("NoText",S)) (zed))))))))
noncomputable def zgw:ZF:=zge 5 zn0
noncomputable def zn1:SM:=zah (zdq (zac ze0 (zaa (eVar 0) (zab)))) (zah (zak (zeq (tE (eOp dEq (eVar 0) (eC (.str "none")))) (zac za3 (zab)) (zbt zei (eVar 0) (zaa (eVar 1) zab))) (gName3 3)) (zah (sIf (tE (eOp dGt (zac zax (zaa (eVar 3) (zab))) (eVar 2))) (zea) (zaq)) (sRet (eVar 3))))
noncomputable def zd7:FM:=zbm 4 zn1
noncomputable def zj6:ZM:=zOr (zb8 zgh (zaa (eVar 0) (zab))) (zcq (zdq (zac ze0 (zaa (eVar 0) (zab)))) (zcq (zak (zeq (tE (eOp dEq (eVar 0) (eC (.str "none")))) (zac za3 (zab)) (zbt zei (eVar 0) (zaa (eVar 1) zab))) (gName3 3)) (zIf (tE (eOp dGt (zac zax (zaa (eVar 3) (zab))) (eVar 2))) (λ_ S=>some ("NoText",S)) (zed))))
noncomputable def zfv:ZF:=zge 4 zj6
noncomputable def zn2:SM:=zah (zak (zac zd7 (zaa (eVar 1) (zaa (eC (.str "; ")) (zaa (eC (.int 24)) (zab))))) (gName3 2)) (sRet (zbc (zb9 (eVar 2)) [none,some 0] (gName3 0) (za5) (zac zfk (zaa (eVar 1) (zaa (eVar 0) (zab))))))
noncomputable def ze1:FM:=zbm 3 zn2
noncomputable def zn3:ZM:=zOr (zb8 zfv (zaa (eVar 1) (zaa (eC (.str "; ")) (zaa (eC (.int 24)) (zab))))) (zcq (zak (zac zd7 (zaa (eVar 1) (zaa (eC (.str "; ")) (zaa (eC (.int 24)) (zab))))) (gName3 2)) (ze7 (zb9 (eVar 2)) [none,some 0] (gName3 0) (za5) (zac zfk (zaa (eVar 1) (zaa (eVar 0) (zab)))) (zb8 zgw (zaa (eVar 1) (zaa (eVar 0) (zab))))))
noncomputable def zg9:ZF:=zge 3 zn3
noncomputable def zst:SM:=sRet (zfz (eOp dEq (zac zax (zaa (eVar 1) (zab))) (eVar 0)) (zac zga (zaa (zbc (zcd (eVar 1)) [none] (gName3 0) (za5) (eOp (zev false) (eVar 0) (eC (.str "01-")))) (zab))))
noncomputable def ze9:FM:=zbm 2 zst
noncomputable def zn4:SM:=zah (zak (zac zd7 (zaa (eVar 1) (zaa (eC (.str " + ")) (zaa (eC (.int 40)) (zab))))) (gName3 2)) (zah (sIf (zbi (tE (zac zga (zaa (zbc (zb9 (eVar 2)) [none,some 0] (gName3 0) (za5) (zac ze9 (zaa (eVar 1) (zaa (eVar 0) (zab))))) (zab))))) (zea) (zaq)) (sRet (zac zc9 (zaa (eVar 2) (zab)))))
noncomputable def zfa:FM:=zbm 3 zn4
noncomputable def zn5:ZM:=zOr (zb8 zfv (zaa (eVar 1) (zaa (eC (.str " + ")) (zaa (eC (.int 40)) (zab))))) (zcq (zak (zac zd7 (zaa (eVar 1) (zaa (eC (.str " + ")) (zaa (eC (.int 40)) (zab))))) (gName3 2)) (zIf (zbi (tE (zac zga (zaa (zbc (zb9 (eVar 2)) [none,some 0] (gName3 0) (za5) (zac ze9 (zaa (eVar 1) (zaa (eVar 0) (zab))))) (zab))))) (λ_ S=>some ("NoText",S)) (zed)))
noncomputable def zha:ZF:=zge 3 zn5
noncomputable def zsu:SM:=zah (zak (eC .non) (gName3 3)) (zah (zak (eC .non) (gName3 4)) (zah (zhm 5 (λc=>c == "NoText") (sIf (tE (eOp dEq (eVar 0) (eC (.int 0)))) (zak (zac ze1 (zaa (eVar 1) (zaa (eVar 2) (zab)))) (gName3 4)) (zak (zac zfa (zaa (eVar 1) (zaa (eVar 2) (zab)))) (gName3 4))) (zIf (tE (eOp dEq (eVar 0) (eC (.int 0)))) (zb8 zg9 (zaa (eVar 1) (zaa (eVar 2) (zab)))) (zb8 zha (zaa (eVar 1) (zaa (eVar 2) (zab))))) (zak (eVar 5) (gName3 3))) (zah (sIf (tE (eOp dIs (eVar 3) (eC .non))) (sRet (zac zbl (zaa (eC (.str "read")) (zaa (zac zec (zaa (eVar 4) (zab))) (zab))))) (zaq)) (zah (zak (eUn (zd6 [("NoText",false)]) (eVar 3)) (gName3 6)) (zah (zak (zit (eVar 6) (eUn (zd6 [("NoText",false)]) (eVar 3))) (gName3 6)) (sRet (zac zbl (zaa (eC (.str "refused")) (zaa (zfz (eUn (zd6 [("NoText",true)]) (eVar 3)) (zfz (eUn (zd6 [("NoText",true)]) (eVar 3)) (ziu (eVar 6)))) (zab))))))))))
noncomputable def zex:FM:=zbm 7 zsu
noncomputable def zsv:SM:=zah (sIf (tE (eOp dEq (eVar 1) (eC (.str "none")))) (sRet (zac zbl (zab))) (zaq)) (zah (zak (zbt zei (eVar 1) (zaa (eC (.str " + ")) zab)) (gName3 2)) (zah (zak (zbc (zb9 (eVar 2)) [none,some 0] (gName3 0) (zca (tE (eOp dNe (zac zax (zaa (eVar 0) (zab))) (eVar 1))) (tE (eOp zer (zbc (zcd (eVar 0)) [none] (gName3 0) (tE (eOp (zev true) (eVar 0) (eC (.str "01-")))) (eVar 0)) (zac za3 (zab))))) (eVar 0)) (gName3 3)) (zah (sIf (zca (tE (eOp zer (eVar 3) (zac za3 (zab)))) (tE (eOp dGt (zac zax (zaa (eVar 2) (zab))) (eC (.int 40))))) (sRet (eC .non)) (zaq)) (sRet (zac zc9 (zaa (eVar 2) (zab)))))))
noncomputable def zib:FM:=zbm 4 zsv
noncomputable def zsw:SM:=zah (zak (zbt zei (eVar 1) (zaa (eC (.str " ")) zab)) (gName3 2)) (zah (sIf (zca (tE (eOp dNe (zac zax (zaa (eVar 2) (zab))) (eC (.int 2)))) (zca (zbi (tE (zf2 dLe dLe (eC (.int 1)) (zac zax (zaa (eOp zav (eVar 2) (eC (.int 0))) (zab))) (eC (.int 12))))) (tE (eOp dNe (zac zax (zaa (eOp zav (eVar 2) (eC (.int 1))) (zab))) (zac zax (zaa (eOp zav (eVar 2) (eC (.int 0))) (zab))))))) (sRet (eC .non)) (zaq)) (zah (sIf (tE (eOp zer (zbc (zcd (eOp zav (eVar 2) (eC (.int 0)))) [none,some 0] (gName3 0) (tE (eOp (zev true) (eVar 0) (zbk (eC (.str "0123")) (zb4) (zbf (eVar 1))))) (eVar 0)) (zac za3 (zab)))) (sRet (eC .non)) (zaq)) (zah (sIf (tE (eOp zer (zbc (zcd (eOp zav (eVar 2) (eC (.int 1)))) [none] (gName3 0) (tE (eOp (zev true) (eVar 0) (eC (.str "01234567-")))) (eVar 0)) (zac za3 (zab)))) (sRet (eC .non)) (zaq)) (zah (zak (zac za3 (zab)) (gName3 3)) (zah (zj2 (zcd (eOp zav (eVar 2) (eC (.int 1)))) (gName3 4) (zdq (zfg ze6 (eVar 3) (zaa (zeq (tE (eOp dEq (eVar 4) (eC (.str "-")))) (eC .non) (zac zgc (zaa (eVar 4) (zab)))) zab)))) (sRet (zac zbl (zaa (zac zc9 (zaa (zbc (zcd (eOp zav (eVar 2) (eC (.int 0)))) [none] (gName3 0) (za5) (zac zgc (zaa (eVar 0) (zab)))) (zab))) (zaa (zac zc9 (zaa (eVar 3) (zab))) (zab))))))))))
noncomputable def zhq:FM:=zbm 5 zsw
noncomputable def zsx:SM:=zah (sIf (tE (eOp dEq (eVar 1) (eC (.str "none")))) (sRet (zac za3 (zab))) (zaq)) (zah (zak (zbc (zb9 (zbt zei (eVar 1) (zaa (eC (.str "; ")) zab))) [none,some 0] (gName3 0) (za5) (zac zhq (zaa (eVar 1) (zaa (eVar 0) (zab))))) (gName3 2)) (zah (sIf (zca (tE (eOp (zi7 false) (eC .non) (eVar 2))) (tE (eOp dGt (zac zax (zaa (eVar 2) (zab))) (eC (.int 24))))) (sRet (eC .non)) (zaq)) (sRet (eVar 2))))
noncomputable def zi9:FM:=zbm 3 zsx
noncomputable def zsy:SM:=zah (zak (zac zi9 (zaa (eVar 1) (zaa (eVar 2) (zab)))) (gName3 3)) (zah (sIf (tE (eOp dEq (eVar 0) (eC (.int 1)))) (zak (zac zib (zaa (eVar 1) (zaa (eVar 2) (zab)))) (gName3 3)) (zaq)) (zah (sIf (tE (eOp dIs (eVar 3) (eC .non))) (sRet (eOp zfj (zac zex (zaa (eVar 0) (zaa (eVar 1) (zaa (eVar 2) (zab))))) (zac zbl (zaa (eC (.str "refused")) (zaa (eC (.bl true)) (zab)))))) (zaq)) (sRet (eOp zfj (zac zex (zaa (eVar 0) (zaa (eVar 1) (zaa (eVar 2) (zab))))) (zac zbl (zaa (eC (.str "read")) (zaa (zac zec (zaa (eVar 3) (zab))) (zab))))))))
noncomputable def zcr:FM:=zbm 4 zsy
noncomputable def zsz:SM:=zah (zak (eOp dPlusA (eOp zav (eVar 0) (eC (.int 2))) (eC (.int 1))) (zh4 (eVar 0) (eC (.int 2)))) (zah (sIf (tE (eOp dGt (eOp zav (eVar 0) (eC (.int 0))) (eC (.int 0)))) (zah (zak (eOp zf4 (eOp zav (eVar 0) (eC (.int 0))) (eVar 1)) (gName3 2)) (zah (zak (eOp zms (eOp zav (eVar 0) (eC (.int 0))) (eVar 1)) (zh4 (eVar 0) (eC (.int 0)))) (sRet (eVar 2)))) (zaq)) (zah (zak (eOp zf4 (eOp zg5 (eOp dPlusA (eOp zav (eVar 0) (eC (.int 1))) (eC (.int 29))) (eOp dPlusA (eOp zg5 (eC (.int 40503)) (eOp zav (eVar 0) (eC (.int 2)))) (eC (.int 7919)))) (eC (.int 2147483629))) (gName3 3)) (zah (zak (eOp zf4 (eOp dPlusA (eOp zjq (eVar 3) (eC (.int 3))) (eOp zg5 (eC (.int 69621)) (eOp zav (eVar 0) (eC (.int 2))))) (eC (.int 2147483587))) (gName3 3)) (zah (zak (eOp zf4 (eOp zjq (eVar 3) (eC (.int 5))) (eOp zav (zac za3 (zaa (eC (.int 2147483647)) (zaa (eC (.int 2147483563)) (zaa (eC (.int 2147483549)) (zab))))) (eOp zf4 (eOp zav (eVar 0) (eC (.int 2))) (eC (.int 3))))) (gName3 3)) (sRet (eOp zf4 (eOp zms (eVar 3) (eC (.int 64))) (eVar 1)))))))
noncomputable def zbp:FM:=zbm 4 zsz
noncomputable def zs0:SM:=zah (zak (eC (.str " !\"#$&'()*+,-./0123456789:;<=>?@ABCDEFGHIJKLMNOPQRSTUVWXYZ[\\]^_`")) (gName3 0)) (sRet (eOp dPlusA (eVar 0) (eC (.str "abcdefghijklmnopqrstuvwxyz{|}~\n"))))
noncomputable def zic:FM:=zbm 1 zs0
noncomputable def zs1:SM:=zah (zak (zac zbp (zaa (eVar 0) (zaa (eC (.int 6)) (zab)))) (gName3 2)) (zah (zak (eC (.str "0123456789-/:|; +")) (gName3 3)) (zah (zak (eOp zav (zac za3 (zaa (zac zic (zab)) (zaa (eVar 3) (zab)))) (zac zbp (zaa (eVar 0) (zaa (eC (.int 2)) (zab))))) (gName3 4)) (zah (zak (eOp zav (eVar 4) (zac zbp (zaa (eVar 0) (zaa (zac zax (zaa (eVar 4) (zab))) (zab))))) (gName3 5)) (zah (zak (zac zbp (zaa (eVar 0) (zaa (eOp dPlusA (zac zax (zaa (eVar 1) (zab))) (eC (.int 1))) (zab)))) (gName3 6)) (zah (sIf (tE (eOp dEq (eVar 2) (eC (.int 0)))) (sRet (eOp dPlusA (eOp dPlusA (zbk (eVar 1) (zb4) (zbf (eVar 6))) (eVar 5)) (zbk (eVar 1) (zbf (eVar 6)) (zb4)))) (zaq)) (zah (sIf (tE (eOp dEq (eVar 2) (eC (.int 1)))) (sRet (eOp dPlusA (zbk (eVar 1) (zb4) (zbf (eVar 6))) (zbk (eVar 1) (zbf (eOp dPlusA (eVar 6) (eC (.int 1)))) (zb4)))) (zaq)) (zah (sIf (tE (eOp dEq (eVar 2) (eC (.int 2)))) (sRet (eOp dPlusA (eOp dPlusA (zbk (eVar 1) (zb4) (zbf (eVar 6))) (eVar 5)) (zbk (eVar 1) (zbf (eOp dPlusA (eVar 6) (eC (.int 1)))) (zb4)))) (zaq)) (zah (sIf (tE (eOp dEq (eVar 2) (eC (.int 3)))) (zah (zak (zbk (eVar 1) (zbf (eVar 6)) (zbf (eOp dPlusA (eVar 6) (eC (.int 1))))) (gName3 7)) (zah (zak (zbk (eVar 1) (zbf (eOp dPlusA (eVar 6) (eC (.int 1)))) (zbf (eOp dPlusA (eVar 6) (eC (.int 2))))) (gName3 8)) (sRet (eOp dPlusA (eOp dPlusA (eOp dPlusA (zbk (eVar 1) (zb4) (zbf (eVar 6))) (eVar 8)) (eVar 7)) (zbk (eVar 1) (zbf (eOp dPlusA (eVar 6) (eC (.int 2)))) (zb4)))))) (zaq)) (zah (zak (eOp dPlusA (eVar 6) (zac zbp (zaa (eVar 0) (zaa (eC (.int 6)) (zab))))) (gName3 9)) (zah (zak (eOp dPlusA (zbk (eVar 1) (zb4) (zbf (eVar 9))) (zbk (eVar 1) (zbf (eVar 6)) (zb4))) (gName3 10)) (zah (zak (eOp dPlusA (zbk (eVar 1) (zb4) (zbf (eVar 6))) (zbk (eVar 1) (zbf (eVar 9)) (zb4))) (gName3 11)) (sRet (eOp zav (zac za3 (zaa (eVar 10) (zaa (eVar 11) (zab)))) (eOp zjp (eVar 2) (eC (.int 4))))))))))))))))
noncomputable def zhr:FM:=zbm 12 zs1
noncomputable def zs2:SM:=zah (sIf (tE (eOp zfj (eVar 0) (zac zbl (zab)))) (sRet (eC (.str "none"))) (zaq)) (sRet (zbt zes (eC (.str " + ")) (zaa (zac zg3 (zaa (eVar 0) (zab))) zab)))
noncomputable def zhb:FM:=zbm 1 zs2
noncomputable def zs3:SM:=sRet (zbt zes (eC (.str "")) (zaa (zbc (zb9 (eVar 0)) [none] (gName3 0) (za5) (eOp zav (zac za3 (zaa (eC (.str "-")) (zaa (zac zi8 (zaa (eVar 0) (zab))) (zab)))) (zac zgc (zaa (eOp zjr (eVar 0) (eC .non)) (zab))))) zab))
noncomputable def zj7:FM:=zbm 1 zs3
noncomputable def zs4:SM:=zah (sIf (tE (eOp zhj (eVar 0) (zac za3 (zab)))) (sRet (eC (.str "none"))) (zaq)) (zah (zak (zac za3 (zab)) (gName3 1)) (zah (zfh (eVar 0) (zk3 2 (ziz (gName3 2) (ziz (gName3 3) (zk2)))) (zdq (zfg ze6 (eVar 1) (zaa (eOp dPlusA (eOp dPlusA (zbt zes (eC (.str "")) (zaa (zbc (zb9 (eVar 2)) [none] (gName3 0) (za5) (zac zgt (zaa (eVar 0) (zab)))) zab)) (eC (.str " "))) (zac zj7 (zaa (eVar 3) (zab)))) zab)))) (sRet (zbt zes (eC (.str "; ")) (zaa (eVar 1) zab)))))
noncomputable def zgx:FM:=zbm 4 zs4
noncomputable def zs5:SM:=sRet (zeq (tE (eOp dIs (eVar 0) (eC .non))) (eC (.str "-")) (zac zgt (zaa (eVar 0) (zab))))
noncomputable def zj8:FM:=zbm 1 zs5
noncomputable def zs6:SM:=sRet (zbt zes (eC (.str "")) (zaa (zbc (zb9 (eVar 0)) [none] (gName3 0) (za5) (zac zj8 (zaa (eVar 0) (zab)))) zab))
noncomputable def zid:FM:=zbm 1 zs6
noncomputable def zs7:SM:=sRet (zh8 (zac zid (zaa (eVar 0) (zab))) (eC (.str "-")))
noncomputable def zj9:FM:=zbm 1 zs7
noncomputable def zs8:SM:=sRet (zh8 (zbt zes (eC (.str "; ")) (zaa (zbc (zb9 (eVar 0)) [none,none] (zk3 2 (ziz (gName3 0) (ziz (gName3 1) (zk2)))) (za5) (eJp Str.empty [eFv (zac zj9 (zaa (eVar 0) (zab))),eC (.str " "),eFv (zac zid (zaa (eVar 1) (zab)))])) zab)) (eC (.str "none")))
noncomputable def zka:FM:=zbm 1 zs8
noncomputable def zs9:SM:=sRet (zh8 (zbt zj4 (eC (.str " + ")) (zaa (eVar 0) zab)) (eC (.str "none")))
noncomputable def zkb:FM:=zbm 1 zs9
noncomputable def zta:SM:=zah (zak (zac zg3 (zaa (eVar 1) (zab))) (gName3 4)) (zah (sIf (zca (tE (eOp zf8 (zac zka (zaa (eVar 4) (zab))) (zac zgx (zaa (eVar 1) (zab))))) (zca (tE (eOp zf8 (eVar 4) (eVar 1))) (tE (eOp zf8 (zac zkb (zaa (eVar 3) (zab))) (zac zhb (zaa (eVar 3) (zab))))))) (sRet (eC (.bl false))) (zaq)) (zah (zak (zac ze1 (zaa (eVar 0) (zaa (zac zgx (zaa (eVar 1) (zab))) (zab)))) (gName3 5)) (zah (sIf (zca (tE (eOp dNe (zac zec (zaa (eVar 5) (zab))) (zac zec (zaa (eVar 1) (zab))))) (tE (eOp dNe (zac zec (zaa (zac zfa (zaa (eVar 2) (zaa (zac zhb (zaa (eVar 3) (zab))) (zab)))) (zab))) (zac zec (zaa (eVar 3) (zab)))))) (sRet (eC (.bl false))) (zaq)) (zah (zdq (zfg ze6 (eVar 5) (zaa (eC .non) zab))) (sRet (eOp dEq (zac zec (zaa (zac ze1 (zaa (eVar 0) (zaa (zac zgx (zaa (eVar 1) (zab))) (zab)))) (zab))) (zac zec (zaa (eVar 1) (zab)))))))))
noncomputable def zja:FM:=zbm 6 zta
noncomputable def ztb:SM:=zah (zak (zac za3 (zab)) (gName3 3)) (zah (zfi (zdb (zaa (zac zbp (zaa (eVar 0) (zaa (eOp dPlusA (eVar 2) (eC (.int 1))) (zab)))) (zab))) (gName3 4) (zdq (zfg ze6 (eVar 3) (zaa (zbt zes (eC (.str "")) (zaa (zbc (zi2 (zdb (zaa (eVar 1) (zab)))) [none,some 0] (gName3 0) (za5) (eOp zav (eC (.str "01-")) (zac zbp (zaa (eVar 1) (zaa (eC (.int 3)) (zab)))))) zab)) zab)))) (sRet (zac zc9 (zaa (eVar 3) (zab)))))
noncomputable def zkc:FM:=zbm 5 ztb
noncomputable def ztc:SM:=zah (zak (zac za3 (zab)) (gName3 3)) (zah (zak (eOp zav (zac za3 (zaa (eC (.int 0)) (zaa (eC (.int 2)) (zaa (eC (.int 8)) (zab))))) (zac zbp (zaa (eVar 0) (zaa (eC (.int 3)) (zab))))) (gName3 4)) (zah (zfi (zdb (zaa (zac zbp (zaa (eVar 0) (zaa (eOp dPlusA (eVar 2) (eC (.int 1))) (zab)))) (zab))) (gName3 5) (zah (zak (eOp dPlusA (eC (.int 1)) (zac zbp (zaa (eVar 0) (zaa (eOp zav (zac za3 (zaa (eC (.int 4)) (zaa (eC (.int 12)) (zab)))) (zac zbp (zaa (eVar 0) (zaa (eC (.int 2)) (zab))))) (zab))))) (gName3 6)) (zah (zak (zac zc9 (zaa (zbc (zi2 (zdb (zaa (eVar 6) (zab)))) [none,some 0,some 1] (gName3 0) (za5) (zac zbp (zaa (eVar 1) (zaa (eVar 2) (zab))))) (zab))) (gName3 7)) (zah (zak (zbc (zi2 (zdb (zaa (eVar 6) (zab)))) [none,some 0] (gName3 0) (za5) (zac zbp (zaa (eVar 1) (zaa (eC (.int 8)) (zab))))) (gName3 8)) (zah (zfi (zdb (zaa (eVar 6) (zab))) (gName3 9) (sIf (tE (eOp dLt (zac zbp (zaa (eVar 0) (zaa (eC (.int 8)) (zab)))) (eVar 4))) (zak (eC .non) (zh4 (eVar 8) (eVar 9))) (zaq))) (zah (zdq (zfg ze6 (eVar 3) (zaa (zac zbl (zaa (eVar 7) (zaa (zac zc9 (zaa (eVar 8) (zab))) (zab)))) zab))) (sIf (zis (tE (eOp dEq (zac zbp (zaa (eVar 0) (zaa (eC (.int 6)) (zab)))) (eC (.int 0)))) (tE (eOp dLt (zac zax (zaa (eVar 3) (zab))) (eVar 2)))) (zdq (zfg ze6 (eVar 3) (zaa (eOp zav (eVar 3) (zac zbp (zaa (eVar 0) (zaa (zac zax (zaa (eVar 3) (zab))) (zab))))) zab))) (zaq)))))))) (sRet (zbk (eVar 3) (zb4) (zbf (eVar 2))))))
noncomputable def zkd:FM:=zbm 10 ztc
noncomputable def ztd:SM:=zah (zak (eOp dPlusA (eOp zg5 (eC (.int 104729)) (eVar 1)) (eC (.int 37))) (gName3 2)) (zah (sIf (tE (eOp dLt (eVar 1) (zac zax (zaa (eVar 0) (zab))))) (zak (eOp zav (eVar 0) (eVar 1)) (gName3 2)) (sIf (tE (eOp dGt (zac zax (zaa (eVar 0) (zab))) (eC (.int 0)))) (zak (eOp dPlusA (eOp zf4 (eOp zav (eVar 0) (eOp zf4 (eVar 1) (zac zax (zaa (eVar 0) (zab))))) (eC (.int 2147483629))) (eOp zg5 (eC (.int 69621)) (eVar 1))) (gName3 2)) (zaq))) (zah (sIf (tE (eOp dGe (eVar 2) (eOp zjq (eC (.int 10)) (eC (.int 18))))) (sRet (zac za3 (zaa (eOp zjp (eVar 2) (eOp zjq (eC (.int 10)) (eC (.int 18)))) (zaa (eOp zf4 (eVar 2) (eC (.int 2147483587))) (zaa (eC (.int 0)) (zab)))))) (zaq)) (sRet (zac za3 (zaa (eC (.int 0)) (zaa (eOp zf4 (eVar 2) (eC (.int 2147483587))) (zaa (eC (.int 0)) (zab))))))))
noncomputable def zke:FM:=zbm 3 ztd
noncomputable def zte:SM:=zah (zfi (zdb (zaa (zac zju (zaa (eC (.int 3)) (zaa (zac zjt (zaa (zac zax (zaa (eVar 0) (zab))) (zaa (eC (.int 16)) (zab)))) (zab)))) (zab))) (gName3 1) (zah (zak (zac zke (zaa (eVar 0) (zaa (eVar 1) (zab)))) (gName3 2)) (zah (zak (zac zbp (zaa (eVar 2) (zaa (eC (.int 2)) (zab)))) (gName3 3)) (zah (zak (eOp dPlusA (eC (.int 1)) (zac zbp (zaa (eVar 2) (zaa (eC (.int 4)) (zab))))) (gName3 4)) (zah (zak (eOp dPlusA (eC (.int 1)) (zac zbp (zaa (eVar 2) (zaa (eC (.int 5)) (zab))))) (gName3 5)) (zah (zak (eOp zav (zac za3 (zaa (eC (.int 3)) (zaa (eC (.int 24)) (zab)))) (zac zbp (zaa (eVar 2) (zaa (eC (.int 2)) (zab))))) (gName3 6)) (zah (zak (zac zkd (zaa (eVar 2) (zaa (eVar 4) (zaa (eVar 6) (zab))))) (gName3 7)) (zah (zak (zac zkc (zaa (eVar 2) (zaa (eVar 5) (zaa (eOp zav (zac za3 (zaa (eC (.int 3)) (zaa (eC (.int 40)) (zab)))) (zac zbp (zaa (eVar 2) (zaa (eC (.int 2)) (zab))))) (zab))))) (gName3 8)) (zah (sIf (zbi (tE (zac zja (zaa (eVar 4) (zaa (eVar 7) (zaa (eVar 5) (zaa (eVar 8) (zab)))))))) (sRet (eC (.bl false))) (zaq)) (zah (zak (zac zhr (zaa (eVar 2) (zaa (eOp zav (zac za3 (zaa (zac zgx (zaa (eVar 7) (zab))) (zaa (zac zhb (zaa (eVar 8) (zab))) (zab)))) (eVar 3)) (zab)))) (gName3 9)) (zah (sIf (tE (eOp dEq (zac zbp (zaa (eVar 2) (zaa (eC (.int 3)) (zab)))) (eC (.int 0)))) (zak (zac zhr (zaa (eVar 2) (zaa (eVar 9) (zab)))) (gName3 9)) (zaq)) (zah (sIf (zbi (tE (zac zcr (zaa (eVar 3) (zaa (eOp zav (zac za3 (zaa (eVar 4) (zaa (eVar 5) (zab)))) (eVar 3)) (zaa (eVar 9) (zab))))))) (sRet (eC (.bl false))) (zaq)) (zah (zak (eOp zav (zac za3 (zaa (eC .non) (zaa (eC (.bl true)) (zaa (eC (.int 0)) (zaa (zac zbl (zab)) (zaa (zac za3 (zaa (eVar 9) (zab))) (zaa (zac zbl (zaa (eVar 9) (zab))) (zaa (zlc) (zaa (eVar 7) (zab)))))))))) (zac zbp (zaa (eVar 2) (zaa (eC (.int 8)) (zab))))) (gName3 10)) (sIf (tE (eOp zf8 (zac zex (zaa (eVar 3) (zaa (eC (.int 1)) (zaa (eVar 10) (zab))))) (zac zbl (zaa (eC (.str "refused")) (zaa (eC (.bl true)) (zab)))))) (sRet (eC (.bl false))) (zaq))))))))))))))) (zah (zfh (zac zbl (zaa (eC (.int 24)) (zaa (eC (.int 25)) (zab)))) (gName3 11) (sIf (zbi (tE (zac zcr (zaa (eC (.int 0)) (zaa (eC (.int 1)) (zaa (zbt zes (eC (.str "; ")) (zaa (eOp zf9 (zac za3 (zaa (eC (.str "0 -")) (zab))) (eVar 11)) zab)) (zab))))))) (sRet (eC (.bl false))) (zaq))) (zah (zfh (zac zbl (zaa (eC (.int 12)) (zaa (eC (.int 13)) (zab)))) (gName3 11) (sIf (zbi (tE (zac zcr (zaa (eC (.int 0)) (zaa (eC (.int 2)) (zaa (eOp dPlusA (eOp dPlusA (eOp zgu (eC (.str "1")) (eVar 11)) (eC (.str " "))) (eOp zgu (eC (.str "7")) (eVar 11))) (zab))))))) (sRet (eC (.bl false))) (zaq))) (zah (zfh (zac zbl (zaa (eC (.int 40)) (zaa (eC (.int 41)) (zab)))) (gName3 11) (sIf (zbi (tE (zac zcr (zaa (eC (.int 1)) (zaa (eC (.int 1)) (zaa (zbt zes (eC (.str " + ")) (zaa (eOp zf9 (zac za3 (zaa (eC (.str "-")) (zab))) (eVar 11)) zab)) (zab))))))) (sRet (eC (.bl false))) (zaq))) (zah (zak (zac za3 (aTx [""," ","none ","0","0 "," 0","- -","0 8","1 0","00 0","0 0;0 0","0 0; ","0 0 0","none; 0 0"])) (gName3 12)) (sRet (eOp zhj (zbc (zb9 (eVar 12)) [none] (gName3 0) (zca (zbi (tE (zac zcr (zaa (eC (.int 0)) (zaa (eC (.int 1)) (zaa (eVar 0) (zab))))))) (zbi (tE (zac zcr (zaa (eC (.int 1)) (zaa (eC (.int 1)) (zaa (eVar 0) (zab)))))))) (eVar 0)) (zac za3 (zab))))))))
noncomputable def zhs:FM:=zbm 13 zte
theorem bl0 {C:List PySem.Value->Prop}(h:C []):∀us:List PySem.Value,us.length=0->C us:=by
 intro us hl
 rw [List.eq_nil_of_length_eq_zero hl];exact h
theorem blS {n:Nat}{C:List PySem.Value->Prop}(h:∀a (us:List PySem.Value),us.length=n->C (a :: us)):∀us:List PySem.Value,us.length=n+1->C us:=by
 intro us hl
 cases us with
 | nil=>cases hl
 | cons a us=>exact h a us (Nat.succ.inj hl)
theorem bl1 {C:List PySem.Value->Prop}(h:∀a0,C [a0]):∀us:List PySem.Value,us.length=1->C us:=blS λa0=>bl0 (C:=λus=>C (a0 :: us)) (h a0)
theorem bl2 {C:List PySem.Value->Prop}(h:∀a0 a1,C [a0,a1]):∀us:List PySem.Value,us.length=2->C us:=blS λa0=>blS λa1=>bl0 (C:=λus=>C (a0 :: a1 :: us)) (h a0 a1)
theorem bl3 {C:List PySem.Value->Prop}(h:∀a0 a1 a2,C [a0,a1,a2]):∀us:List PySem.Value,us.length=3->C us:=blS λa0=>blS λa1=>blS λa2=>bl0 (C:=λus=>C (a0 :: a1 :: a2 :: us)) (h a0 a1 a2)
theorem bl4 {C:List PySem.Value->Prop}(h:∀a0 a1 a2 a3,C [a0,a1,a2,a3]):∀us:List PySem.Value,us.length=4->C us:=blS λa0=>blS λa1=>blS λa2=>blS λa3=>bl0 (C:=λus=>C (a0 :: a1 :: a2 :: a3 :: us)) (h a0 a1 a2 a3)
inductive FI (K:QFg) (x:Str) (st:Stmt):Prop
 | mk {f:Addr} {oc kV dc pm cd ct:Value} {od an:Option Addr} {sl:Array (Option Value)} (a:PySem.W.nsIn K mainGlobals x=some (some (.ref f))) (l:K.lookup f=some ⟨oc,od,.func (PySem.W.fnOf x x (zh1 st) (zfn st) (zas st) .none kV dc pm an cd ct),sl⟩) (c:PySem.W.codeIn K cd x=true) (k:PySem.W.keepIn K (.ref f)=true)
inductive FJ (K:QFg) (mg:Str->Option Value) (x:Str) (st:Stmt):Prop
 | mk {f:Addr} {fd:FuncData} (F:Fun K x x st f fd) (m:mg x=some (.ref f)) (n:Fnc K mg x)
theorem FI.ok {K:QFg}{x:Str}{st:Stmt}{h:Heap}{mg:Str->Option Value}(i:FI K x st) (X:K.In h) (G:h.Ns mainGlobals mg):FJ K mg x st:=by
 obtain ⟨a,l,c,k⟩:=i
 exact ⟨zy8 l c k,PySem.W.mg_of X G a,_,_,a,l,PySem.W.mg_of X G a⟩
section
variable {P:Program}{w:World}{K:QFg}{mg:Str->Option Value}{base:Heap}{CA:Str->Addr}
theorem zce {x:Str}{st:Stmt}{N ps:List Str}{n k:Nat}{b:SM}(F:FJ K mg x st) (S:FnScope N ps (zas st)) (hn:ps.length=n)
  (hb:∀us:List Value,us.length=ps.length->∀(kV doc pm:Value) (an:Option Addr) (cdv ct:Value),bindArgs (PySem.W.fnOf x x (zh1 st) (zfn st) (zas st) .none kV doc pm an cdv ct) ⟨us,[]⟩=pure (ps.zip us))
  (hbody:∀(f:Addr) (cdv:Value),PySem.W.codeIn K cdv x=true->∀(A:Around) (outer:List Env) (s:Shared) (H:Hp) (E:XK),Room k (A.deeper (envOfC x (zas st) s.heap.objs.size f cdv)) ->
   ze3 (zcj CX0 P w K mg base N x (zas st) f cdv A outer s H E).nox (zfn st) b):Has P w K mg base x (k+1) n (zbm N.length b):=by
 obtain ⟨F,m,_⟩:=F
 exact yam F m S hn (F.binds λ_ _ _ _ _ _ us hl=>hb us hl _ _ _ _ _ _) (hbody _)
theorem zht {x:Str}{st:Stmt}{N ps:List Str}{n k:Nat}{r:ZM}(F:FJ K mg x st) (S:FnScope N ps (zas st)) (hn:ps.length=n)
  (hb:∀us:List Value,us.length=ps.length->∀(kV doc pm:Value) (an:Option Addr) (cdv ct:Value),bindArgs (PySem.W.fnOf x x (zh1 st) (zfn st) (zas st) .none kV doc pm an cdv ct) ⟨us,[]⟩=pure (ps.zip us))
  (hbody:∀(f:Addr) (cdv:Value),PySem.W.codeIn K cdv x=true->∀(A:Around) (outer:List Env) (s:Shared) (H:Hp) (E:XK),Room k (A.deeper (envOfC x (zas st) s.heap.objs.size f cdv)) ->
   zgd (zcj (CX1 P w) P w K mg base N x (zas st) f cdv A outer s H E) E CA (zfn st) r):zby P w K mg base CA x (k+1) n (zge N.length r):=by
 obtain ⟨F,m,_⟩:=F
 exact yb7 F m S hn (F.binds λ_ _ _ _ _ _ us hl=>hb us hl _ _ _ _ _ _) (hbody _)
theorem ztf:FnScope ["text","count","number"] ["text","count"] (zas (top bd 20)):=⟨rfl,rfl,rfl,by decide +kernel,rfl,by decide +kernel,by decide +kernel⟩
theorem h_m_read_number (F:FJ K mg "read_number" (top bd 20)) (z_str:mg "str" = none) (z_range:mg "range" = none) (q_NoText:mg "NoText" = some (.ref (CA "NoText"))) (x_NoText:PySem.W.excIn K (CA "NoText") zc6 "ValueError.__new__" = true):Has P w K mg base "read_number" 1 2 zej:=by
 have sc:=ztf
 refine zce (k:=0) F sc rfl (bl2 λ_ _=>λ_ _ _ _ _ _=>rfl) λf cdv hcd A outer s H E hr=>?_
 exact zal (zi0 PassesOwn.never rfl rfl z_range (zae (zad 1) (zaf)) (zbq 2 sc.nd) (zan (zbh (zcx (zad 0) (zle rfl z_str (zae (zad 2) (zaf)))) (zan (za4 (zad 2))) (zbj)))) (zan (zg4))
theorem hz_read_number (F:FJ K mg "read_number" (top bd 20)) (z_str:mg "str" = none) (z_range:mg "range" = none) (q_NoText:mg "NoText" = some (.ref (CA "NoText"))) (x_NoText:PySem.W.excIn K (CA "NoText") zc6 "ValueError.__new__" = true):zby P w K mg base CA "read_number" 1 2 zew:=by
 have sc:=ztf
 refine zht (k:=0) F sc rfl (bl2 λ_ _=>λ_ _ _ _ _ _=>rfl) λf cdv hcd A outer s H E hr=>?_
 exact zfu (zi0 PassesOwn.leaving rfl rfl z_range (zae (zad 1) (zaf)) (zbq 2 sc.nd) (zan (zbh (zcx (zad 0) (zle rfl z_str (zae (zad 2) (zaf)))) (zan (za4 (zad 2))) (zbj)))) (zdi (zh7 rfl q_NoText x_NoText))
theorem ztg:FnScope ["text","count"] ["text","count"] (zas (top bd 21)):=⟨rfl,rfl,rfl,by decide +kernel,rfl,by decide +kernel,by decide +kernel⟩
theorem h_m_read_part (F:FJ K mg "read_part" (top bd 21)) (h_m_read_number:Has P w K mg base "read_number" 1 2 zej) (hz_read_number:zby P w K mg base CA "read_number" 1 2 zew):Has P w K mg base "read_part" 2 2 ze8:=by
 have sc:=ztg
 refine zce (k:=1) F sc rfl (bl2 λ_ _=>λ_ _ _ _ _ _=>rfl) λf cdv hcd A outer s H E hr=>?_
 exact zan (za4 (zjl (zcx (zad 0) (zaz)) (zek) (zao h_m_read_number hr (by decide) rfl (zae (zad 0) (zae (zad 1) (zaf))) (zag (zag zam)))))
theorem hz_read_part (F:FJ K mg "read_part" (top bd 21)) (h_m_read_number:Has P w K mg base "read_number" 1 2 zej) (hz_read_number:zby P w K mg base CA "read_number" 1 2 zew):zby P w K mg base CA "read_part" 2 2 zgv:=by
 have sc:=ztg
 refine zht (k:=1) F sc rfl (bl2 λ_ _=>λ_ _ _ _ _ _=>rfl) λf cdv hcd A outer s H E hr=>?_
 exact zdi (znb (yc6 (zcx (zad 0) (zaz)) (yb1) (zg7 hz_read_number zi4 hr (by decide) rfl (zae (zad 0) (zae (zad 1) (zaf))) (zag (zag zam)))))
theorem zth:FnScope ["thing"] ["thing"] (zas (top bd 19)):=⟨rfl,rfl,rfl,by decide +kernel,rfl,by decide +kernel,by decide +kernel⟩
theorem h_m_refuse_no_text (F:FJ K mg "refuse_no_text" (top bd 19)) (z_isinstance:mg "isinstance" = none) (z_str:mg "str" = none) (q_NoText:mg "NoText" = some (.ref (CA "NoText"))) (x_NoText:PySem.W.excIn K (CA "NoText") zc6 "ValueError.__new__" = true):Has P w K mg base "refuse_no_text" 1 1 ze0:=by
 have sc:=zth
 refine zce (k:=0) F sc rfl (bl1 λ_=>λ_ _ _ _ _ _=>rfl) λf cdv hcd A outer s H E hr=>?_
 exact zan (zbh (ze4 (zf1 (zql (U:="str") rfl z_isinstance rfl z_str zk8 (by decide) (zad 0)))) (zan (zg4)) (zbj))
theorem hz_refuse_no_text (F:FJ K mg "refuse_no_text" (top bd 19)) (z_isinstance:mg "isinstance" = none) (z_str:mg "str" = none) (q_NoText:mg "NoText" = some (.ref (CA "NoText"))) (x_NoText:PySem.W.excIn K (CA "NoText") zc6 "ValueError.__new__" = true):zby P w K mg base CA "refuse_no_text" 1 1 zgh:=by
 have sc:=zth
 refine zht (k:=0) F sc rfl (bl1 λ_=>λ_ _ _ _ _ _=>rfl) λf cdv hcd A outer s H E hr=>?_
 exact zdi (zi6 (ze4 (zf1 (zql (U:="str") rfl z_isinstance rfl z_str zk8 (by decide) (zad 0)))) (zdi (zh7 rfl q_NoText x_NoText)) (zi5))
theorem zti:FnScope ["asks","text"] ["asks","text"] (zas (top bd 22)):=⟨rfl,rfl,rfl,by decide +kernel,rfl,by decide +kernel,by decide +kernel⟩
theorem ztj:List.Nodup (["sign","asks"]:List Str):=by decide +kernel
noncomputable abbrev ztk:List Str:=["asks","text"]
theorem h_m_read_row (F:FJ K mg "read_row" (top bd 22)) (z_tuple:mg "tuple" = none) (h_m_read_number:Has P w K mg base "read_number" 1 2 zej) (h_m_refuse_no_text:Has P w K mg base "refuse_no_text" 1 1 ze0) (hz_refuse_no_text:zby P w K mg base CA "refuse_no_text" 1 1 zgh) (hz_read_number:zby P w K mg base CA "read_number" 1 2 zew) (q_NoText:mg "NoText" = some (.ref (CA "NoText"))) (x_NoText:PySem.W.excIn K (CA "NoText") zc6 "ValueError.__new__" = true):Has P w K mg base "read_row" 2 2 zgi:=by
 have sc:=zti
 refine zce (k:=1) F sc rfl (bl2 λ_ _=>λ_ _ _ _ _ _=>rfl) λf cdv hcd A outer s H E hr=>?_
 exact zal (zgq (zao h_m_refuse_no_text hr (by decide) rfl (zae (zad 1) (zaf)) (zag zam))) (zal (zbh (zcx (zad 1) (zaz)) (zan (za4 (zel (zaf)))) (zbj)) (zal (zbh (zcx (zad 1) (zaz)) (zan (zg4)) (zbj)) (zan (za4 (zgr rfl z_tuple (zae (zeg (N':=["sign","asks"]) (ixs:=[none,some 0]) rfl (zcy (scO:=zas (top bd 22)) (NO:=ztk) rfl rfl (by decide +kernel)) (zgg (zad 1)) (λ_ _ _ _ _=>zbq 0 ztj) (λ_ _ _ _ _=>zeb) (λ_ _ _ _ _=>zao h_m_read_number hr (by decide) rfl (zae (zad 0) (zae (zad 1) (zaf))) (zag (zag zam)))) (zaf)))))))
theorem hz_read_row (F:FJ K mg "read_row" (top bd 22)) (z_tuple:mg "tuple" = none) (h_m_read_number:Has P w K mg base "read_number" 1 2 zej) (h_m_refuse_no_text:Has P w K mg base "refuse_no_text" 1 1 ze0) (hz_refuse_no_text:zby P w K mg base CA "refuse_no_text" 1 1 zgh) (hz_read_number:zby P w K mg base CA "read_number" 1 2 zew) (q_NoText:mg "NoText" = some (.ref (CA "NoText"))) (x_NoText:PySem.W.excIn K (CA "NoText") zc6 "ValueError.__new__" = true):zby P w K mg base CA "read_row" 2 2 zia:=by
 have sc:=zti
 refine zht (k:=1) F sc rfl (bl2 λ_ _=>λ_ _ _ _ _ _=>rfl) λf cdv hcd A outer s H E hr=>?_
 exact zhl (zdi (zrj (zg7 hz_refuse_no_text zi4 hr (by decide) rfl (zae (zad 1) (zaf)) (zag zam)))) (zfu (zgq (zao h_m_refuse_no_text hr (by decide) rfl (zae (zad 1) (zaf)) (zag zam))) (zfu (zbh (zcx (zad 1) (zaz)) (zan (za4 (zel (zaf)))) (zbj)) (zhl (zdi (zi6 (zcx (zad 1) (zaz)) (zdi (zh7 rfl q_NoText x_NoText)) (zi5))) (zfu (zbh (zcx (zad 1) (zaz)) (zan (zg4)) (zbj)) (zdi (znb (zr6 rfl z_tuple (zri (zni (N':=["sign","asks"]) (ixs:=[none,some 0]) znh rfl (zcy (scO:=zas (top bd 22)) (NO:=ztk) rfl rfl (by decide +kernel)) (zgg (zad 1)) (λ_ _ _ _ _=>zbq 0 ztj) (λ_ _ _ _ _=>zeb) (λ_ _ _ _ _=>zao h_m_read_number hr (by decide) rfl (zae (zad 0) (zae (zad 1) (zaf))) (zag (zag zam))) (λ_ _ _ _ _ xf=>zg7 hz_read_number xf.passes hr (by decide) rfl (zae (zad 0) (zae (zad 1) (zaf))) (zag (zag zam))))))))))))
theorem ztl:FnScope ["asks","text","words","row","answers"] ["asks","text"] (zas (top bd 31)):=⟨rfl,rfl,rfl,by decide +kernel,rfl,by decide +kernel,by decide +kernel⟩
theorem zlo:List.Nodup (["sign"]:List Str):=by decide +kernel
noncomputable abbrev zn6:List Str:=["asks","text","words","row","answers"]
theorem h_m_read_told (F:FJ K mg "read_told" (top bd 31)) (z_len:mg "len" = none) (z_tuple:mg "tuple" = none) (c_MOST_TOLD_ASKS:∃t,mg "MOST_TOLD_ASKS" = some (.int 12 t)) (c_ANSWERS:∃t,mg "ANSWERS" = some (.int 8 t)) (h_m_read_part:Has P w K mg base "read_part" 2 2 ze8) (h_m_read_row:Has P w K mg base "read_row" 2 2 zgi) (hz_read_row:zby P w K mg base CA "read_row" 2 2 zia) (hz_read_part:zby P w K mg base CA "read_part" 2 2 zgv) (q_NoText:mg "NoText" = some (.ref (CA "NoText"))) (x_NoText:PySem.W.excIn K (CA "NoText") zc6 "ValueError.__new__" = true):Has P w K mg base "read_told" 3 2 zfk:=by
 obtain ⟨_,c_MOST_TOLD_ASKS⟩:=c_MOST_TOLD_ASKS
 obtain ⟨_,c_ANSWERS⟩:=c_ANSWERS
 have sc:=ztl
 refine zce (k:=2) F sc rfl (bl2 λ_ _=>λ_ _ _ _ _ _=>rfl) λf cdv hcd A outer s H E hr=>?_
 exact zal (za0 2 sc.nd (zh9 (zad 1) (zaz))) (zal (zbh (zgp (zcl rfl z_len (zae (zad 2) (zaf))) (zai)) (zan (zg4)) (zbj)) (zal (za0 3 sc.nd (zao h_m_read_row hr (by decide) rfl (zae (zad 0) (zae (zbr (zad 2) (zai)) (zaf))) (zag (zag zam)))) (zal (za0 4 sc.nd (zgr rfl z_tuple (zae (zeg (N':=["sign"]) (ixs:=[none]) rfl (zcy (scO:=zas (top bd 31)) (NO:=zn6) rfl rfl (by decide +kernel)) (zgg (zbr (zad 2) (zai))) (λ_ _ _ _ _=>zbq 0 zlo) (λ_ _ _ _ _=>zeb) (λ_ _ _ _ _=>zao h_m_read_part hr (by decide) rfl (zae (zad 0) (zae (zfp rfl c_ANSWERS) (zaf))) (zag (zag zam)))) (zaf)))) (zal (zbh (zgm (zf3 (ze4 (zmp ziq ziq (zgn λ_ _ _ _=>.bl _) (zgn λ_ _ _ _=>.bl _) (zai) (zcl rfl z_len (zae (zad 3) (zaf))) (zfp rfl c_MOST_TOLD_ASKS))) (zg2 (zgp (zcl rfl z_len (zae (zad 4) (zaf))) (zcl rfl z_len (zae (zad 3) (zaf))))))) (zan (zg4)) (zbj)) (zan (za4 (zel (zae (zad 3) (zae (zad 4) (zaf))))))))))
theorem hz_read_told (F:FJ K mg "read_told" (top bd 31)) (z_len:mg "len" = none) (z_tuple:mg "tuple" = none) (c_MOST_TOLD_ASKS:∃t,mg "MOST_TOLD_ASKS" = some (.int 12 t)) (c_ANSWERS:∃t,mg "ANSWERS" = some (.int 8 t)) (h_m_read_part:Has P w K mg base "read_part" 2 2 ze8) (h_m_read_row:Has P w K mg base "read_row" 2 2 zgi) (hz_read_row:zby P w K mg base CA "read_row" 2 2 zia) (hz_read_part:zby P w K mg base CA "read_part" 2 2 zgv) (q_NoText:mg "NoText" = some (.ref (CA "NoText"))) (x_NoText:PySem.W.excIn K (CA "NoText") zc6 "ValueError.__new__" = true):zby P w K mg base CA "read_told" 3 2 zgw:=by
 obtain ⟨_,c_MOST_TOLD_ASKS⟩:=c_MOST_TOLD_ASKS
 obtain ⟨_,c_ANSWERS⟩:=c_ANSWERS
 have sc:=ztl
 refine zht (k:=2) F sc rfl (bl2 λ_ _=>λ_ _ _ _ _ _=>rfl) λf cdv hcd A outer s H E hr=>?_
 exact zfu (za0 2 sc.nd (zh9 (zad 1) (zaz))) (zhl (zdi (zi6 (zgp (zcl rfl z_len (zae (zad 2) (zaf))) (zai)) (zdi (zh7 rfl q_NoText x_NoText)) (zi5))) (zfu (zbh (zgp (zcl rfl z_len (zae (zad 2) (zaf))) (zai)) (zan (zg4)) (zbj)) (zhl (zdi (zlh (zg7 hz_read_row zi4 hr (by decide) rfl (zae (zad 0) (zae (zbr (zad 2) (zai)) (zaf))) (zag (zag zam))))) (zfu (za0 3 sc.nd (zao h_m_read_row hr (by decide) rfl (zae (zad 0) (zae (zbr (zad 2) (zai)) (zaf))) (zag (zag zam)))) (zhl (zdi (zlh (zr6 rfl z_tuple (zri (zni (N':=["sign"]) (ixs:=[none]) znh rfl (zcy (scO:=zas (top bd 31)) (NO:=zn6) rfl rfl (by decide +kernel)) (zgg (zbr (zad 2) (zai))) (λ_ _ _ _ _=>zbq 0 zlo) (λ_ _ _ _ _=>zeb) (λ_ _ _ _ _=>zao h_m_read_part hr (by decide) rfl (zae (zad 0) (zae (zfp rfl c_ANSWERS) (zaf))) (zag (zag zam))) (λ_ _ _ _ _ xf=>zg7 hz_read_part xf.passes hr (by decide) rfl (zae (zad 0) (zae (zfp rfl c_ANSWERS) (zaf))) (zag (zag zam)))))))) (zfu (za0 4 sc.nd (zgr rfl z_tuple (zae (zeg (N':=["sign"]) (ixs:=[none]) rfl (zcy (scO:=zas (top bd 31)) (NO:=zn6) rfl rfl (by decide +kernel)) (zgg (zbr (zad 2) (zai))) (λ_ _ _ _ _=>zbq 0 zlo) (λ_ _ _ _ _=>zeb) (λ_ _ _ _ _=>zao h_m_read_part hr (by decide) rfl (zae (zad 0) (zae (zfp rfl c_ANSWERS) (zaf))) (zag (zag zam)))) (zaf)))) (zdi (zi6 (zgm (zf3 (ze4 (zmp ziq ziq (zgn λ_ _ _ _=>.bl _) (zgn λ_ _ _ _=>.bl _) (zai) (zcl rfl z_len (zae (zad 3) (zaf))) (zfp rfl c_MOST_TOLD_ASKS))) (zg2 (zgp (zcl rfl z_len (zae (zad 4) (zaf))) (zcl rfl z_len (zae (zad 3) (zaf))))))) (zdi (zh7 rfl q_NoText x_NoText)) (zi5)))))))))
theorem ztm:FnScope ["text","between","most","found"] ["text","between","most"] (zas (top bd 30)):=⟨rfl,rfl,rfl,by decide +kernel,rfl,by decide +kernel,by decide +kernel⟩
theorem h_m_read_list (F:FJ K mg "read_list" (top bd 30)) (z_len:mg "len" = none) (h_m_refuse_no_text:Has P w K mg base "refuse_no_text" 1 1 ze0) (hz_refuse_no_text:zby P w K mg base CA "refuse_no_text" 1 1 zgh) (q_NoText:mg "NoText" = some (.ref (CA "NoText"))) (x_NoText:PySem.W.excIn K (CA "NoText") zc6 "ValueError.__new__" = true):Has P w K mg base "read_list" 2 3 zd7:=by
 have sc:=ztm
 refine zce (k:=1) F sc rfl (bl3 λ_ _ _=>λ_ _ _ _ _ _=>rfl) λf cdv hcd A outer s H E hr=>?_
 exact zal (zgq (zao h_m_refuse_no_text hr (by decide) rfl (zae (zad 0) (zaf)) (zag zam))) (zal (za0 3 sc.nd (zjl (zcx (zad 0) (zaz)) (zcb (zaf)) (zh9 (zad 0) (zad 1)))) (zal (zbh (ziw (zcl rfl z_len (zae (zad 3) (zaf))) (zad 2)) (zan (zg4)) (zbj)) (zan (za4 (zad 3)))))
theorem hz_read_list (F:FJ K mg "read_list" (top bd 30)) (z_len:mg "len" = none) (h_m_refuse_no_text:Has P w K mg base "refuse_no_text" 1 1 ze0) (hz_refuse_no_text:zby P w K mg base CA "refuse_no_text" 1 1 zgh) (q_NoText:mg "NoText" = some (.ref (CA "NoText"))) (x_NoText:PySem.W.excIn K (CA "NoText") zc6 "ValueError.__new__" = true):zby P w K mg base CA "read_list" 2 3 zfv:=by
 have sc:=ztm
 refine zht (k:=1) F sc rfl (bl3 λ_ _ _=>λ_ _ _ _ _ _=>rfl) λf cdv hcd A outer s H E hr=>?_
 exact zhl (zdi (zrj (zg7 hz_refuse_no_text zi4 hr (by decide) rfl (zae (zad 0) (zaf)) (zag zam)))) (zfu (zgq (zao h_m_refuse_no_text hr (by decide) rfl (zae (zad 0) (zaf)) (zag zam))) (zfu (za0 3 sc.nd (zjl (zcx (zad 0) (zaz)) (zcb (zaf)) (zh9 (zad 0) (zad 1)))) (zdi (zi6 (ziw (zcl rfl z_len (zae (zad 3) (zaf))) (zad 2)) (zdi (zh7 rfl q_NoText x_NoText)) (zi5)))))
theorem ztn:FnScope ["asks","text","told"] ["asks","text"] (zas (top bd 29)):=⟨rfl,rfl,rfl,by decide +kernel,rfl,by decide +kernel,by decide +kernel⟩
theorem zto:List.Nodup (["one","asks"]:List Str):=by decide +kernel
noncomputable abbrev ztp:List Str:=["asks","text","told"]
theorem h_m_read_sheet (F:FJ K mg "read_sheet" (top bd 29)) (c_MOST_TOLD_ROWS:∃t,mg "MOST_TOLD_ROWS" = some (.int 24 t)) (h_m_read_told:Has P w K mg base "read_told" 3 2 zfk) (h_m_read_list:Has P w K mg base "read_list" 2 3 zd7) (hz_read_list:zby P w K mg base CA "read_list" 2 3 zfv) (hz_read_told:zby P w K mg base CA "read_told" 3 2 zgw):Has P w K mg base "read_sheet" 4 2 ze1:=by
 obtain ⟨_,c_MOST_TOLD_ROWS⟩:=c_MOST_TOLD_ROWS
 have sc:=ztn
 refine zce (k:=3) F sc rfl (bl2 λ_ _=>λ_ _ _ _ _ _=>rfl) λf cdv hcd A outer s H E hr=>?_
 exact zal (za0 2 sc.nd (zao h_m_read_list hr (by decide) rfl (zae (zad 1) (zae (zaz) (zae (zfp rfl c_MOST_TOLD_ROWS) (zaf)))) (zag (zag (zag zam))))) (zan (za4 (zeg (N':=["one","asks"]) (ixs:=[none,some 0]) rfl (zcy (scO:=zas (top bd 29)) (NO:=ztp) rfl rfl (by decide +kernel)) (zf7 (zad 2)) (λ_ _ _ _ _=>zbq 0 zto) (λ_ _ _ _ _=>zeb) (λ_ _ _ _ _=>zao h_m_read_told hr (by decide) rfl (zae (zad 1) (zae (zad 0) (zaf))) (zag (zag zam))))))
theorem hz_read_sheet (F:FJ K mg "read_sheet" (top bd 29)) (c_MOST_TOLD_ROWS:∃t,mg "MOST_TOLD_ROWS" = some (.int 24 t)) (h_m_read_told:Has P w K mg base "read_told" 3 2 zfk) (h_m_read_list:Has P w K mg base "read_list" 2 3 zd7) (hz_read_list:zby P w K mg base CA "read_list" 2 3 zfv) (hz_read_told:zby P w K mg base CA "read_told" 3 2 zgw):zby P w K mg base CA "read_sheet" 4 2 zg9:=by
 obtain ⟨_,c_MOST_TOLD_ROWS⟩:=c_MOST_TOLD_ROWS
 have sc:=ztn
 refine zht (k:=3) F sc rfl (bl2 λ_ _=>λ_ _ _ _ _ _=>rfl) λf cdv hcd A outer s H E hr=>?_
 exact zhl (zdi (zlh (zg7 hz_read_list zi4 hr (by decide) rfl (zae (zad 1) (zae (zaz) (zae (zfp rfl c_MOST_TOLD_ROWS) (zaf)))) (zag (zag (zag zam)))))) (zfu (za0 2 sc.nd (zao h_m_read_list hr (by decide) rfl (zae (zad 1) (zae (zaz) (zae (zfp rfl c_MOST_TOLD_ROWS) (zaf)))) (zag (zag (zag zam))))) (zdi (znb (zni (N':=["one","asks"]) (ixs:=[none,some 0]) znh rfl (zcy (scO:=zas (top bd 29)) (NO:=ztp) rfl rfl (by decide +kernel)) (zf7 (zad 2)) (λ_ _ _ _ _=>zbq 0 zto) (λ_ _ _ _ _=>zeb) (λ_ _ _ _ _=>zao h_m_read_told hr (by decide) rfl (zae (zad 1) (zae (zad 0) (zaf))) (zag (zag zam))) (λ_ _ _ _ _ xf=>zg7 hz_read_told xf.passes hr (by decide) rfl (zae (zad 1) (zae (zad 0) (zaf))) (zag (zag zam)))))))
theorem yd1:FnScope ["v","text"] ["v","text"] (zas (top bd 33)):=⟨rfl,rfl,rfl,by decide +kernel,rfl,by decide +kernel,by decide +kernel⟩
noncomputable abbrev yd2:List Str:=["v","text"]
theorem h_m_is_piece (F:FJ K mg "is_piece" (top bd 33)) (z_len:mg "len" = none) (z_all:mg "all" = none):Has P w K mg base "is_piece" 1 2 ze9:=by
 have sc:=yd1
 refine zce (k:=0) F sc rfl (bl2 λ_ _=>λ_ _ _ _ _ _=>rfl) λf cdv hcd A outer s H E hr=>?_
 exact zan (za4 (zmq (zqj (zcl rfl z_len (zae (zad 1) (zaf))) (zad 0)) (ziv (zm5 rfl rfl z_all (zae (zeg (N':=["sign"]) (ixs:=[none]) rfl (zcy (scO:=zas (top bd 33)) (NO:=yd2) rfl rfl (by decide +kernel)) (zgg (zad 1)) (λ_ _ _ _ _=>zbq 0 zlo) (λ_ _ _ _ _=>zeb) (λ_ _ _ _ _=>yc9 (zad 0) (zaz))) (zaf))))))
theorem ztq:FnScope ["v","text","pieces"] ["v","text"] (zas (top bd 32)):=⟨rfl,rfl,rfl,by decide +kernel,rfl,by decide +kernel,by decide +kernel⟩
theorem ztr:List.Nodup (["piece","v"]:List Str):=by decide +kernel
noncomputable abbrev zts:List Str:=["v","text","pieces"]
theorem h_m_read_net (F:FJ K mg "read_net" (top bd 32)) (z_tuple:mg "tuple" = none) (z_all:mg "all" = none) (c_MOST_PIECES:∃t,mg "MOST_PIECES" = some (.int 40 t)) (h_m_is_piece:Has P w K mg base "is_piece" 1 2 ze9) (h_m_read_list:Has P w K mg base "read_list" 2 3 zd7) (hz_read_list:zby P w K mg base CA "read_list" 2 3 zfv) (q_NoText:mg "NoText" = some (.ref (CA "NoText"))) (x_NoText:PySem.W.excIn K (CA "NoText") zc6 "ValueError.__new__" = true):Has P w K mg base "read_net" 3 2 zfa:=by
 obtain ⟨_,c_MOST_PIECES⟩:=c_MOST_PIECES
 have sc:=ztq
 refine zce (k:=2) F sc rfl (bl2 λ_ _=>λ_ _ _ _ _ _=>rfl) λf cdv hcd A outer s H E hr=>?_
 exact zal (za0 2 sc.nd (zao h_m_read_list hr (by decide) rfl (zae (zad 1) (zae (zaz) (zae (zfp rfl c_MOST_PIECES) (zaf)))) (zag (zag (zag zam))))) (zal (zbh (ze4 (zf1 (zm5 rfl rfl z_all (zae (zeg (N':=["piece","v"]) (ixs:=[none,some 0]) rfl (zcy (scO:=zas (top bd 32)) (NO:=zts) rfl rfl (by decide +kernel)) (zf7 (zad 2)) (λ_ _ _ _ _=>zbq 0 ztr) (λ_ _ _ _ _=>zeb) (λ_ _ _ _ _=>zao h_m_is_piece hr (by decide) rfl (zae (zad 1) (zae (zad 0) (zaf))) (zag (zag zam)))) (zaf))))) (zan (zg4)) (zbj)) (zan (za4 (zgr rfl z_tuple (zae (zad 2) (zaf))))))
theorem hz_read_net (F:FJ K mg "read_net" (top bd 32)) (z_tuple:mg "tuple" = none) (z_all:mg "all" = none) (c_MOST_PIECES:∃t,mg "MOST_PIECES" = some (.int 40 t)) (h_m_is_piece:Has P w K mg base "is_piece" 1 2 ze9) (h_m_read_list:Has P w K mg base "read_list" 2 3 zd7) (hz_read_list:zby P w K mg base CA "read_list" 2 3 zfv) (q_NoText:mg "NoText" = some (.ref (CA "NoText"))) (x_NoText:PySem.W.excIn K (CA "NoText") zc6 "ValueError.__new__" = true):zby P w K mg base CA "read_net" 3 2 zha:=by
 obtain ⟨_,c_MOST_PIECES⟩:=c_MOST_PIECES
 have sc:=ztq
 refine zht (k:=2) F sc rfl (bl2 λ_ _=>λ_ _ _ _ _ _=>rfl) λf cdv hcd A outer s H E hr=>?_
 exact zhl (zdi (zlh (zg7 hz_read_list zi4 hr (by decide) rfl (zae (zad 1) (zae (zaz) (zae (zfp rfl c_MOST_PIECES) (zaf)))) (zag (zag (zag zam)))))) (zfu (za0 2 sc.nd (zao h_m_read_list hr (by decide) rfl (zae (zad 1) (zae (zaz) (zae (zfp rfl c_MOST_PIECES) (zaf)))) (zag (zag (zag zam))))) (zdi (zi6 (ze4 (zf1 (zm5 rfl rfl z_all (zae (zeg (N':=["piece","v"]) (ixs:=[none,some 0]) rfl (zcy (scO:=zas (top bd 32)) (NO:=zts) rfl rfl (by decide +kernel)) (zf7 (zad 2)) (λ_ _ _ _ _=>zbq 0 ztr) (λ_ _ _ _ _=>zeb) (λ_ _ _ _ _=>zao h_m_is_piece hr (by decide) rfl (zae (zad 1) (zae (zad 0) (zaf))) (zag (zag zam)))) (zaf))))) (zdi (zh7 rfl q_NoText x_NoText)) (zi5))))
theorem yd3:FnScope ["_law_way","_law_many","_law_thing","_law_caught","_law_found","e","_law_others"] ["_law_way","_law_many","_law_thing"] (zas (top bd 47)):=⟨rfl,rfl,rfl,by decide +kernel,rfl,by decide +kernel,by decide +kernel⟩
theorem h_m_law_read (F:FJ K mg "_law_read" (top bd 47)) (z_isinstance:mg "isinstance" = none) (z_ValueError:mg "ValueError" = none) (z_repr:mg "repr" = none) (h_m_read_sheet:Has P w K mg base "read_sheet" 4 2 ze1) (h_m_read_net:Has P w K mg base "read_net" 3 2 zfa) (hz_read_sheet:zby P w K mg base CA "read_sheet" 4 2 zg9) (hz_read_net:zby P w K mg base CA "read_net" 3 2 zha) (q_NoText:mg "NoText" = some (.ref (CA "NoText"))) (q_TooMany:mg "TooMany" = some (.ref (CA "TooMany"))) (q_Unlike:mg "Unlike" = some (.ref (CA "Unlike"))) (q_Unreached:mg "Unreached" = some (.ref (CA "Unreached"))) (q_Clash:mg "Clash" = some (.ref (CA "Clash"))) (q_NoBack:mg "NoBack" = some (.ref (CA "NoBack"))) (q_NoLine:mg "NoLine" = some (.ref (CA "NoLine"))) (q_NoName:mg "NoName" = some (.ref (CA "NoName"))) (q_NoWords:mg "NoWords" = some (.ref (CA "NoWords"))) (q_NotClosed:mg "NotClosed" = some (.ref (CA "NotClosed"))) (q_NotFull:mg "NotFull" = some (.ref (CA "NotFull"))) (q_NotOpen:mg "NotOpen" = some (.ref (CA "NotOpen"))) (q_CellError:mg "CellError" = some (.ref (CA "CellError"))) (x_CellError:PySem.W.excIn K (CA "CellError") zc6 "ValueError.__new__" = true) (x_NoText:PySem.W.excIn K (CA "NoText") zc6 "ValueError.__new__" = true) (n_NoText:PySem.W.nsIn K mainGlobals "NoText" = some (some (.ref (CA "NoText")))) (s_NoText_CellError:(Value.ref (CA "NoText") :: zg8 K (CA "NoText")).contains (.ref (CA "CellError"))=true) (e_NoText:ExcQ K (CA "NoText")) (i_0:PySem.W.kitOne K (.ref (CA "NoText")) (.ref (CA "NoText"))=some true) (i_1:PySem.W.kitOne K (.ref (CA "NoText")) (.type "ValueError")=some true) (i_2:PySem.W.kitAny K (.ref (CA "NoText")) [.ref (CA "TooMany"),.ref (CA "Unlike"),.ref (CA "Unreached")]=some false) (i_3:PySem.W.kitAny K (.ref (CA "NoText")) [.ref (CA "Clash"),.ref (CA "NoBack"),.ref (CA "NoLine"),.ref (CA "NoName"),.ref (CA "NoWords"),.ref (CA "NotClosed"),.ref (CA "NotFull"),.ref (CA "NotOpen")]=some false):Has P w K mg base "_law_read" 5 3 zex:=by
 have sc:=yd3
 refine zce (k:=4) F sc rfl (bl3 λ_ _ _=>λ_ _ _ _ _ _=>rfl) λf cdv hcd A outer s H E hr=>?_
 exact zal (za0 3 sc.nd (zek)) (zal (za0 4 sc.nd (zek)) (zal (yc8 (CA:=CA) 5 sc.nd (λ_ _ h=>h) rfl rfl rfl q_CellError x_CellError (yck ⟨n_NoText,x_NoText,s_NoText_CellError⟩) (λ_=>zan (za0 3 sc.nd (zad 5))) (λ_=>yc7 (λ_ _ h=>h) (zcx (zad 0) (zai)) (zr7 hz_read_sheet (λ_ _ h=>h) hr (by decide) (zae (zad 1) (zae (zad 2) (zaf))) (zag (zag zam))) (zr7 hz_read_net (λ_ _ h=>h) hr (by decide) (zae (zad 1) (zae (zad 2) (zaf))) (zag (zag zam)))) (zan (zbh (zcx (zad 0) (zai)) (zan (za0 4 sc.nd (zao h_m_read_sheet hr (by decide) rfl (zae (zad 1) (zae (zad 2) (zaf))) (zag (zag zam))))) (zan (za0 4 sc.nd (zao h_m_read_net hr (by decide) rfl (zae (zad 1) (zae (zad 2) (zaf))) (zag (zag zam)))))))) (zal (zbh (zmu (zad 3) (zek)) (zan (za4 (zel (zae (zaz) (zae (zhi hr rfl z_repr (zae (zad 4) (zaf))) (zaf)))))) (zbj)) (zal (za0 6 sc.nd (zrs rfl z_isinstance (zad 3) (zgf rfl q_Clash (zgf rfl q_NoBack (zgf rfl q_NoLine (zgf rfl q_NoName (zgf rfl q_NoWords (zgf rfl q_NotClosed (zgf rfl q_NotFull (zgf rfl q_NotOpen (zrp))))))))) (by simp only [List.length_cons,List.length_nil];decide) (zlj (R:=λC b=>ExcQ _ C/\PySem.W.kitAny _ (.ref C) _=some b) n_NoText ⟨e_NoText,i_3⟩))) (zal (za0 6 sc.nd (zze (zad 6) (ziv (zrs rfl z_isinstance (zad 3) (zgf rfl q_TooMany (zgf rfl q_Unlike (zgf rfl q_Unreached (zrp)))) (by simp only [List.length_cons,List.length_nil];decide) (zlj (R:=λC b=>ExcQ _ C/\PySem.W.kitAny _ (.ref C) _=some b) n_NoText ⟨e_NoText,i_2⟩))))) (zan (za4 (zel (zae (zaz) (zae (zmq (yci rfl z_isinstance (zad 3) rfl q_NoText (zlj (R:=λC b=>ExcQ _ C/\PySem.W.kitOne _ (.ref C) _=some b) n_NoText ⟨e_NoText,i_0⟩)) (zmq (ycj (U:="ValueError") rfl z_isinstance (zad 3) rfl z_ValueError (by decide +kernel) (zlj (R:=λC b=>ExcQ _ C/\PySem.W.kitOne _ (.ref C) _=some b) n_NoText ⟨e_NoText,i_1⟩)) (ziv (zzf (zad 6))))) (zaf)))))))))))
theorem yd4:FnScope ["_law_v","_law_text","_law_net_here","_law_bad"] ["_law_v","_law_text"] (zas (top bd 46)):=⟨rfl,rfl,rfl,by decide +kernel,rfl,by decide +kernel,by decide +kernel⟩
theorem yd5:List.Nodup (["_law_piece","_law_v"]:List Str):=by decide +kernel
theorem zn7:List.Nodup (["_law_sign"]:List Str):=by decide +kernel
noncomputable abbrev yd6:List Str:=["_law_v","_law_text","_law_net_here","_law_bad"]
theorem h_m_law_net_of (F:FJ K mg "_law_net_of" (top bd 46)) (z_tuple:mg "tuple" = none) (z_len:mg "len" = none):Has P w K mg base "_law_net_of" 1 2 zib:=by
 have sc:=yd4
 refine zce (k:=0) F sc rfl (bl2 λ_ _=>λ_ _ _ _ _ _=>rfl) λf cdv hcd A outer s H E hr=>?_
 exact zal (zbh (zcx (zad 1) (zaz)) (zan (za4 (zel (zaf)))) (zbj)) (zal (za0 2 sc.nd (zh9 (zad 1) (zaz))) (zal (zm3 3 sc.nd (N':=["_law_piece","_law_v"]) (ixs:=[none,some 0]) rfl (zcy (scO:=zas (top bd 46)) (NO:=yd6) rfl rfl (by decide +kernel)) (zf7 (zad 2)) (λ_ _ _ _ _=>zbq 0 yd5) (λ_ _ _ _ _=>zjy (zgm (zf3 (zgp (zcl rfl z_len (zae (zad 0) (zaf))) (zad 1)) (zg2 (zld hr (zeg (N':=["_law_sign"]) (ixs:=[none]) rfl (ybi (by decide +kernel)) (zgg (zad 0)) (λ_ _ _ _ _=>zbq 0 zn7) (λ_ _ _ _ _=>zjy (znj (zad 0) (zaz))) (λ_ _ _ _ _=>zad 0)) (zcb (zaf))))))) (λ_ _ _ _ _=>zad 0)) (zal (zbh (zgm (zf3 (zld hr (zad 3) (zcb (zaf))) (zg2 (ziw (zcl rfl z_len (zae (zad 2) (zaf))) (zai))))) (zan (za4 (zek))) (zbj)) (zan (za4 (zgr rfl z_tuple (zae (zad 2) (zaf))))))))
theorem yd7:FnScope ["_law_asks","_law_text","_law_words","_law_answers","_law_sign"] ["_law_asks","_law_text"] (zas (top bd 44)):=⟨rfl,rfl,rfl,by decide +kernel,rfl,by decide +kernel,by decide +kernel⟩
theorem yd8:List.Nodup (["_law_sign","_law_asks"]:List Str):=by decide +kernel
noncomputable abbrev zn8:List Str:=["_law_asks","_law_text","_law_words","_law_answers","_law_sign"]
theorem h_m_law_told_of (F:FJ K mg "_law_told_of" (top bd 44)) (z_tuple:mg "tuple" = none) (z_int:mg "int" = none) (z_len:mg "len" = none):Has P w K mg base "_law_told_of" 1 2 zhq:=by
 have sc:=yd7
 refine zce (k:=0) F sc rfl (bl2 λ_ _=>λ_ _ _ _ _ _=>rfl) λf cdv hcd A outer s H E hr=>?_
 exact zal (za0 2 sc.nd (zh9 (zad 1) (zaz))) (zal (zbh (zgm (zf3 (zgp (zcl rfl z_len (zae (zad 2) (zaf))) (zai)) (zf3 (ze4 (zmp ziq ziq (zgn λ_ _ _ _=>.bl _) (zgn λ_ _ _ _=>.bl _) (zai) (zcl rfl z_len (zae (zbr (zad 2) (zai)) (zaf))) (zai))) (zg2 (zgp (zcl rfl z_len (zae (zbr (zad 2) (zai)) (zaf))) (zcl rfl z_len (zae (zbr (zad 2) (zai)) (zaf)))))))) (zan (za4 (zek))) (zbj)) (zal (zbh (zld hr (zeg (N':=["_law_sign","_law_asks"]) (ixs:=[none,some 0]) rfl (zcy (scO:=zas (top bd 44)) (NO:=zn8) rfl rfl (by decide +kernel)) (zgg (zbr (zad 2) (zai))) (λ_ _ _ _ _=>zbq 0 yd8) (λ_ _ _ _ _=>zjy (znj (zad 0) (zet (zaz) (ze5) (zef (zad 1))))) (λ_ _ _ _ _=>zad 0)) (zcb (zaf))) (zan (za4 (zek))) (zbj)) (zal (zbh (zld hr (zeg (N':=["_law_sign"]) (ixs:=[none]) rfl (zcy (scO:=zas (top bd 44)) (NO:=zn8) rfl rfl (by decide +kernel)) (zgg (zbr (zad 2) (zai))) (λ_ _ _ _ _=>zbq 0 zn7) (λ_ _ _ _ _=>zjy (znj (zad 0) (zaz))) (λ_ _ _ _ _=>zad 0)) (zcb (zaf))) (zan (za4 (zek))) (zbj)) (zal (za0 3 sc.nd (zcb (zaf))) (zal (ybp PassesOwn.never rfl (ycl (zgg (zbr (zad 2) (zai)))) (zbq 4 sc.nd) (zan (zgq (ziy (zad 3) (zjl (zcx (zad 4) (zaz)) (zek) (zm9 rfl z_int (zae (zad 4) (zaf)))))))) (zan (za4 (zel (zae (zgr rfl z_tuple (zae (zeg (N':=["_law_sign"]) (ixs:=[none]) rfl (zcy (scO:=zas (top bd 44)) (NO:=zn8) rfl rfl (by decide +kernel)) (zgg (zbr (zad 2) (zai))) (λ_ _ _ _ _=>zbq 0 zn7) (λ_ _ _ _ _=>zeb) (λ_ _ _ _ _=>zm9 rfl z_int (zae (zad 0) (zaf)))) (zaf))) (zae (zgr rfl z_tuple (zae (zad 3) (zaf))) (zaf)))))))))))
theorem yd9:FnScope ["_law_asks","_law_text","_law_sheet_here"] ["_law_asks","_law_text"] (zas (top bd 45)):=⟨rfl,rfl,rfl,by decide +kernel,rfl,by decide +kernel,by decide +kernel⟩
theorem yea:List.Nodup (["_law_some","_law_asks"]:List Str):=by decide +kernel
noncomputable abbrev yeb:List Str:=["_law_asks","_law_text","_law_sheet_here"]
theorem h_m_law_sheet_of (F:FJ K mg "_law_sheet_of" (top bd 45)) (z_len:mg "len" = none) (h_m_law_told_of:Has P w K mg base "_law_told_of" 1 2 zhq):Has P w K mg base "_law_sheet_of" 2 2 zi9:=by
 have sc:=yd9
 refine zce (k:=1) F sc rfl (bl2 λ_ _=>λ_ _ _ _ _ _=>rfl) λf cdv hcd A outer s H E hr=>?_
 exact zal (zbh (zcx (zad 1) (zaz)) (zan (za4 (zcb (zaf)))) (zbj)) (zal (zm3 2 sc.nd (N':=["_law_some","_law_asks"]) (ixs:=[none,some 0]) rfl (zcy (scO:=zas (top bd 45)) (NO:=yeb) rfl rfl (by decide +kernel)) (zf7 (zh9 (zad 1) (zaz))) (λ_ _ _ _ _=>zbq 0 yea) (λ_ _ _ _ _=>zeb) (λ_ _ _ _ _=>zao h_m_law_told_of hr (by decide) rfl (zae (zad 1) (zae (zad 0) (zaf))) (zag (zag zam)))) (zal (zbh (zgm (zf3 (ycp hr (zek) (zad 2)) (zg2 (ziw (zcl rfl z_len (zae (zad 2) (zaf))) (zai))))) (zan (za4 (zek))) (zbj)) (zan (za4 (zad 2)))))
theorem yec:FnScope ["_law_way","_law_many","_law_text","_law_due"] ["_law_way","_law_many","_law_text"] (zas (top bd 48)):=⟨rfl,rfl,rfl,by decide +kernel,rfl,by decide +kernel,by decide +kernel⟩
theorem h_m_law_right (F:FJ K mg "_law_right" (top bd 48)) (z_repr:mg "repr" = none) (h_m_law_read:Has P w K mg base "_law_read" 5 3 zex) (h_m_law_net_of:Has P w K mg base "_law_net_of" 1 2 zib) (h_m_law_sheet_of:Has P w K mg base "_law_sheet_of" 2 2 zi9):Has P w K mg base "_law_right" 6 3 zcr:=by
 have sc:=yec
 refine zce (k:=5) F sc rfl (bl3 λ_ _ _=>λ_ _ _ _ _ _=>rfl) λf cdv hcd A outer s H E hr=>?_
 exact zal (za0 3 sc.nd (zao h_m_law_sheet_of hr (by decide) rfl (zae (zad 1) (zae (zad 2) (zaf))) (zag (zag zam)))) (zal (zbh (zcx (zad 0) (zai)) (zan (za0 3 sc.nd (zao h_m_law_net_of hr (by decide) rfl (zae (zad 1) (zae (zad 2) (zaf))) (zag (zag zam))))) (zbj)) (zal (zbh (zmu (zad 3) (zek)) (zan (za4 (zq1 hr (zao h_m_law_read hr (by decide) rfl (zae (zad 0) (zae (zad 1) (zae (zad 2) (zaf)))) (zag (zag (zag zam)))) (zel (zae (zaz) (zae (zf0) (zaf))))))) (zbj)) (zan (za4 (zq1 hr (zao h_m_law_read hr (by decide) rfl (zae (zad 0) (zae (zad 1) (zae (zad 2) (zaf)))) (zag (zag (zag zam)))) (zel (zae (zaz) (zae (zhi hr rfl z_repr (zae (zad 3) (zaf))) (zaf)))))))))
theorem yed:FnScope ["_law_pen_here","_law_many","_law_drawn","_law_number"] ["_law_pen_here","_law_many"] (zas (top bd 36)):=⟨rfl,rfl,rfl,by decide +kernel,rfl,by decide +kernel,by decide +kernel⟩
theorem h_m_law_draw (F:FJ K mg "_law_draw" (top bd 36)):Has P w K mg base "_law_draw" 1 2 zbp:=by
 have sc:=yed
 refine zce (k:=0) F sc rfl (bl2 λ_ _=>λ_ _ _ _ _ _=>rfl) λf cdv hcd A outer s H E hr=>?_
 exact zal (zmz (zb2 (zbr (zad 0) (zai)) (zai)) (zmy (zad 0) (zai))) (zal (zbh (ziw (zbr (zad 0) (zai)) (zai)) (zal (za0 2 sc.nd (zgo (zbr (zad 0) (zai)) (zad 1))) (zal (zmz (zqf (zbr (zad 0) (zai)) (zad 1)) (zmy (zad 0) (zai))) (zan (za4 (zad 2))))) (zbj)) (zal (za0 3 sc.nd (zgo (zj0 (zb2 (zbr (zad 0) (zai)) (zai)) (zb2 (zj0 (zai) (zbr (zad 0) (zai))) (zai))) (zai))) (zal (za0 3 sc.nd (zgo (zb2 (zk1 (zad 3) (zai)) (zj0 (zai) (zbr (zad 0) (zai)))) (zai))) (zal (za0 3 sc.nd (zgo (zk1 (zad 3) (zai)) (zbr (zcb (zae (zai) (zae (zai) (zae (zai) (zaf))))) (zgo (zbr (zad 0) (zai)) (zai))))) (zan (za4 (zgo (zqf (zad 3) (zai)) (zad 1))))))))
theorem yee:FnScope ["_law_signs_here"] [] (zas (top bd 37)):=⟨rfl,rfl,rfl,by decide +kernel,rfl,by decide +kernel,by decide +kernel⟩
theorem h_m_law_signs (F:FJ K mg "_law_signs" (top bd 37)):Has P w K mg base "_law_signs" 1 0 zic:=by
 have sc:=yee
 refine zce (k:=0) F sc rfl (λus hl=>match us,hl with | [],_=>λ_ _ _ _ _ _=>rfl) λf cdv hcd A outer s H E hr=>?_
 exact zal (za0 0 sc.nd (zaz)) (zan (za4 (zb2 (zad 0) (zaz))))
theorem yef:FnScope ["_law_pen_here","_law_text","_law_way","_law_few","_law_signs_here","_law_sign","_law_at","_law_one","_law_two","_law_end","_law_twice","_law_fewer"] ["_law_pen_here","_law_text"] (zas (top bd 38)):=⟨rfl,rfl,rfl,by decide +kernel,rfl,by decide +kernel,by decide +kernel⟩
theorem h_m_law_bent (F:FJ K mg "_law_bent" (top bd 38)) (z_len:mg "len" = none) (h_m_law_draw:Has P w K mg base "_law_draw" 1 2 zbp) (h_m_law_signs:Has P w K mg base "_law_signs" 1 0 zic):Has P w K mg base "_law_bent" 2 2 zhr:=by
 have sc:=yef
 refine zce (k:=1) F sc rfl (bl2 λ_ _=>λ_ _ _ _ _ _=>rfl) λf cdv hcd A outer s H E hr=>?_
 exact zal (za0 2 sc.nd (zao h_m_law_draw hr (by decide) rfl (zae (zad 0) (zae (zai) (zaf))) (zag (zag zam)))) (zal (za0 3 sc.nd (zaz)) (zal (za0 4 sc.nd (zbr (zcb (zae (yda h_m_law_signs hr (by decide) rfl) (zae (zad 3) (zaf)))) (zao h_m_law_draw hr (by decide) rfl (zae (zad 0) (zae (zai) (zaf))) (zag (zag zam))))) (zal (za0 5 sc.nd (zbr (zad 4) (zao h_m_law_draw hr (by decide) rfl (zae (zad 0) (zae (zcl rfl z_len (zae (zad 4) (zaf))) (zaf))) (zag (zag zam))))) (zal (za0 6 sc.nd (zao h_m_law_draw hr (by decide) rfl (zae (zad 0) (zae (zb2 (zcl rfl z_len (zae (zad 1) (zaf))) (zai)) (zaf))) (zag (zag zam)))) (zal (zbh (zcx (zad 2) (zai)) (zan (za4 (zb2 (zb2 (zet (zad 1) (ze5) (zef (zad 6))) (zad 5)) (zet (zad 1) (zef (zad 6)) (ze5))))) (zbj)) (zal (zbh (zcx (zad 2) (zai)) (zan (za4 (zb2 (zet (zad 1) (ze5) (zef (zad 6))) (zet (zad 1) (zef (zb2 (zad 6) (zai))) (ze5))))) (zbj)) (zal (zbh (zcx (zad 2) (zai)) (zan (za4 (zb2 (zb2 (zet (zad 1) (ze5) (zef (zad 6))) (zad 5)) (zet (zad 1) (zef (zb2 (zad 6) (zai))) (ze5))))) (zbj)) (zal (zbh (zcx (zad 2) (zai)) (zal (za0 7 sc.nd (zet (zad 1) (zef (zad 6)) (zef (zb2 (zad 6) (zai))))) (zal (za0 8 sc.nd (zet (zad 1) (zef (zb2 (zad 6) (zai))) (zef (zb2 (zad 6) (zai))))) (zan (za4 (zb2 (zb2 (zb2 (zet (zad 1) (ze5) (zef (zad 6))) (zad 8)) (zad 7)) (zet (zad 1) (zef (zb2 (zad 6) (zai))) (ze5))))))) (zbj)) (zal (za0 9 sc.nd (zb2 (zad 6) (zao h_m_law_draw hr (by decide) rfl (zae (zad 0) (zae (zai) (zaf))) (zag (zag zam))))) (zal (za0 10 sc.nd (zb2 (zet (zad 1) (ze5) (zef (zad 9))) (zet (zad 1) (zef (zad 6)) (ze5)))) (zal (za0 11 sc.nd (zb2 (zet (zad 1) (ze5) (zef (zad 6))) (zet (zad 1) (zef (zad 9)) (ze5)))) (zan (za4 (zbr (zcb (zae (zad 10) (zae (zad 11) (zaf)))) (zqe (zad 2) (zai))))))))))))))))
theorem yeg:FnScope ["_law_net_here"] ["_law_net_here"] (zas (top bd 43)):=⟨rfl,rfl,rfl,by decide +kernel,rfl,by decide +kernel,by decide +kernel⟩
theorem h_m_law_net_text (F:FJ K mg "_law_net_text" (top bd 43)) (z_list:mg "list" = none):Has P w K mg base "_law_net_text" 1 1 zhb:=by
 have sc:=yeg
 refine zce (k:=0) F sc rfl (bl1 λ_=>λ_ _ _ _ _ _=>rfl) λf cdv hcd A outer s H E hr=>?_
 exact zal (zbh (ya4 hr (zad 0) (zel (zaf))) (zan (za4 (zaz))) (zbj)) (zan (za4 (zg6 (zaz) (zqv rfl z_list (zae (zad 0) (zaf))))))
theorem yeh:FnScope ["_law_answers"] ["_law_answers"] (zas (top bd 41)):=⟨rfl,rfl,rfl,by decide +kernel,rfl,by decide +kernel,by decide +kernel⟩
theorem yei:List.Nodup (["_law_answer"]:List Str):=by decide +kernel
noncomputable abbrev yej:List Str:=["_law_answers"]
theorem h_m_law_answers_text (F:FJ K mg "_law_answers_text" (top bd 41)) (z_str:mg "str" = none) (z_int:mg "int" = none):Has P w K mg base "_law_answers_text" 1 1 zj7:=by
 have sc:=yeh
 refine zce (k:=0) F sc rfl (bl1 λ_=>λ_ _ _ _ _ _=>rfl) λf cdv hcd A outer s H E hr=>?_
 exact zan (za4 (zg6 (zaz) (zeg (N':=["_law_answer"]) (ixs:=[none]) rfl (zcy (scO:=zas (top bd 41)) (NO:=yej) rfl rfl (by decide +kernel)) (zf7 (zad 0)) (λ_ _ _ _ _=>zbq 0 yei) (λ_ _ _ _ _=>zeb) (λ_ _ _ _ _=>zbr (zcb (zae (zaz) (zae (ydw rfl z_str (zae (zad 0) (zaf))) (zaf)))) (zm9 rfl z_int (zae (zzk (zad 0) (zek)) (zaf)))))))
theorem yek:FnScope ["_law_sheet_here","_law_some","_law_row","_law_answers"] ["_law_sheet_here"] (zas (top bd 42)):=⟨rfl,rfl,rfl,by decide +kernel,rfl,by decide +kernel,by decide +kernel⟩
theorem yel:List.Nodup (["_law_ask"]:List Str):=by decide +kernel
noncomputable abbrev yem:List Str:=["_law_sheet_here","_law_some","_law_row","_law_answers"]
theorem h_m_law_sheet_text (F:FJ K mg "_law_sheet_text" (top bd 42)) (z_str:mg "str" = none) (h_m_law_answers_text:Has P w K mg base "_law_answers_text" 1 1 zj7):Has P w K mg base "_law_sheet_text" 2 1 zgx:=by
 have sc:=yek
 refine zce (k:=1) F sc rfl (bl1 λ_=>λ_ _ _ _ _ _=>rfl) λf cdv hcd A outer s H E hr=>?_
 exact zal (zbh (ybr hr (zad 0) (zcb (zaf))) (zan (za4 (zaz))) (zbj)) (zal (za0 1 sc.nd (zcb (zaf))) (zal (zk5 PassesOwn.never rfl (zad 0) (zqn rfl (zk4 (zbq 2 sc.nd) (zk4 (zbq 3 sc.nd) (zqm)))) (zan (zgq (ziy (zad 1) (zb2 (zb2 (zg6 (zaz) (zeg (N':=["_law_ask"]) (ixs:=[none]) rfl (zcy (scO:=zas (top bd 42)) (NO:=yem) rfl rfl (by decide +kernel)) (zf7 (zad 2)) (λ_ _ _ _ _=>zbq 0 yel) (λ_ _ _ _ _=>zeb) (λ_ _ _ _ _=>zle rfl z_str (zae (zad 0) (zaf))))) (zaz)) (zao h_m_law_answers_text hr (by decide) rfl (zae (zad 3) (zaf)) (zag zam))))))) (zan (za4 (zg6 (zaz) (zad 1))))))
theorem yen:FnScope ["part"] ["part"] (zas (top bd 16)):=⟨rfl,rfl,rfl,by decide +kernel,rfl,by decide +kernel,by decide +kernel⟩
theorem h_m_show_part (F:FJ K mg "show_part" (top bd 16)) (z_str:mg "str" = none):Has P w K mg base "show_part" 1 1 zj8:=by
 have sc:=yen
 refine zce (k:=0) F sc rfl (bl1 λ_=>λ_ _ _ _ _ _=>rfl) λf cdv hcd A outer s H E hr=>?_
 exact zan (za4 (zjl (zmu (zad 0) (zek)) (zaz) (zle rfl z_str (zae (zad 0) (zaf)))))
theorem yeo:FnScope ["parts"] ["parts"] (zas (top bd 18)):=⟨rfl,rfl,rfl,by decide +kernel,rfl,by decide +kernel,by decide +kernel⟩
theorem yep:List.Nodup (["part"]:List Str):=by decide +kernel
noncomputable abbrev yeq:List Str:=["parts"]
theorem h_m_show_parts (F:FJ K mg "show_parts" (top bd 18)) (h_m_show_part:Has P w K mg base "show_part" 1 1 zj8):Has P w K mg base "show_parts" 2 1 zid:=by
 have sc:=yeo
 refine zce (k:=1) F sc rfl (bl1 λ_=>λ_ _ _ _ _ _=>rfl) λf cdv hcd A outer s H E hr=>?_
 exact zan (za4 (zg6 (zaz) (zeg (N':=["part"]) (ixs:=[none]) rfl (zcy (scO:=zas (top bd 18)) (NO:=yeq) rfl rfl (by decide +kernel)) (zf7 (zad 0)) (λ_ _ _ _ _=>zbq 0 yep) (λ_ _ _ _ _=>zeb) (λ_ _ _ _ _=>zao h_m_show_part hr (by decide) rfl (zae (zad 0) (zaf)) (zag zam)))))
theorem yer:FnScope ["row"] ["row"] (zas (top bd 17)):=⟨rfl,rfl,rfl,by decide +kernel,rfl,by decide +kernel,by decide +kernel⟩
theorem h_m_show_row (F:FJ K mg "show_row" (top bd 17)) (h_m_show_parts:Has P w K mg base "show_parts" 2 1 zid):Has P w K mg base "show_row" 3 1 zj9:=by
 have sc:=yer
 refine zce (k:=2) F sc rfl (bl1 λ_=>λ_ _ _ _ _ _=>rfl) λf cdv hcd A outer s H E hr=>?_
 exact zan (za4 (zng (zao h_m_show_parts hr (by decide) rfl (zae (zad 0) (zaf)) (zag zam)) (ziv (zaz))))
theorem yes:FnScope ["sheet"] ["sheet"] (zas (top bd 27)):=⟨rfl,rfl,rfl,by decide +kernel,rfl,by decide +kernel,by decide +kernel⟩
theorem ztt:List.Nodup (["row","answers"]:List Str):=by decide +kernel
noncomputable abbrev yet:List Str:=["sheet"]
theorem h_m_show_sheet (F:FJ K mg "show_sheet" (top bd 27)) (h_m_show_parts:Has P w K mg base "show_parts" 2 1 zid) (h_m_show_row:Has P w K mg base "show_row" 3 1 zj9):Has P w K mg base "show_sheet" 4 1 zka:=by
 have sc:=yes
 refine zce (k:=3) F sc rfl (bl1 λ_=>λ_ _ _ _ _ _=>rfl) λf cdv hcd A outer s H E hr=>?_
 exact zan (za4 (zng (zg6 (zaz) (zeg (N':=["row","answers"]) (ixs:=[none,none]) rfl (zcy (scO:=zas (top bd 27)) (NO:=yet) rfl rfl (by decide +kernel)) (zf7 (zad 0)) (λ_ _ _ _ _=>zqn rfl (zk4 (zbq 0 ztt) (zk4 (zbq 1 ztt) (zqm)))) (λ_ _ _ _ _=>zeb) (λ_ _ _ _ _=>yct (zne (zry (zao h_m_show_row hr (by decide) rfl (zae (zad 0) (zaf)) (zag zam))) (λ_=>zne (zaz) (λ_=>zne (zry (zao h_m_show_parts hr (by decide) rfl (zae (zad 1) (zaf)) (zag zam))) (λ_=>ycs))))))) (ziv (zaz))))
theorem yeu:FnScope ["net"] ["net"] (zas (top bd 28)):=⟨rfl,rfl,rfl,by decide +kernel,rfl,by decide +kernel,by decide +kernel⟩
theorem h_m_show_net (F:FJ K mg "show_net" (top bd 28)):Has P w K mg base "show_net" 1 1 zkb:=by
 have sc:=yeu
 refine zce (k:=0) F sc rfl (bl1 λ_=>λ_ _ _ _ _ _=>rfl) λf cdv hcd A outer s H E hr=>?_
 exact zan (za4 (zng (ydt (zaz) (zad 0)) (ziv (zaz))))
theorem yev:FnScope ["_law_asks","_law_sheet_here","_law_v","_law_net_here","_law_handed","_law_told"] ["_law_asks","_law_sheet_here","_law_v","_law_net_here"] (zas (top bd 49)):=⟨rfl,rfl,rfl,by decide +kernel,rfl,by decide +kernel,by decide +kernel⟩
theorem h_m_law_good_right (F:FJ K mg "_law_good_right" (top bd 49)) (z_repr:mg "repr" = none) (z_list:mg "list" = none) (h_m_read_sheet:Has P w K mg base "read_sheet" 4 2 ze1) (h_m_law_sheet_text:Has P w K mg base "_law_sheet_text" 2 1 zgx) (h_m_read_net:Has P w K mg base "read_net" 3 2 zfa) (h_m_law_net_text:Has P w K mg base "_law_net_text" 1 1 zhb) (h_m_show_sheet:Has P w K mg base "show_sheet" 4 1 zka) (h_m_show_net:Has P w K mg base "show_net" 1 1 zkb):Has P w K mg base "_law_good_right" 5 4 zja:=by
 have sc:=yev
 refine zce (k:=4) F sc rfl (bl4 λ_ _ _ _=>λ_ _ _ _ _ _=>rfl) λf cdv hcd A outer s H E hr=>?_
 exact zal (za0 4 sc.nd (zqv rfl z_list (zae (zad 1) (zaf)))) (zal (zbh (zgm (zf3 (zla hr (zao h_m_show_sheet hr (by decide) rfl (zae (zad 4) (zaf)) (zag zam)) (zao h_m_law_sheet_text hr (by decide) rfl (zae (zad 1) (zaf)) (zag zam))) (zf3 (zla hr (zad 4) (zad 1)) (zg2 (zla hr (zao h_m_show_net hr (by decide) rfl (zae (zad 3) (zaf)) (zag zam)) (zao h_m_law_net_text hr (by decide) rfl (zae (zad 3) (zaf)) (zag zam))))))) (zan (za4 (zf0))) (zbj)) (zal (za0 5 sc.nd (zao h_m_read_sheet hr (by decide) rfl (zae (zad 0) (zae (zao h_m_law_sheet_text hr (by decide) rfl (zae (zad 1) (zaf)) (zag zam)) (zaf))) (zag (zag zam)))) (zal (zbh (zgm (zf3 (zgp (zhi hr rfl z_repr (zae (zad 5) (zaf))) (zhi hr rfl z_repr (zae (zad 1) (zaf)))) (zg2 (zgp (zhi hr rfl z_repr (zae (zao h_m_read_net hr (by decide) rfl (zae (zad 2) (zae (zao h_m_law_net_text hr (by decide) rfl (zae (zad 3) (zaf)) (zag zam)) (zaf))) (zag (zag zam))) (zaf))) (zhi hr rfl z_repr (zae (zad 3) (zaf))))))) (zan (za4 (zf0))) (zbj)) (zal (zgq (ziy (zad 5) (zek))) (zan (za4 (zqj (zhi hr rfl z_repr (zae (zao h_m_read_sheet hr (by decide) rfl (zae (zad 0) (zae (zao h_m_law_sheet_text hr (by decide) rfl (zae (zad 1) (zaf)) (zag zam)) (zaf))) (zag (zag zam))) (zaf))) (zhi hr rfl z_repr (zae (zad 1) (zaf))))))))))
theorem yew:FnScope ["_law_pen_here","_law_v","_law_most","_law_net_here","_law_k"] ["_law_pen_here","_law_v","_law_most"] (zas (top bd 40)):=⟨rfl,rfl,rfl,by decide +kernel,rfl,by decide +kernel,by decide +kernel⟩
theorem ztu:List.Nodup (["_law_at","_law_pen_here"]:List Str):=by decide +kernel
noncomputable abbrev yex:List Str:=["_law_pen_here","_law_v","_law_most","_law_net_here","_law_k"]
theorem h_m_law_net (F:FJ K mg "_law_net" (top bd 40)) (z_tuple:mg "tuple" = none) (z_range:mg "range" = none) (h_m_law_draw:Has P w K mg base "_law_draw" 1 2 zbp):Has P w K mg base "_law_net" 2 3 zkc:=by
 have sc:=yew
 refine zce (k:=1) F sc rfl (bl3 λ_ _ _=>λ_ _ _ _ _ _=>rfl) λf cdv hcd A outer s H E hr=>?_
 exact zal (za0 3 sc.nd (zcb (zaf))) (zal (zi0 PassesOwn.never rfl rfl z_range (zae (zao h_m_law_draw hr (by decide) rfl (zae (zad 0) (zae (zb2 (zad 2) (zai)) (zaf))) (zag (zag zam))) (zaf)) (zbq 4 sc.nd) (zan (zgq (ziy (zad 3) (zg6 (zaz) (zeg (N':=["_law_at","_law_pen_here"]) (ixs:=[none,some 0]) rfl (zcy (scO:=zas (top bd 40)) (NO:=yex) rfl rfl (by decide +kernel)) (zm2 rfl z_range (zae (zad 1) (zaf))) (λ_ _ _ _ _=>zbq 0 ztu) (λ_ _ _ _ _=>zeb) (λ_ _ _ _ _=>zbr (zaz) (zao h_m_law_draw hr (by decide) rfl (zae (zad 1) (zae (zai) (zaf))) (zag (zag zam)))))))))) (zan (za4 (zgr rfl z_tuple (zae (zad 3) (zaf))))))
theorem yey:FnScope ["_law_pen_here","_law_asks","_law_most","_law_sheet_here","_law_share","_law_k","_law_long","_law_row","_law_answers","_law_at"] ["_law_pen_here","_law_asks","_law_most"] (zas (top bd 39)):=⟨rfl,rfl,rfl,by decide +kernel,rfl,by decide +kernel,by decide +kernel⟩
theorem yez:List.Nodup (["_law_at","_law_pen_here","_law_asks"]:List Str):=by decide +kernel
noncomputable abbrev ztv:List Str:=["_law_pen_here","_law_asks","_law_most","_law_sheet_here","_law_share","_law_k","_law_long","_law_row","_law_answers","_law_at"]
theorem h_m_law_sheet (F:FJ K mg "_law_sheet" (top bd 39)) (z_len:mg "len" = none) (z_tuple:mg "tuple" = none) (z_range:mg "range" = none) (h_m_law_draw:Has P w K mg base "_law_draw" 1 2 zbp):Has P w K mg base "_law_sheet" 2 3 zkd:=by
 have sc:=yey
 refine zce (k:=1) F sc rfl (bl3 λ_ _ _=>λ_ _ _ _ _ _=>rfl) λf cdv hcd A outer s H E hr=>?_
 exact zal (za0 3 sc.nd (zcb (zaf))) (zal (za0 4 sc.nd (zbr (zcb (zae (zai) (zae (zai) (zae (zai) (zaf))))) (zao h_m_law_draw hr (by decide) rfl (zae (zad 0) (zae (zai) (zaf))) (zag (zag zam))))) (zal (zi0 PassesOwn.never rfl rfl z_range (zae (zao h_m_law_draw hr (by decide) rfl (zae (zad 0) (zae (zb2 (zad 2) (zai)) (zaf))) (zag (zag zam))) (zaf)) (zbq 5 sc.nd) (zal (za0 6 sc.nd (zb2 (zai) (zao h_m_law_draw hr (by decide) rfl (zae (zad 0) (zae (zbr (zcb (zae (zai) (zae (zai) (zaf)))) (zao h_m_law_draw hr (by decide) rfl (zae (zad 0) (zae (zai) (zaf))) (zag (zag zam)))) (zaf))) (zag (zag zam))))) (zal (za0 7 sc.nd (zgr rfl z_tuple (zae (zeg (N':=["_law_at","_law_pen_here","_law_asks"]) (ixs:=[none,some 0,some 1]) rfl (zcy (scO:=zas (top bd 39)) (NO:=ztv) rfl rfl (by decide +kernel)) (zm2 rfl z_range (zae (zad 6) (zaf))) (λ_ _ _ _ _=>zbq 0 yez) (λ_ _ _ _ _=>zeb) (λ_ _ _ _ _=>zao h_m_law_draw hr (by decide) rfl (zae (zad 1) (zae (zad 2) (zaf))) (zag (zag zam)))) (zaf)))) (zal (zm3 8 sc.nd (N':=["_law_at","_law_pen_here"]) (ixs:=[none,some 0]) rfl (zcy (scO:=zas (top bd 39)) (NO:=ztv) rfl rfl (by decide +kernel)) (zm2 rfl z_range (zae (zad 6) (zaf))) (λ_ _ _ _ _=>zbq 0 ztu) (λ_ _ _ _ _=>zeb) (λ_ _ _ _ _=>zao h_m_law_draw hr (by decide) rfl (zae (zad 1) (zae (zai) (zaf))) (zag (zag zam)))) (zal (zi0 PassesOwn.never rfl rfl z_range (zae (zad 6) (zaf)) (zbq 9 sc.nd) (zan (zbh (zmt (zao h_m_law_draw hr (by decide) rfl (zae (zad 0) (zae (zai) (zaf))) (zag (zag zam))) (zad 4)) (zan (zmz (zek) (zmy (zad 8) (zad 9)))) (zbj)))) (zal (zgq (ziy (zad 3) (zel (zae (zad 7) (zae (zgr rfl z_tuple (zae (zad 8) (zaf))) (zaf)))))) (zan (zbh (zgm (zzd (zcx (zao h_m_law_draw hr (by decide) rfl (zae (zad 0) (zae (zai) (zaf))) (zag (zag zam))) (zai)) (zzc (zmt (zcl rfl z_len (zae (zad 3) (zaf))) (zad 2))))) (zan (zgq (ziy (zad 3) (zbr (zad 3) (zao h_m_law_draw hr (by decide) rfl (zae (zad 0) (zae (zcl rfl z_len (zae (zad 3) (zaf))) (zaf))) (zag (zag zam))))))) (zbj))))))))) (zan (za4 (zet (zad 3) (ze5) (zef (zad 2)))))))
theorem ye0:FnScope ["_law_script","_law_k","_law_cell"] ["_law_script","_law_k"] (zas (top bd 35)):=⟨rfl,rfl,rfl,by decide +kernel,rfl,by decide +kernel,by decide +kernel⟩
theorem h_m_law_pen (F:FJ K mg "_law_pen" (top bd 35)) (z_len:mg "len" = none):Has P w K mg base "_law_pen" 1 2 zke:=by
 have sc:=ye0
 refine zce (k:=0) F sc rfl (bl2 λ_ _=>λ_ _ _ _ _ _=>rfl) λf cdv hcd A outer s H E hr=>?_
 exact zal (za0 2 sc.nd (zb2 (zj0 (zai) (zad 1)) (zai))) (zal (zbh (zmt (zad 1) (zcl rfl z_len (zae (zad 0) (zaf)))) (zan (za0 2 sc.nd (zbr (zad 0) (zad 1)))) (zan (zbh (ziw (zcl rfl z_len (zae (zad 0) (zaf))) (zai)) (zan (za0 2 sc.nd (zb2 (zgo (zbr (zad 0) (zgo (zad 1) (zcl rfl z_len (zae (zad 0) (zaf))))) (zai)) (zj0 (zai) (zad 1))))) (zbj)))) (zal (zbh (zzg (zad 2) (zk1 (zai) (zai))) (zan (za4 (zcb (zae (zqe (zad 2) (zk1 (zai) (zai))) (zae (zgo (zad 2) (zai)) (zae (zai) (zaf))))))) (zbj)) (zan (za4 (zcb (zae (zai) (zae (zgo (zad 2) (zai)) (zae (zai) (zaf)))))))))
theorem ye1:FnScope ["_law_script","_law_k","_law_pen_here","_law_way","_law_asks","_law_v","_law_most","_law_sheet_here","_law_net_here","_law_text","_law_thing","_law_many","_law_edges"] ["_law_script"] (zas (top bd 50)):=⟨rfl,rfl,rfl,by decide +kernel,rfl,by decide +kernel,by decide +kernel⟩
theorem ye2:List.Nodup (["_law_text"]:List Str):=by decide +kernel
noncomputable abbrev ye3:List Str:=["_law_script","_law_k","_law_pen_here","_law_way","_law_asks","_law_v","_law_most","_law_sheet_here","_law_net_here","_law_text","_law_thing","_law_many","_law_edges"]
theorem ye4 {f:Addr}{fd:FuncData}(F:Fun K "law" "law" (top bd 50) f fd) (z_range:mg "range" = none) (z_max:mg "max" = none) (z_min:mg "min" = none) (z_len:mg "len" = none) (h_m_law_right:Has P w K mg base "_law_right" 6 3 zcr) (h_m_law_read:Has P w K mg base "_law_read" 5 3 zex) (h_m_law_draw:Has P w K mg base "_law_draw" 1 2 zbp) (h_m_law_bent:Has P w K mg base "_law_bent" 2 2 zhr) (h_m_law_net_text:Has P w K mg base "_law_net_text" 1 1 zhb) (h_m_law_sheet_text:Has P w K mg base "_law_sheet_text" 2 1 zgx) (h_m_law_good_right:Has P w K mg base "_law_good_right" 5 4 zja) (h_m_law_net:Has P w K mg base "_law_net" 2 3 zkc) (h_m_law_sheet:Has P w K mg base "_law_sheet" 2 3 zkd) (h_m_law_pen:Has P w K mg base "_law_pen" 1 2 zke):FnOk P w K mg base CX0 7 f fd ["_law_script"] (sp3 K 1 zhs):=by
 have sc:=ye1
 refine zqp (k:=6) F sc rfl λcdv hcd A outer s H E hr=>?_
 refine zal (zi0 PassesOwn.never rfl rfl z_range (zae (yal rfl rfl z_max (zae (zai) (zae (yak rfl rfl z_min (zae (zcl rfl z_len (zae (zad 0) (zaf))) (zae (zai) (zaf)))) (zaf)))) (zaf)) (zbq 1 sc.nd) ?_) ?_
 ·refine zal (za0 2 sc.nd (zao h_m_law_pen hr (by decide) rfl (zae (zad 0) (zae (zad 1) (zaf))) (zag (zag zam)))) ?_
  refine zal (za0 3 sc.nd (zao h_m_law_draw hr (by decide) rfl (zae (zad 2) (zae (zai) (zaf))) (zag (zag zam)))) ?_
  refine zal (za0 4 sc.nd (zb2 (zai) (zao h_m_law_draw hr (by decide) rfl (zae (zad 2) (zae (zai) (zaf))) (zag (zag zam))))) ?_
  refine zal (za0 5 sc.nd (zb2 (zai) (zao h_m_law_draw hr (by decide) rfl (zae (zad 2) (zae (zai) (zaf))) (zag (zag zam))))) ?_
  refine zal (za0 6 sc.nd (zbr (zcb (zae (zai) (zae (zai) (zaf)))) (zao h_m_law_draw hr (by decide) rfl (zae (zad 2) (zae (zai) (zaf))) (zag (zag zam))))) ?_
  refine zal (za0 7 sc.nd (zao h_m_law_sheet hr (by decide) rfl (zae (zad 2) (zae (zad 4) (zae (zad 6) (zaf)))) (zag (zag (zag zam))))) ?_
  refine zal (za0 8 sc.nd (zao h_m_law_net hr (by decide) rfl (zae (zad 2) (zae (zad 5) (zae (zbr (zcb (zae (zai) (zae (zai) (zaf)))) (zao h_m_law_draw hr (by decide) rfl (zae (zad 2) (zae (zai) (zaf))) (zag (zag zam)))) (zaf)))) (zag (zag (zag zam))))) ?_
  refine zal (zbh (ze4 (zf1 (zao h_m_law_good_right hr (by decide) rfl (zae (zad 4) (zae (zad 7) (zae (zad 5) (zae (zad 8) (zaf))))) (zag (zag (zag (zag zam))))))) (zan (za4 (zf0))) (zbj)) ?_
  refine zal (za0 9 sc.nd (zao h_m_law_bent hr (by decide) rfl (zae (zad 2) (zae (zbr (zcb (zae (zao h_m_law_sheet_text hr (by decide) rfl (zae (zad 7) (zaf)) (zag zam)) (zae (zao h_m_law_net_text hr (by decide) rfl (zae (zad 8) (zaf)) (zag zam)) (zaf)))) (zad 3)) (zaf))) (zag (zag zam)))) ?_
  refine zal (zbh (zcx (zao h_m_law_draw hr (by decide) rfl (zae (zad 2) (zae (zai) (zaf))) (zag (zag zam))) (zai)) (zan (za0 9 sc.nd (zao h_m_law_bent hr (by decide) rfl (zae (zad 2) (zae (zad 9) (zaf))) (zag (zag zam))))) (zbj)) ?_
  refine zal (zbh (ze4 (zf1 (zao h_m_law_right hr (by decide) rfl (zae (zad 3) (zae (zbr (zcb (zae (zad 4) (zae (zad 5) (zaf)))) (zad 3)) (zae (zad 9) (zaf)))) (zag (zag (zag zam)))))) (zan (za4 (zf0))) (zbj)) ?_
  refine zal (za0 10 sc.nd (zbr (zcb (zae (zek) (zae (zf0) (zae (zai) (zae (zel (zaf)) (zae (zcb (zae (zad 9) (zaf))) (zae (zel (zae (zad 9) (zaf))) (zae (ybe) (zae (zad 7) (zaf)))))))))) (zao h_m_law_draw hr (by decide) rfl (zae (zad 2) (zae (zai) (zaf))) (zag (zag zam))))) ?_
  exact zan (zbh (zla hr (zao h_m_law_read hr (by decide) rfl (zae (zad 3) (zae (zai) (zae (zad 10) (zaf)))) (zag (zag (zag zam)))) (zel (zae (zaz) (zae (zf0) (zaf))))) (zan (za4 (zf0))) (zbj))
 refine zal (zk5 PassesOwn.never rfl (zel (zae (zai) (zae (zai) (zaf)))) (zbq 11 sc.nd) ?_) ?_
 ·exact zan (zbh (ze4 (zf1 (zao h_m_law_right hr (by decide) rfl (zae (zai) (zae (zai) (zae (zg6 (zaz) (zq2 (zcb (zae (zaz) (zaf))) (zad 11))) (zaf)))) (zag (zag (zag zam)))))) (zan (za4 (zf0))) (zbj))
 refine zal (zk5 PassesOwn.never rfl (zel (zae (zai) (zae (zai) (zaf)))) (zbq 11 sc.nd) ?_) ?_
 ·exact zan (zbh (ze4 (zf1 (zao h_m_law_right hr (by decide) rfl (zae (zai) (zae (zai) (zae (zb2 (zb2 (zr2 (zaz) (zad 11)) (zaz)) (zr2 (zaz) (zad 11))) (zaf)))) (zag (zag (zag zam)))))) (zan (za4 (zf0))) (zbj))
 refine zal (zk5 PassesOwn.never rfl (zel (zae (zai) (zae (zai) (zaf)))) (zbq 11 sc.nd) ?_) ?_
 ·exact zan (zbh (ze4 (zf1 (zao h_m_law_right hr (by decide) rfl (zae (zai) (zae (zai) (zae (zg6 (zaz) (zq2 (zcb (zae (zaz) (zaf))) (zad 11))) (zaf)))) (zag (zag (zag zam)))))) (zan (za4 (zf0))) (zbj))
 refine zal ?_ ?_
 ·with_reducible exact za0 12 (by with_unfolding_all exact sc.nd) (ydz (by with_unfolding_all rfl)) (by with_unfolding_all rfl) (by with_unfolding_all first|exact Or.inl rfl|exact Or.inr rfl) (by with_unfolding_all rfl) (by with_unfolding_all first|exact .inl rfl|exact .inr rfl)
 exact zan (za4 (ybq hr (zeg (N':=["_law_text"]) (ixs:=[none]) rfl (zcy (scO:=zas (top bd 50)) (NO:=ye3) rfl rfl (by decide +kernel)) (zf7 (zad 12)) (λ_ _ _ _ _=>zbq 0 ye2) (λ_ _ _ _ _=>zjy (zgm (zf3 (ze4 (zf1 (zao h_m_law_right hr (by decide) rfl (zae (zai) (zae (zai) (zae (zad 0) (zaf)))) (zag (zag (zag zam)))))) (zg2 (ze4 (zf1 (zao h_m_law_right hr (by decide) rfl (zae (zai) (zae (zai) (zae (zad 0) (zaf)))) (zag (zag (zag zam)))))))))) (λ_ _ _ _ _=>zad 0)) (zcb (zaf))))
end
theorem all_mk {l:PySem.W.OpenLaw}{w:World}{K:QFg}{h:Heap}{mg:Str->Option Value}{fa:Addr}(X:K.In h) (G:h.Ns mainGlobals mg) (hfa:mg "law" = some (.ref fa)) {g_NoText g_TooMany g_Unlike g_Unreached g_Clash g_NoBack g_NoLine g_NoName g_NoWords g_NotClosed g_NotFull g_NotOpen g_CellError:Addr}
  (a0:FI K "read_number" (top bd 20))
  (a1:FI K "read_part" (top bd 21))
  (a2:FI K "refuse_no_text" (top bd 19))
  (a3:FI K "read_row" (top bd 22))
  (a4:FI K "read_told" (top bd 31))
  (a5:FI K "read_list" (top bd 30))
  (a6:FI K "read_sheet" (top bd 29))
  (a7:FI K "is_piece" (top bd 33))
  (a8:FI K "read_net" (top bd 32))
  (a9:FI K "_law_read" (top bd 47))
  (a10:FI K "_law_net_of" (top bd 46))
  (a11:FI K "_law_told_of" (top bd 44))
  (a12:FI K "_law_sheet_of" (top bd 45))
  (a13:FI K "_law_right" (top bd 48))
  (a14:FI K "_law_draw" (top bd 36))
  (a15:FI K "_law_signs" (top bd 37))
  (a16:FI K "_law_bent" (top bd 38))
  (a17:FI K "_law_net_text" (top bd 43))
  (a18:FI K "_law_answers_text" (top bd 41))
  (a19:FI K "_law_sheet_text" (top bd 42))
  (a20:FI K "show_part" (top bd 16))
  (a21:FI K "show_parts" (top bd 18))
  (a22:FI K "show_row" (top bd 17))
  (a23:FI K "show_sheet" (top bd 27))
  (a24:FI K "show_net" (top bd 28))
  (a25:FI K "_law_good_right" (top bd 49))
  (a26:FI K "_law_net" (top bd 40))
  (a27:FI K "_law_sheet" (top bd 39))
  (a28:FI K "_law_pen" (top bd 35))
  (a29:FI K "law" (top bd 50))
  (z_str:PySem.W.nsIn K mainGlobals "str" = some none)
  (z_range:PySem.W.nsIn K mainGlobals "range" = some none)
  (z_isinstance:PySem.W.nsIn K mainGlobals "isinstance" = some none)
  (z_tuple:PySem.W.nsIn K mainGlobals "tuple" = some none)
  (z_len:PySem.W.nsIn K mainGlobals "len" = some none)
  (z_all:PySem.W.nsIn K mainGlobals "all" = some none)
  (z_ValueError:PySem.W.nsIn K mainGlobals "ValueError" = some none)
  (z_repr:PySem.W.nsIn K mainGlobals "repr" = some none)
  (z_int:PySem.W.nsIn K mainGlobals "int" = some none)
  (z_list:PySem.W.nsIn K mainGlobals "list" = some none)
  (z_max:PySem.W.nsIn K mainGlobals "max" = some none)
  (z_min:PySem.W.nsIn K mainGlobals "min" = some none)
  {t_MOST_TOLD_ASKS:Tok} (c_MOST_TOLD_ASKS:PySem.W.nsIn K mainGlobals "MOST_TOLD_ASKS" = some (some (.int 12 t_MOST_TOLD_ASKS)))
  {t_ANSWERS:Tok} (c_ANSWERS:PySem.W.nsIn K mainGlobals "ANSWERS" = some (some (.int 8 t_ANSWERS)))
  {t_MOST_TOLD_ROWS:Tok} (c_MOST_TOLD_ROWS:PySem.W.nsIn K mainGlobals "MOST_TOLD_ROWS" = some (some (.int 24 t_MOST_TOLD_ROWS)))
  {t_MOST_PIECES:Tok} (c_MOST_PIECES:PySem.W.nsIn K mainGlobals "MOST_PIECES" = some (some (.int 40 t_MOST_PIECES)))
  (a_NoText:PySem.W.nsIn K mainGlobals "NoText" = some (some (.ref g_NoText)))
  (a_TooMany:PySem.W.nsIn K mainGlobals "TooMany" = some (some (.ref g_TooMany)))
  (a_Unlike:PySem.W.nsIn K mainGlobals "Unlike" = some (some (.ref g_Unlike)))
  (a_Unreached:PySem.W.nsIn K mainGlobals "Unreached" = some (some (.ref g_Unreached)))
  (a_Clash:PySem.W.nsIn K mainGlobals "Clash" = some (some (.ref g_Clash)))
  (a_NoBack:PySem.W.nsIn K mainGlobals "NoBack" = some (some (.ref g_NoBack)))
  (a_NoLine:PySem.W.nsIn K mainGlobals "NoLine" = some (some (.ref g_NoLine)))
  (a_NoName:PySem.W.nsIn K mainGlobals "NoName" = some (some (.ref g_NoName)))
  (a_NoWords:PySem.W.nsIn K mainGlobals "NoWords" = some (some (.ref g_NoWords)))
  (a_NotClosed:PySem.W.nsIn K mainGlobals "NotClosed" = some (some (.ref g_NotClosed)))
  (a_NotFull:PySem.W.nsIn K mainGlobals "NotFull" = some (some (.ref g_NotFull)))
  (a_NotOpen:PySem.W.nsIn K mainGlobals "NotOpen" = some (some (.ref g_NotOpen)))
  (a_CellError:PySem.W.nsIn K mainGlobals "CellError" = some (some (.ref g_CellError)))
  (x_NoText:PySem.W.excIn K g_NoText zc6 "ValueError.__new__" = true)
  (x_CellError:PySem.W.excIn K g_CellError zc6 "ValueError.__new__" = true)
  (s_NoText_CellError:(Value.ref g_NoText :: zg8 K g_NoText).contains (.ref g_CellError)=true)
  (o_NoText:PySem.W.mroIn K g_NoText (.type "object")=some true) (d_NoText:PySem.W.findIn K (.ref g_NoText) "__class__" = some (some (.builtin "object.__class__"))) (ga_NoText:PySem.W.findIn K (.ref g_NoText) "__getattribute__" = some (some (.builtin "BaseException.__getattribute__"))) (gr_NoText:PySem.W.findIn K (.ref g_NoText) "__getattr__" = some none) (is_NoText:(PySem.W.clsIn K g_NoText).isSome=true)
  (i_0:PySem.W.kitOne K (.ref g_NoText) (.ref g_NoText)=some true)
  (i_1:PySem.W.kitOne K (.ref g_NoText) (.type "ValueError")=some true)
  (i_2:PySem.W.kitAny K (.ref g_NoText) [.ref g_TooMany,.ref g_Unlike,.ref g_Unreached]=some false)
  (i_3:PySem.W.kitAny K (.ref g_NoText) [.ref g_Clash,.ref g_NoBack,.ref g_NoLine,.ref g_NoName,.ref g_NoWords,.ref g_NotClosed,.ref g_NotFull,.ref g_NotOpen]=some false) :
  ∃fd:FuncData,(∀(s:Shared) (v:Value),BindsTo s fd ⟨[v],[]⟩ [("_law_script",v)])/\∀base:Heap,K.In base->base.Ns mainGlobals mg->FnOk l.prog w K mg base CX0 7 fa fd ["_law_script"] (sp3 K 1 zhs):=by
 have y_str:=PySem.W.mg_none_of X G z_str
 have y_range:=PySem.W.mg_none_of X G z_range
 have y_isinstance:=PySem.W.mg_none_of X G z_isinstance
 have y_tuple:=PySem.W.mg_none_of X G z_tuple
 have y_len:=PySem.W.mg_none_of X G z_len
 have y_all:=PySem.W.mg_none_of X G z_all
 have y_ValueError:=PySem.W.mg_none_of X G z_ValueError
 have y_repr:=PySem.W.mg_none_of X G z_repr
 have y_int:=PySem.W.mg_none_of X G z_int
 have y_list:=PySem.W.mg_none_of X G z_list
 have y_max:=PySem.W.mg_none_of X G z_max
 have y_min:=PySem.W.mg_none_of X G z_min
 have y_MOST_TOLD_ASKS:∃t,mg "MOST_TOLD_ASKS" = some (.int 12 t):=⟨_,PySem.W.mg_of X G c_MOST_TOLD_ASKS⟩
 have y_ANSWERS:∃t,mg "ANSWERS" = some (.int 8 t):=⟨_,PySem.W.mg_of X G c_ANSWERS⟩
 have y_MOST_TOLD_ROWS:∃t,mg "MOST_TOLD_ROWS" = some (.int 24 t):=⟨_,PySem.W.mg_of X G c_MOST_TOLD_ROWS⟩
 have y_MOST_PIECES:∃t,mg "MOST_PIECES" = some (.int 40 t):=⟨_,PySem.W.mg_of X G c_MOST_PIECES⟩
 obtain ⟨CA,ca_NoText,ca_TooMany,ca_Unlike,ca_Unreached,ca_Clash,ca_NoBack,ca_NoLine,ca_NoName,ca_NoWords,ca_NotClosed,ca_NotFull,ca_NotOpen,ca_CellError⟩:∃CA:Str->Addr,CA "NoText" = g_NoText/\CA "TooMany" = g_TooMany/\CA "Unlike" = g_Unlike/\CA "Unreached" = g_Unreached/\CA "Clash" = g_Clash/\CA "NoBack" = g_NoBack/\CA "NoLine" = g_NoLine/\CA "NoName" = g_NoName/\CA "NoWords" = g_NoWords/\CA "NotClosed" = g_NotClosed/\CA "NotFull" = g_NotFull/\CA "NotOpen" = g_NotOpen/\CA "CellError" = g_CellError:=⟨λy=>if y = "NoText" then g_NoText else if y = "TooMany" then g_TooMany else if y = "Unlike" then g_Unlike else if y = "Unreached" then g_Unreached else if y = "Clash" then g_Clash else if y = "NoBack" then g_NoBack else if y = "NoLine" then g_NoLine else if y = "NoName" then g_NoName else if y = "NoWords" then g_NoWords else if y = "NotClosed" then g_NotClosed else if y = "NotFull" then g_NotFull else if y = "NotOpen" then g_NotOpen else if y = "CellError" then g_CellError else 0,by dsimp only;rw [if_pos rfl],by dsimp only;rw [if_neg (by decide +kernel),if_pos rfl],by dsimp only;rw [if_neg (by decide +kernel),if_neg (by decide +kernel),if_pos rfl],by dsimp only;(repeat rw [if_neg (by decide +kernel)]);rw [if_pos rfl],by dsimp only;(repeat rw [if_neg (by decide +kernel)]);rw [if_pos rfl],by dsimp only;(repeat rw [if_neg (by decide +kernel)]);rw [if_pos rfl],by dsimp only;(repeat rw [if_neg (by decide +kernel)]);rw [if_pos rfl],by dsimp only;(repeat rw [if_neg (by decide +kernel)]);rw [if_pos rfl],by dsimp only;(repeat rw [if_neg (by decide +kernel)]);rw [if_pos rfl],by dsimp only;(repeat rw [if_neg (by decide +kernel)]);rw [if_pos rfl],by dsimp only;(repeat rw [if_neg (by decide +kernel)]);rw [if_pos rfl],by dsimp only;(repeat rw [if_neg (by decide +kernel)]);rw [if_pos rfl],by dsimp only;(repeat rw [if_neg (by decide +kernel)]);rw [if_pos rfl]⟩
 subst ca_NoText
 subst ca_TooMany
 subst ca_Unlike
 subst ca_Unreached
 subst ca_Clash
 subst ca_NoBack
 subst ca_NoLine
 subst ca_NoName
 subst ca_NoWords
 subst ca_NotClosed
 subst ca_NotFull
 subst ca_NotOpen
 subst ca_CellError
 have q_NoText:=PySem.W.mg_of X G a_NoText
 have q_TooMany:=PySem.W.mg_of X G a_TooMany
 have q_Unlike:=PySem.W.mg_of X G a_Unlike
 have q_Unreached:=PySem.W.mg_of X G a_Unreached
 have q_Clash:=PySem.W.mg_of X G a_Clash
 have q_NoBack:=PySem.W.mg_of X G a_NoBack
 have q_NoLine:=PySem.W.mg_of X G a_NoLine
 have q_NoName:=PySem.W.mg_of X G a_NoName
 have q_NoWords:=PySem.W.mg_of X G a_NoWords
 have q_NotClosed:=PySem.W.mg_of X G a_NotClosed
 have q_NotFull:=PySem.W.mg_of X G a_NotFull
 have q_NotOpen:=PySem.W.mg_of X G a_NotOpen
 have q_CellError:=PySem.W.mg_of X G a_CellError
 have n_NoText:=a_NoText
 have n_TooMany:=a_TooMany
 have n_Unlike:=a_Unlike
 have n_Unreached:=a_Unreached
 have n_Clash:=a_Clash
 have n_NoBack:=a_NoBack
 have n_NoLine:=a_NoLine
 have n_NoName:=a_NoName
 have n_NoWords:=a_NoWords
 have n_NotClosed:=a_NotClosed
 have n_NotFull:=a_NotFull
 have n_NotOpen:=a_NotOpen
 have n_CellError:=a_CellError
 have e_NoText:ExcQ K (CA "NoText"):=⟨x_NoText,o_NoText,d_NoText,ga_NoText,gr_NoText,is_NoText⟩
 have F0:=a0.ok X G
 have F1:=a1.ok X G
 have F2:=a2.ok X G
 have F3:=a3.ok X G
 have F4:=a4.ok X G
 have F5:=a5.ok X G
 have F6:=a6.ok X G
 have F7:=a7.ok X G
 have F8:=a8.ok X G
 have F9:=a9.ok X G
 have F10:=a10.ok X G
 have F11:=a11.ok X G
 have F12:=a12.ok X G
 have F13:=a13.ok X G
 have F14:=a14.ok X G
 have F15:=a15.ok X G
 have F16:=a16.ok X G
 have F17:=a17.ok X G
 have F18:=a18.ok X G
 have F19:=a19.ok X G
 have F20:=a20.ok X G
 have F21:=a21.ok X G
 have F22:=a22.ok X G
 have F23:=a23.ok X G
 have F24:=a24.ok X G
 have F25:=a25.ok X G
 have F26:=a26.ok X G
 have F27:=a27.ok X G
 have F28:=a28.ok X G
 have F29:=a29.ok X G
 obtain @⟨fL,fdL,FL,mL,_⟩:=F29
 have e:=hfa.symm.trans mL
 cases e
 refine ⟨fdL,λs v=>by obtain ⟨_,_,_,_,_,_,_,_,_,rfl,_⟩:=FL.ex;exact .of_eq rfl,λbase _ _=>?_⟩
 have t:∀{x k n m},Has l.prog w K mg base x k n m->Has l.prog w K mg base x k n m:=id
 have tz:∀{x k n m},zby l.prog w K mg base CA x k n m->zby l.prog w K mg base CA x k n m:=id
 have g0:=t (h_m_read_number F0 y_str y_range q_NoText x_NoText)
 have gz0:=tz (hz_read_number F0 y_str y_range q_NoText x_NoText)
 have g1:=t (h_m_read_part F1 g0 gz0)
 have gz1:=tz (hz_read_part F1 g0 gz0)
 have g2:=t (h_m_refuse_no_text F2 y_isinstance y_str q_NoText x_NoText)
 have gz2:=tz (hz_refuse_no_text F2 y_isinstance y_str q_NoText x_NoText)
 have g3:=t (h_m_read_row F3 y_tuple g0 g2 gz2 gz0 q_NoText x_NoText)
 have gz3:=tz (hz_read_row F3 y_tuple g0 g2 gz2 gz0 q_NoText x_NoText)
 have g4:=t (h_m_read_told F4 y_len y_tuple y_MOST_TOLD_ASKS y_ANSWERS g1 g3 gz3 gz1 q_NoText x_NoText)
 have gz4:=tz (hz_read_told F4 y_len y_tuple y_MOST_TOLD_ASKS y_ANSWERS g1 g3 gz3 gz1 q_NoText x_NoText)
 have g5:=t (h_m_read_list F5 y_len g2 gz2 q_NoText x_NoText)
 have gz5:=tz (hz_read_list F5 y_len g2 gz2 q_NoText x_NoText)
 have g6:=t (h_m_read_sheet F6 y_MOST_TOLD_ROWS g4 g5 gz5 gz4)
 have gz6:=tz (hz_read_sheet F6 y_MOST_TOLD_ROWS g4 g5 gz5 gz4)
 have g7:=t (h_m_is_piece F7 y_len y_all)
 have g8:=t (h_m_read_net F8 y_tuple y_all y_MOST_PIECES g7 g5 gz5 q_NoText x_NoText)
 have gz8:=tz (hz_read_net F8 y_tuple y_all y_MOST_PIECES g7 g5 gz5 q_NoText x_NoText)
 have g9:=t (h_m_law_read F9 y_isinstance y_ValueError y_repr g6 g8 gz6 gz8 q_NoText q_TooMany q_Unlike q_Unreached q_Clash q_NoBack q_NoLine q_NoName q_NoWords q_NotClosed q_NotFull q_NotOpen q_CellError x_CellError x_NoText n_NoText s_NoText_CellError e_NoText i_0 i_1 i_2 i_3)
 have g10:=t (h_m_law_net_of F10 y_tuple y_len)
 have g11:=t (h_m_law_told_of F11 y_tuple y_int y_len)
 have g12:=t (h_m_law_sheet_of F12 y_len g11)
 have g13:=t (h_m_law_right F13 y_repr g9 g10 g12)
 have g14:=t (h_m_law_draw F14 )
 have g15:=t (h_m_law_signs F15 )
 have g16:=t (h_m_law_bent F16 y_len g14 g15)
 have g17:=t (h_m_law_net_text F17 y_list)
 have g18:=t (h_m_law_answers_text F18 y_str y_int)
 have g19:=t (h_m_law_sheet_text F19 y_str g18)
 have g20:=t (h_m_show_part F20 y_str)
 have g21:=t (h_m_show_parts F21 g20)
 have g22:=t (h_m_show_row F22 g21)
 have g23:=t (h_m_show_sheet F23 g21 g22)
 have g24:=t (h_m_show_net F24 )
 have g25:=t (h_m_law_good_right F25 y_repr y_list g6 g19 g8 g17 g23 g24)
 have g26:=t (h_m_law_net F26 y_tuple y_range g14)
 have g27:=t (h_m_law_sheet F27 y_len y_tuple y_range g14)
 have g28:=t (h_m_law_pen F28 y_len)
 exact ye4 FL y_range y_max y_min y_len g13 g9 g14 g16 g17 g19 g25 g26 g27 g28
theorem walk {l:PySem.W.OpenLaw}{q:Program}{loose:List Str}{XP:(Str->Option Value)->Heap->Prop}{YP:World->Heap->Prop}{d:DefRec}{K:Params->QFg}(hn:l.most=some 63) (hdf:d.params.defaults=[])
  (hY:∀(w:World) (h:Heap),YP w h->(K w.params).In h)
  (F:∀(w:World) (mg:Str->Option Value) (fa:Addr) (h:Heap),(K w.params).In h->h.Ns mainGlobals mg->mg d.name=some (.ref fa) ->
   ∃fd:FuncData,(∀(s:Shared) (u:Value),BindsTo s fd ⟨[u],[]⟩ [("_law_script",u)])/\∀base:Heap,(K w.params).In base->base.Ns mainGlobals mg->FnOk l.prog w (K w.params) mg base CX0 7 fa fd ["_law_script"] (sp3 (K w.params) 1 zhs))
  (hlaw:∀ns:List Int,ns.length<=63->∃S',zhs [.ref 0] [.flst (ns.map D.int)]=some (.bl true,S')) :
  PySem.W.WalkO q loose XP YP l.row.toRowW d [] (λf vs=>PySem.call f vs) :=
 L2.walk_of (n:=63) (k:=7) (x:="_law_script") (CX:=λ_=>CX0) (sp:=λw=>sp3 (K w.params) 1 zhs) hn (by decide) hdf ⟨rfl,by decide,by decide,rfl⟩ hY F (λ_ _ a ns hl hO hS=>yan hO hS (hlaw ns hl)) λ_ _ _ _ _ z=>z
end G
end
theorem qg0 {α:Type}{a:α}{l:List α}:(a :: l)[0]? = some a:=rfl
theorem qg1 {α:Type}{a:α}{i:Nat}{l:List α}:(a :: l)[i+1]? = l[i]?:=rfl
theorem qs0 {α:Type}{a b:α}{l:List α}:(a :: l).set 0 b=b :: l:=rfl
theorem qs1 {α:Type}{a b:α}{n:Nat}{l:List α}:(a :: l).set (n+1) b=a :: l.set n b:=rfl
theorem qlt {α:Type}{l:List α}{i:Nat}{a:α}(h:l[i]? = some a):i<l.length:=(List.getElem?_eq_some_iff.mp h).1
namespace M
open PySem L3 G
local macro_rules
 | `(term| nofun)=>`(by first|rfl|trivial)
local macro_rules
 | `(term| ‹$x›)=>`(some (.int ($x : Int)))
local macro_rules
 | `(term| ~~~$x)=>`(some (.ref $x))
local macro_rules
 | `(tactic| dsimp! only [$xs,*])=>`(tactic| simp only [$xs,*,List.map_cons,List.map_nil,List.length_cons,List.length_nil,Nat.reduceAdd,Nat.reduceSub,List.replicate,List.cons_append,List.nil_append])
theorem as1 {e:EM}{l:Lo}{S S1:Sto}{x:D}(h:e l S=some (x,S1)):zaa e zab l S=some ([x],S1):=by
 unfold zaa;rw [h];rfl
theorem zcf {S:Sto}{n:Nat}{xs:List D}(h:S[n]? = some (.lst xs)):lstOf S n=some xs:=by unfold lstOf;rw [h]
theorem zie {S:Sto}{n:Nat}{o o':Ob}(h:S[n]? = some o'):(S.set n o)[n]? = some o:=List.getElem?_set_self (qme h).1
def PQ (n:Nat) (S:Sto):Prop:=∃x y z:Int,S[n]? = some (.lst [.int x,.int y,.int z])/\0<=x/\0<=y/\y<2147483587/\0<=z
def Fn (n:Nat) (S S':Sto):Prop:=∀(j:Nat) (o:Ob),j≠n->S[j]? = some o->S'[j]? = some o
theorem Fn.refl (n:Nat) (S:Sto):Fn n S S:=λ_ _ _ h=>h
theorem Fn.trans {n:Nat}{A B C:Sto}(h:Fn n A B) (g:Fn n B C):Fn n A C:=λj o hj e=>g j o hj (h j o hj e)
theorem Fn.gr {n:Nat}{A B:Sto}(h:Gr A B):Fn n A B:=λ_ _ _ e=>h.get e
theorem Fn.set {n:Nat}{A:Sto}{o:Ob}:Fn n A (A.set n o):=λj o' hj e=>by rw [List.getElem?_set_ne (Ne.symm hj)];exact e
theorem Fn.lst {n m:Nat}{A B:Sto}{xs:List D}(h:Fn n A B) (hm:m≠n) (e:lstOf A m=some xs):lstOf B m=some xs:=by
 unfold lstOf at e ⊢
 cases q:A[m]? with
 | none=>rw [q] at e;cases e
 | some o=>rw [h m o hm q];rw [q] at e;exact e
theorem PQ.gr {n:Nat}{A B:Sto}(h:PQ n A) (g:Gr A B):PQ n B:=let ⟨x,y,z,e,r⟩:=h;⟨x,y,z,g.get e,r⟩
theorem PQ.lt {n:Nat}{A:Sto}(h:PQ n A):n<A.length:=let ⟨x,y,z,e,r⟩:=h;(qme e).1
theorem ye5 {S:Sto}{n:Nat}{a b c v:D}(h:S[n]? = some (.lst [a,b,c])):zf6 (.ref n) (.int 0) v S=some (S.set n (.lst [v,b,c])):=by
 unfold zf6;simp only [h];rfl
theorem ye6 {S:Sto}{n:Nat}{a b c v:D}(h:S[n]? = some (.lst [a,b,c])):zf6 (.ref n) (.int 2) v S=some (S.set n (.lst [a,b,v])):=by
 unfold zf6;simp only [h];rfl
theorem ye7 (i:Int) (h0:0<=i) (h1:i<3):∃p,L2.atI [D.int 2147483647,.int 2147483563,.int 2147483549] i=some (.int p)/\0<p/\p<2147483648:=by
 have:i=0\/i=1\/i=2:=by omega
 rcases this with rfl|rfl|rfl <;> exact ⟨_,rfl,by decide,by decide⟩
theorem zen (n:Nat) (m:Int) (S:Sto) (h:PQ n S) (h1:0<m) (h2:m<1073741824):Wo (zbp [.ref n,.int m] S) λv S'=>(∃d:Nat,v=.int d/\(d:Int)<m)/\PQ n S'/\Fn n S S':=by
 obtain ⟨x,y,z,hS,x0,y0,y1,z0⟩:=h
 have sz3:3<=sizeLine:=by decide
 unfold zbp zsz
 dsimp! only [zbx]
 refine zb0 (λl S'=>S' = S.set n (.lst [.int x,.int y,.int (z+1)])/\l=[~~~n,some (.int m),none,none]) ?_ ?_
 ·simp only [zbx,zb6,zbw,zbu,zba,zar,za1,zbn,zb1,zcn,zbv,za6,zdd,zc1,zc2,zc3,zay,zcm,zcc,zaw,zat,zdc,zcz,zc0,zds,zck,zde,zcv,zdo,zdl,zdm,zdn,zd2,zdz,zdf,zb5,zc7,zdg,zdh,zd0,zco,zd1,zcp,zb7,zcu,zc4,zdk,zc5,zdt,zdu,zc8,List.map_cons,List.map_nil,List.length_cons,List.length_nil,Nat.reduceAdd,Nat.reduceSub,List.replicate,List.cons_append,List.nil_append,qg0,qg1,qs0,qs1,zau,zbe,zbo,zdj,zdx,zdy,zdv,zdw,za9,decide_eq_true_eq,zcf hS,ye6 hS,and_self]
 rintro l S1 ⟨rfl,rfl⟩
 have hS1:(S.set n (.lst [.int x,.int y,.int (z+1)]))[n]? = some (.lst [.int x,.int y,.int (z+1)]):=zie hS
 have f1:Fn n S (S.set n (.lst [.int x,.int y,.int (z+1)])):=Fn.set
 generalize S.set n (.lst [.int x,.int y,.int (z+1)])=S1 at hS1 f1
 rw [zb6]
 by_cases hx:0<x
 ·simp only [zbx,zb6,zbw,zbu,zba,zar,za1,zbn,zb1,zcn,zbv,za6,zdd,zc1,zc2,zc3,zay,zcm,zcc,zaw,zat,zdc,zcz,zc0,zds,zck,zde,zcv,zdo,zdl,zdm,zdn,zd2,zdz,zdf,zb5,zc7,zdg,zdh,zd0,zco,zd1,zcp,zb7,zcu,zc4,zdk,zc5,zdt,zdu,zc8,List.map_cons,List.map_nil,List.length_cons,List.length_nil,Nat.reduceAdd,Nat.reduceSub,List.replicate,List.cons_append,List.nil_append,qg0,qg1,qs0,qs1,zau,zbe,zbo,zdj,zdx,zdy,zdv,zdw,za9,decide_eq_true_eq,zcf hS1,hx,decide_true,if_true,h1,h2,true_and,and_self,ye5 hS1]
  have d0:=Int.emod_nonneg x (show m≠0 by omega)
  have d1:=Int.emod_lt_of_pos x h1
  refine ⟨⟨(x % m).toNat,by rw [Int.toNat_of_nonneg d0],by rw [Int.toNat_of_nonneg d0];exact d1⟩,⟨x / m,y,z+1,zie hS1,Int.ediv_nonneg x0 (by omega),y0,y1,by omega⟩,f1.trans Fn.set⟩
 ·simp only [zbw,zbu,zba,zar,za1,qg0,zau,zb5,zcf hS1,zbe,zdj,zck,zbo,hx,decide_false,qbf,if_false,zbv]
  refine zb0 (λl S'=>S' = S1/\∃a:Int,0<=a/\a<2147483629/\l=[~~~n,some (.int m),none,some (.int a)]) ?_ ?_
  ·have f0:(0:Int)<2147483629:=by decide
   have c1:(-(2 ^ 64)<(40503:Int)/\(40503:Int)<2 ^ 64):=by decide
   have c2:(-(2 ^ 64)<y+29/\y+29<2 ^ 64):=by omega
   simp only [zbx,zb6,zbw,zbu,zba,zar,za1,zbn,zb1,zcn,zbv,za6,zdd,zc1,zc2,zc3,zay,zcm,zcc,zaw,zat,zdc,zcz,zc0,zds,zck,zde,zcv,zdo,zdl,zdm,zdn,zd2,zdz,zdf,zb5,zc7,zdg,zdh,zd0,zco,zd1,zcp,zb7,zcu,zc4,zdk,zc5,zdt,zdu,zc8,List.map_cons,List.map_nil,List.length_cons,List.length_nil,Nat.reduceAdd,Nat.reduceSub,List.replicate,List.cons_append,List.nil_append,qg0,qg1,qs0,qs1,zau,zbe,zbo,zdj,zdx,zdy,zdv,zdw,za9,decide_eq_true_eq,zcf hS1,f0,c1,c2,true_or,true_and,and_self]
   first|exact ⟨nofun,nofun,_,Int.emod_nonneg _ (by decide),Int.emod_lt_of_pos _ (by decide),rfl⟩|exact ⟨_,Int.emod_nonneg _ (by decide),Int.emod_lt_of_pos _ (by decide),rfl⟩
  rintro l S2 ⟨rfl,a,a0,a1,rfl⟩
  refine zb0 (λl S'=>S' = S2/\∃a:Int,0<=a/\a<2147483587/\l=[~~~n,some (.int m),none,some (.int a)]) ?_ ?_
  ·have f0:(0:Int)<2147483587:=by decide
   have c1:(-(2 ^ 64)<(69621:Int)/\(69621:Int)<2 ^ 64):=by decide
   have c2:(0:Int)<=3/\(3:Int)<=1000000/\a.natAbs<2 ^ 64:=⟨by decide,by decide,by omega⟩
   simp only [zbx,zb6,zbw,zbu,zba,zar,za1,zbn,zb1,zcn,zbv,za6,zdd,zc1,zc2,zc3,zay,zcm,zcc,zaw,zat,zdc,zcz,zc0,zds,zck,zde,zcv,zdo,zdl,zdm,zdn,zd2,zdz,zdf,zb5,zc7,zdg,zdh,zd0,zco,zd1,zcp,zb7,zcu,zc4,zdk,zc5,zdt,zdu,zc8,List.map_cons,List.map_nil,List.length_cons,List.length_nil,Nat.reduceAdd,Nat.reduceSub,List.replicate,List.cons_append,List.nil_append,qg0,qg1,qs0,qs1,zau,zbe,zbo,zdj,zdx,zdy,zdv,zdw,za9,decide_eq_true_eq,zcf hS1,f0,c1,c2,true_or,true_and,and_self]
   first|exact ⟨nofun,nofun,_,Int.emod_nonneg _ (by decide),Int.emod_lt_of_pos _ (by decide),rfl⟩|exact ⟨_,Int.emod_nonneg _ (by decide),Int.emod_lt_of_pos _ (by decide),rfl⟩
  rintro l S3 ⟨rfl,b,b0,b1,rfl⟩
  refine zb0 (λl S'=>Gr S3 S'/\∃a:Int,0<=a/\l=[~~~n,some (.int m),none,some (.int a)]) ?_ ?_
  ·obtain ⟨p,hp,p0,p1⟩:=ye7 ((z+1) % 3) (by omega) (by omega)
   have f3:(0:Int)<3:=by decide
   have c2:(0:Int)<=5/\(5:Int)<=1000000/\b.natAbs<2 ^ 64:=⟨by decide,by decide,by omega⟩
   have e1:lstOf (S3++[.lst [.int 2147483647,.int 2147483563,.int 2147483549]]) n=some [.int x,.int y,.int (z+1)]:=Gr.lst ⟨_,rfl⟩ (zcf hS1)
   simp only [zbx,zb6,zbw,zbu,zba,zar,za1,zbn,zb1,zcn,zbv,za6,zdd,zc1,zc2,zc3,zay,zcm,zcc,zaw,zat,zdc,zcz,zc0,zds,zck,zde,zcv,zdo,zdl,zdm,zdn,zd2,zdz,zdf,zb5,zc7,zdg,zdh,zd0,zco,zd1,zcp,zb7,zcu,zc4,zdk,zc5,zdt,zdu,zc8,List.map_cons,List.map_nil,List.length_cons,List.length_nil,Nat.reduceAdd,Nat.reduceSub,List.replicate,List.cons_append,List.nil_append,qg0,qg1,qs0,qs1,zau,zbe,zbo,zdj,zdx,zdy,zdv,zdw,za9,decide_eq_true_eq,f3,c2,sz3,e1,hp,p0,true_and,and_self]
   exact ⟨⟨_,rfl⟩,_,Int.emod_nonneg _ (by omega),rfl⟩
  rintro l S4 ⟨g4,c,c0,rfl⟩
  have f6:(0:Int)<64/\(64:Int)<1073741824:=by decide
  simp only [zbx,zb6,zbw,zbu,zba,zar,za1,zbn,zb1,zcn,zbv,za6,zdd,zc1,zc2,zc3,zay,zcm,zcc,zaw,zat,zdc,zcz,zc0,zds,zck,zde,zcv,zdo,zdl,zdm,zdn,zd2,zdz,zdf,zb5,zc7,zdg,zdh,zd0,zco,zd1,zcp,zb7,zcu,zc4,zdk,zc5,zdt,zdu,zc8,List.map_cons,List.map_nil,List.length_cons,List.length_nil,Nat.reduceAdd,Nat.reduceSub,List.replicate,List.cons_append,List.nil_append,qg0,qg1,qs0,qs1,zau,zbe,zbo,zdj,zdx,zdy,zdv,zdw,za9,decide_eq_true_eq,f6,h1,true_and,and_self]
  have d0:=Int.emod_nonneg (c / 64) (show m≠0 by omega)
  have d1:=Int.emod_lt_of_pos (c / 64) h1
  exact ⟨⟨(c / 64 % m).toNat,by rw [Int.toNat_of_nonneg d0],by rw [Int.toNat_of_nonneg d0];exact d1⟩,⟨x,y,z+1,g4.get hS1,x0,y0,y1,by omega⟩,f1.trans (Fn.gr g4)⟩
theorem ye8 (ns:List Int) (k:Nat) (S:Sto) (h:lstOf S 0=some (ns.map D.int)) (hk:k<1000000):Wo (zke [.ref 0,.int k] S) λv S'=>v=.ref S.length/\PQ S.length S'/\Gr S S':=by
 have sz3:3<=sizeLine:=by decide
 have c1:(-(2 ^ 64)<(104729:Int)/\(104729:Int)<2 ^ 64):=by decide
 have c2:(-(2 ^ 64)<(69621:Int)/\(69621:Int)<2 ^ 64):=by decide
 have f0:(0:Int)<2147483629:=by decide
 have f1:(0:Int)<2147483587:=by decide
 unfold zke ztd
 dsimp! only [zbx]
 refine zb0 (λl S'=>S' = S/\∃c:Int,l=[~~~0,some (.int k),some (.int c)]) ?_ ?_
 ·simp only [zbx,zb6,zbw,zbu,zba,zar,za1,zbn,zb1,zcn,zbv,za6,zdd,zc1,zc2,zc3,zay,zcm,zcc,zaw,zat,zdc,zcz,zc0,zds,zck,zde,zcv,zdo,zdl,zdm,zdn,zd2,zdz,zdf,zb5,zc7,zdg,zdh,zd0,zco,zd1,zcp,zb7,zcu,zc4,zdk,zc5,zdt,zdu,zc8,List.map_cons,List.map_nil,List.length_cons,List.length_nil,Nat.reduceAdd,Nat.reduceSub,List.replicate,List.cons_append,List.nil_append,qg0,qg1,qs0,qs1,zau,zbe,zbo,zdj,zdx,zdy,zdv,zdw,za9,decide_eq_true_eq,c1,true_or,true_and,and_self]
  first|exact ⟨nofun,nofun,_,rfl⟩|exact ⟨_,rfl⟩
 rintro l S1 ⟨rfl,c,rfl⟩
 refine zb0 (λl S'=>S' = S1/\∃c:Int,l=[~~~0,some (.int k),some (.int c)]) ?_ ?_
 ·rw [zbw]
  simp only [zbu,zba,zay,zaw,zat,zar,qg0,qg1,zau,zco,h,zbe,qlm,zck,zbo]
  by_cases h1:(k:Int)<(ns.length:Int)
  ·obtain ⟨v,hv1,hv2⟩:=znk (ns.map D.int) (k:Int) (by omega) (by rw [qlm];exact h1)
   obtain ⟨i,_,rfl⟩:=List.mem_map.mp hv2
   simp only [h1,decide_true,if_true,zbx,zb6,zbw,zbu,zba,zar,za1,zbn,zb1,zcn,zbv,za6,zdd,zc1,zc2,zc3,zay,zcm,zcc,zaw,zat,zdc,zcz,zc0,zds,zck,zde,zcv,zdo,zdl,zdm,zdn,zd2,zdz,zdf,zb5,zc7,zdg,zdh,zd0,zco,zd1,zcp,zb7,zcu,zc4,zdk,zc5,zdt,zdu,zc8,List.map_cons,List.map_nil,List.length_cons,List.length_nil,Nat.reduceAdd,Nat.reduceSub,List.replicate,List.cons_append,List.nil_append,qg0,qg1,qs0,qs1,zau,zbe,zbo,zdj,zdx,zdy,zdv,zdw,za9,decide_eq_true_eq,h,hv1]
   first|exact ⟨nofun,nofun,_,rfl⟩|exact ⟨_,rfl⟩
  ·simp only [h1,decide_false,qbf,if_false]
   rw [zbw]
   simp only [zbu,zba,zay,zaw,zat,zar,za1,qg0,qg1,zau,zco,h,zbe,qlm,zck,zbo]
   by_cases h2:(0:Int)<(ns.length:Int)
   ·obtain ⟨v,hv1,hv2⟩:=znk (ns.map D.int) ((k:Int) % (ns.length:Int)) (Int.emod_nonneg _ (by omega)) (by rw [qlm];exact Int.emod_lt_of_pos _ h2)
    obtain ⟨i,_,rfl⟩:=List.mem_map.mp hv2
    simp only [h2,decide_true,if_true,zbx,zb6,zbw,zbu,zba,zar,za1,zbn,zb1,zcn,zbv,za6,zdd,zc1,zc2,zc3,zay,zcm,zcc,zaw,zat,zdc,zcz,zc0,zds,zck,zde,zcv,zdo,zdl,zdm,zdn,zd2,zdz,zdf,zb5,zc7,zdg,zdh,zd0,zco,zd1,zcp,zb7,zcu,zc4,zdk,zc5,zdt,zdu,zc8,List.map_cons,List.map_nil,List.length_cons,List.length_nil,Nat.reduceAdd,Nat.reduceSub,List.replicate,List.cons_append,List.nil_append,qg0,qg1,qs0,qs1,zau,zbe,zbo,zdj,zdx,zdy,zdv,zdw,za9,decide_eq_true_eq,qlm,h,hv1,f0,c2,true_or,true_and]
    first|exact ⟨nofun,nofun,_,rfl⟩|exact ⟨_,rfl⟩
   ·simp only [h2,decide_false,qbf,if_false,zbv]
    exact ⟨nofun,nofun,_,rfl⟩
 rintro l S2 ⟨rfl,c,rfl⟩
 have c3:(0:Int)<=18/\(18:Int)<=1000000/\(10:Int).natAbs<2 ^ 64:=by decide
 have m0:=Int.emod_nonneg c (show (2147483587:Int)≠0 by decide)
 have m1:=Int.emod_lt_of_pos c f1
 have e18:((10:Int) ^ (18:Int).toNat)=1000000000000000000:=by decide
 rw [zb6,zbw]
 simp only [zbu,zba,zar,za1,qg0,qg1,zau,zde,decide_eq_true_eq,c3,true_and,zck,zbo,e18]
 by_cases hc:c ≥ 1000000000000000000
 ·simp only [hc,decide_true,if_true,zbx,zb6,zbw,zbu,zba,zar,za1,zbn,zb1,zcn,zbv,za6,zdd,zc1,zc2,zc3,zay,zcm,zcc,zaw,zat,zdc,zcz,zc0,zds,zck,zde,zcv,zdo,zdl,zdm,zdn,zd2,zdz,zdf,zb5,zc7,zdg,zdh,zd0,zco,zd1,zcp,zb7,zcu,zc4,zdk,zc5,zdt,zdu,zc8,List.map_cons,List.map_nil,List.length_cons,List.length_nil,Nat.reduceAdd,Nat.reduceSub,List.replicate,List.cons_append,List.nil_append,qg0,qg1,qs0,qs1,zau,zbe,zbo,zdj,zdx,zdy,zdv,zdw,za9,decide_eq_true_eq,c3,true_and,f1,sz3,e18,and_self]
  exact ⟨⟨_,_,_,zd5 _ _,by omega,m0,m1,by decide⟩,⟨_,rfl⟩⟩
 ·simp only [hc,decide_false,qbf,if_false,zbv,zbx,zb6,zbw,zbu,zba,zar,za1,zbn,zb1,zcn,zbv,za6,zdd,zc1,zc2,zc3,zay,zcm,zcc,zaw,zat,zdc,zcz,zc0,zds,zck,zde,zcv,zdo,zdl,zdm,zdn,zd2,zdz,zdf,zb5,zc7,zdg,zdh,zd0,zco,zd1,zcp,zb7,zcu,zc4,zdk,zc5,zdt,zdu,zc8,List.map_cons,List.map_nil,List.length_cons,List.length_nil,Nat.reduceAdd,Nat.reduceSub,List.replicate,List.cons_append,List.nil_append,qg0,qg1,qs0,qs1,zau,zbe,zbo,zdj,zdx,zdy,zdv,zdw,za9,decide_eq_true_eq,f1,sz3,true_and,and_self]
  exact ⟨⟨_,_,_,zd5 _ _,by decide,m0,m1,by decide⟩,⟨_,rfl⟩⟩
noncomputable def za7 {α β:Type}(F:α->Option β):List α->Option (List β)
 | []=>some []
 | x :: xs=>(F x).bind λv=>(za7 F xs).bind λvs=>some (v :: vs)
def Rs (m:Sto->Option (D × Sto)) (r:Sto->Option (Str × Sto)) (S:Sto):Option D->Prop
 | some v=>∃S',m S=some (v,S')/\Gr S S'/\r S=none
 | none=>m S=none/\∃S',r S=some (("NoText":Str),S')/\Gr S S'
theorem ye9 {it:ItM}{e:EM}{r:ZM}{l0:Lo}{S1:Sto}{xs:List D}{F:D->Option D}(hit:∀i S,Gr S1 S->it i S=some xs[i]?)
  (step:∀x∈xs,∀S,Gr S1 S->Rs (e (l0.set 0 (some x))) (r (l0.set 0 (some x))) S (F x)):∀(ys pre:List D) (l:Lo) (S:Sto),xs=pre++ys->(∀x,l.set 0 (some x)=l0.set 0 (some x))->Gr S1 S ->
   (∀vs,za7 F ys=some vs->∃S',zdr it (gName3 0) za5 e (ys.length+1) pre.length l S=some (vs,S')/\Gr S S'/\zeu it (gName3 0) za5 e r (ys.length+1) pre.length l S=none) /\
   (za7 F ys=none->zdr it (gName3 0) za5 e (ys.length+1) pre.length l S=none/\∃S',zeu it (gName3 0) za5 e r (ys.length+1) pre.length l S=some (("NoText":Str),S')/\Gr S S'):=by
 intro ys
 induction ys with
 | nil =>
  intro pre l S hx hl g
  have h0:it pre.length S=some none:=by
   rw [hit _ S g,hx];simp
  refine ⟨λvs h=>?_,λh=>by cases h⟩
  cases h
  refine ⟨S,?_,Gr.refl _,?_⟩
  ·unfold zdr;rw [h0];rfl
  ·unfold zeu;rw [h0];rfl
 | cons x ys ih =>
  intro pre l S hx hl g
  have h0:it pre.length S=some (some x):=by
   rw [hit _ S g,hx];simp
  have hc:∀m,zdr it (gName3 0) za5 e (m+1) pre.length l S=(e (l0.set 0 (some x)) S).bind λr=>(zdr it (gName3 0) za5 e m (pre.length+1) (l0.set 0 (some x)) r.2).bind λz=>some (r.1 :: z.1,z.2):=λm=>by
   rw [zdr,h0,<-hl x];rfl
  have hz:∀m,zeu it (gName3 0) za5 e r (m+1) pre.length l S=(r (l0.set 0 (some x)) S).or ((e (l0.set 0 (some x)) S).bind λv=>zeu it (gName3 0) za5 e r m (pre.length+1) (l0.set 0 (some x)) v.2):=λm=>by
   rw [zeu];dsimp only;rw [h0,<-hl x];rfl
  have st:=step x (by rw [hx];simp) S g
  rw [List.length_cons,hc,hz]
  show (∀vs,(F x).bind (λv=>(za7 F ys).bind λvs=>some (v :: vs))=some vs->_)/\((F x).bind (λv=>(za7 F ys).bind λvs=>some (v :: vs))=none->_)
  cases hF:F x with
  | none =>
   rw [hF] at st
   obtain ⟨h1,S',h2,g2⟩:=st
   refine ⟨λvs h=>(by cases h),λ_=>⟨?_,S',?_,g2⟩⟩
   ·rw [h1];rfl
   ·rw [h2];rfl
  | some v =>
   rw [hF] at st
   obtain ⟨S2,h1,g2,h2⟩:=st
   have ih:=ih (pre++[x]) (l0.set 0 (some x)) S2 (by rw [hx];simp) (λy=>List.set_set ..) (g.trans g2)
   rw [qla,List.length_singleton] at ih
   rw [h1,h2]
   show (∀vs,(za7 F ys).bind (λvs=>some (v :: vs))=some vs->∃S',(zdr it (gName3 0) za5 e (ys.length+1) (pre.length+1) (l0.set 0 (some x)) S2).bind (λz=>some (v :: z.1,z.2))=some (vs,S')/\Gr S S'/\zeu it (gName3 0) za5 e r (ys.length+1) (pre.length+1) (l0.set 0 (some x)) S2=none) /\
    ((za7 F ys).bind (λvs=>some (v :: vs))=none->(zdr it (gName3 0) za5 e (ys.length+1) (pre.length+1) (l0.set 0 (some x)) S2).bind (λz=>some (v :: z.1,z.2))=none/\∃S',zeu it (gName3 0) za5 e r (ys.length+1) (pre.length+1) (l0.set 0 (some x)) S2=some (("NoText":Str),S')/\Gr S S')
   cases hM:za7 F ys with
   | none =>
    obtain ⟨h3,S',h4,g4⟩:=ih.2 hM
    exact ⟨λvs h=>(by cases h),λ_=>⟨by rw [h3];rfl,S',h4,g2.trans g4⟩⟩
   | some vs =>
    obtain ⟨S',h3,g4,h4⟩:=ih.1 vs hM
    exact ⟨λws h=>(by cases h;exact ⟨S',by rw [h3];rfl,g2.trans g4,h4⟩),λh=>(by cases h)⟩
theorem zlp {im:IM}{it:ItM}{ixs:List (Option Nat)}{e:EM}{r:ZM}{l:Lo}{S S1:Sto}{xs:List D}{F:D->Option D}(him:im l S=some (it,xs.length+1,S1)) (g1:Gr S S1) (hit:∀i S,Gr S1 S->it i S=some xs[i]?) (hz:xs.length+1<=sizeLine)
  (step:∀x∈xs,∀S,Gr S1 S->Rs (e ((za8 ixs l).set 0 (some x))) (r ((za8 ixs l).set 0 (some x))) S (F x)) :
  (∀vs,za7 F xs=some vs->∃S',zbc im ixs (gName3 0) za5 e l S=some (.ref S'.length,S'++[.lst vs])/\Gr S S'/\ze7 im ixs (gName3 0) za5 e r l S=none) /\
  (za7 F xs=none->zbc im ixs (gName3 0) za5 e l S=none/\∃S',ze7 im ixs (gName3 0) za5 e r l S=some (("NoText":Str),S')/\Gr S S'):=by
 have a:=ye9 hit step xs [] (za8 ixs l) S1 rfl (λ_=>rfl) (Gr.refl _)
 rw [List.length_nil] at a
 have len:∀(ys:List D) vs,za7 F ys=some vs->vs.length=ys.length:=by
  intro ys
  induction ys with
  | nil=>intro vs h;cases h;rfl
  | cons y ys ih =>
   intro vs h
   obtain ⟨v,h1,h⟩:=bnd h
   obtain ⟨ws,h2,h⟩:=bnd h
   cases h
   rw [List.length_cons,List.length_cons,ih ws h2]
 have e1:zbc im ixs (gName3 0) za5 e l S=(zdr it (gName3 0) za5 e (xs.length+1) 0 (za8 ixs l) S1).bind λz=>if z.1.length<=sizeLine then some (.ref z.2.length,z.2++[.lst z.1]) else none:=by
  unfold zbc;rw [him];rfl
 have e2:ze7 im ixs (gName3 0) za5 e r l S=zeu it (gName3 0) za5 e r (xs.length+1) 0 (za8 ixs l) S1:=by
  unfold ze7;rw [him];show (if xs.length+1<=sizeLine then _ else _)=_;rw [if_pos hz]
 rw [e1,e2]
 refine ⟨λvs h=>?_,λh=>?_⟩
 ·obtain ⟨S',h1,g2,h2⟩:=a.1 vs h
  refine ⟨S',?_,g1.trans g2,h2⟩
  rw [h1]
  show (if vs.length<=sizeLine then _ else _)=_
  rw [if_pos (by rw [len xs vs h];omega)]
 ·obtain ⟨h1,S',h2,g2⟩:=a.2 h
  exact ⟨by rw [h1];rfl,S',h2,g1.trans g2⟩
noncomputable def nt (k:Nat):Str:=toString (k:Int)
theorem yfa:∀k:Fin 8,nt k.val=⟨#[48+k.val]⟩:=by decide +kernel
theorem zlq {k:Nat}(h:k<8):nt k=⟨#[48+k]⟩:=yfa ⟨k,h⟩
noncomputable def zch (n c:Nat):Option Nat:=if 48<=c/\c<48+n then some (c-48) else none
noncomputable def nD (k:Nat):D:=.int (k:Int)
theorem yfb (n c:Nat) (S:Sto) (hn:n<=8):Ws (zfi (zdb (zaa (eVar 1) (zab))) (gName3 2) (sIf (tE (eOp dEq (eVar 0) (zac zgt (zaa (eVar 2) (zab))))) (sRet (eVar 2)) (zaq))) [some (.str ⟨#[c]⟩),‹n›,none] S λf l S'=>S' = S/\match zch n c with|some k=>f=.rt (nD k)|none=>f=.nx:=by
 refine zj3 (n:=n) (λi l S'=>S' = S/\(c<48\/48+i<=c)/\∃y,l=[some (.str ⟨#[c]⟩),‹n›,y]) (λd S'=>S' = S/\∃k,zch n c=some k/\d=nD k) rfl (by omega) ⟨rfl,by omega,_,rfl⟩ ?_ ?_ ?_
 ·rintro i l S' hi ⟨rfl,hik,y,rfl⟩
  have e1:toString (i:Int)=(⟨#[48+i]⟩:Str):=zlq (by omega)
  simp only [zbx,zb6,zbw,zbu,zba,zar,za1,zbn,zb1,zcn,zbv,za6,zdd,zc1,zc2,zc3,zay,zcm,zcc,zaw,zat,zdc,zcz,zc0,zds,zck,zde,zcv,zdo,zdl,zdm,zdn,zd2,zdz,zdf,zb5,zc7,zdg,zdh,zd0,zco,zd1,zcp,zb7,zcu,zc4,zdk,zc5,zdt,zdu,zc8,List.map_cons,List.map_nil,List.length_cons,List.length_nil,Nat.reduceAdd,Nat.reduceSub,List.replicate,List.cons_append,List.nil_append,qg0,qg1,qs0,qs1,zau,zbe,zbo,zdj,zdx,zdy,zdv,zdw,za9,decide_eq_true_eq,zll (show i<1000000 by omega),true_and]
  rw [e1]
  by_cases e:c=48+i
  ·subst e
   simp only [decide_true,if_true]
   exact .inr ⟨_,rfl,i,by unfold zch;rw [if_pos (by omega)];congr 1;omega,rfl⟩
  ·have:¬(⟨#[c]⟩:Str)=⟨#[48+i]⟩:=λz=>e (by injection z with z;simpa using z)
   simp only [this,decide_false,qbf,if_false]
   exact .inl ⟨.inl trivial,by omega,_,rfl⟩
 ·rintro l S' ⟨rfl,hk,_⟩
  refine ⟨rfl,?_⟩
  have:zch n c=none:=by unfold zch;rw [if_neg (by omega)]
  rw [this]
 ·rintro d l S' ⟨rfl,k,hk,rfl⟩
  exact ⟨rfl,by rw [hk]⟩
noncomputable def yfc (S:Sto):Fl->Option (D × Sto)
 | .rt d=>some (d,S)
 | _=>none
noncomputable def yfd (S:Sto):Fl->Option (Str × Sto)
 | .nx=>some (("NoText":Str),S)
 | _=>none
theorem ztw {n c:Nat}{S:Sto}(hn:n<=8):zej [.str ⟨#[c]⟩,.int (n:Int)] S=(zch n c).map (λk=>(nD k,S))/\zew [.str ⟨#[c]⟩,.int (n:Int)] S=if zch n c=none then some (("NoText":Str),S) else none:=by
 obtain ⟨f,l,S',e,rfl,h⟩:=yfb n c S hn
 have e1:zej [.str ⟨#[c]⟩,.int (n:Int)] S' = yfc S' f:=by
  unfold zej zbm zso zah
  simp only [List.map_cons,List.map_nil,List.length_cons,List.length_nil,Nat.reduceAdd,Nat.reduceSub,List.replicate,List.cons_append,List.nil_append,e,Option.bind_some]
  cases f <;> rfl
 have e2:zew [.str ⟨#[c]⟩,.int (n:Int)] S' = yfd S' f:=by
  unfold zew zge zsp zcq
  simp only [List.map_cons,List.map_nil,List.length_cons,List.length_nil,Nat.reduceAdd,Nat.reduceSub,List.replicate,List.cons_append,List.nil_append,e,Option.bind_some]
  cases f <;> rfl
 rw [e1,e2]
 cases hc:zch n c with
 | none=>rw [hc] at h;cases h;exact ⟨rfl,rfl⟩
 | some k=>rw [hc] at h;cases h;exact ⟨rfl,rfl⟩
theorem yfe {n c:Nat}{S:Sto}(hn:n<=8):Rs (zej [.str ⟨#[c]⟩,.int (n:Int)]) (zew [.str ⟨#[c]⟩,.int (n:Int)]) S ((zch n c).map nD):=by
 obtain ⟨e1,e2⟩:=ztw (c:=c) (S:=S) hn
 cases hc:zch n c with
 | none=>rw [hc] at e1 e2;exact ⟨e1,S,e2,Gr.refl _⟩
 | some k=>rw [hc] at e1 e2;exact ⟨S,e1,Gr.refl _,e2⟩
theorem zaj {i:Nat}{l:Lo}{S:Sto}{d:D}(h:l[i]? = some (some d)):eVar i l S=some (d,S):=by unfold eVar;rw [h]
theorem zd3 {e:EM}{l:Lo}{S S1:Sto}{x:D}(h:e l S=some (x,S1)):zaa e zab l S=some ([x],S1):=by unfold zaa;rw [h];rfl
theorem zcs {e f:EM}{l:Lo}{S S1 S2:Sto}{x y:D}(h:e l S=some (x,S1)) (h2:f l S1=some (y,S2)):zaa e (zaa f zab) l S=some ([x,y],S2):=by unfold zaa;rw [h];show Option.bind (Option.bind (f l S1) _) _=_;rw [h2];rfl
theorem zbg {f:FM}{as:AM}{l:Lo}{S S1:Sto}{xs:List D}(h:as l S=some (xs,S1)):zac f as l S=f xs S1:=by unfold zac;rw [h];rfl
theorem zeo {f:ZF}{as:AM}{l:Lo}{S S1:Sto}{xs:List D}(h:as l S=some (xs,S1)):zb8 f as l S=f xs S1:=by unfold zb8;rw [h];rfl
theorem zhu {e:EM}{l:Lo}{S S1:Sto}{x y:Str}(h:e l S=some (.str x,S1)):tE (eOp dEq e (eC (.str y))) l S=some (decide (x=y),S1):=by
 unfold tE eOp;rw [h];rfl
noncomputable def zep (p:Fl × Lo × Sto):Option (D × Sto):=match p.1 with
 | .rt d=>some (d,p.2.2)
 | .nx=>some (.non,p.2.2)
 | _=>none
theorem zee {n:Nat}{b:SM}{ds:List D}{S:Sto}{l:Lo}(h:ds.map some++List.replicate (n-ds.length) none=l):zbm n b ds S=(b l S).bind zep:=by
 unfold zbm;rw [h]
 rfl
theorem zfb {e:EM}{l:Lo}{S:Sto}:(sRet e l S).bind zep=e l S:=by
 unfold sRet
 cases e l S with
 | none=>rfl
 | some p=>rfl
noncomputable def zct (c:Nat):Option (Option Nat):=if c=45 then some none else (zch 8 c).map some
noncomputable def oD:Option Nat->D
 | none=>.non
 | some k=>nD k
theorem zkf (c:Nat):(⟨#[c]⟩:Str) = "-"↔c=45:=by
 have e:("-":Str)=⟨#[45]⟩:=by decide +kernel
 rw [e]
 constructor
 ·intro z;injection z with z;simpa using z
 ·rintro rfl;rfl
theorem yff {z:Str}{S:Sto}:ze8 [.str z,.int 8] S=if z = "-" then some (.non,S) else zej [.str z,.int 8] S:=by
 unfold ze8 zsq
 rw [zee (l:=[some (.str z),some (.int 8)]) rfl,zfb]
 unfold zeq
 rw [zhu (zaj rfl)]
 by_cases h:z = "-"
 ·rw [if_pos h];show (if decide (z = "-")=true then _ else _)=_;rw [if_pos (by simpa using h)];rfl
 ·rw [if_neg h];show (if decide (z = "-")=true then _ else _)=_;rw [if_neg (by simpa using h),zbg (zcs (zaj rfl) (zaj rfl))]
theorem yfg {z:Str}{S:Sto}:zgv [.str z,.int 8] S=if z = "-" then none else zew [.str z,.int 8] S:=by
 show znx [some (.str z),some (.int 8)] S=_
 unfold znx zIf
 rw [zhu (zaj rfl)]
 by_cases h:z = "-"
 ·rw [if_pos h];show (if decide (z = "-")=true then _ else _)=_;rw [if_pos (by simpa using h)];rfl
 ·rw [if_neg h];show (if decide (z = "-")=true then _ else _)=_;rw [if_neg (by simpa using h),zeo (zcs (zaj rfl) (zaj rfl))]
theorem yfh {c:Nat}{S:Sto}:Rs (ze8 [.str ⟨#[c]⟩,.int 8]) (zgv [.str ⟨#[c]⟩,.int 8]) S ((zct c).map oD):=by
 have h1:=yff (z:=⟨#[c]⟩) (S:=S)
 have h2:=yfg (z:=⟨#[c]⟩) (S:=S)
 unfold zct
 by_cases h:c=45
 ·rw [if_pos ((zkf c).mpr h)] at h1 h2
  rw [if_pos h]
  exact ⟨S,h1,Gr.refl _,h2⟩
 ·rw [if_neg (λz=>h ((zkf c).mp z))] at h1 h2
  rw [if_neg h]
  obtain ⟨e1,e2⟩:=ztw (n:=8) (c:=c) (S:=S) (by decide)
  have e1:=h1.trans e1
  have e2:=h2.trans e2
  cases hc:zch 8 c with
  | none=>rw [hc] at e1 e2;exact ⟨e1,S,e2,Gr.refl _⟩
  | some k=>rw [hc] at e1 e2;exact ⟨S,e1,Gr.refl _,e2⟩
section
variable {a b:SM}{t:TM}{r q:ZM}{e:EM}{l l':Lo}{S S':Sto}{d:D}{i:Nat}
theorem zbb (h:a l S=some (.nx,l',S')):zah a b l S=b l' S':=by unfold zah;rw [h];rfl
theorem zfw (h:a l S=some (.rt d,l',S')):zah a b l S=some (.rt d,l',S'):=by unfold zah;rw [h];rfl
theorem zfx (h:a l S=none):zah a b l S=none:=by unfold zah;rw [h];rfl
theorem zd8 (h:t l S=some (true,S')):sIf t a b l S=a l S':=by unfold sIf;rw [h];rfl
theorem zd9 (h:t l S=some (false,S')):sIf t a b l S=b l S':=by unfold sIf;rw [h];rfl
theorem zgj (h:a l S=some (.nx,l',S')):zcq a r l S=r l' S':=by unfold zcq;rw [h];rfl
theorem yfi (h:a l S=some (.rt d,l',S')):zcq a r l S=none:=by unfold zcq;rw [h];rfl
theorem zhv (h:r l S=none):zOr r q l S=q l S:=by unfold zOr;rw [h]
theorem zhc {c:Str × Sto}(h:r l S=some c):zOr r q l S=some c:=by unfold zOr;rw [h]
theorem zif (h:t l S=some (true,S')):zIf t r q l S=r l S':=by unfold zIf;rw [h];rfl
theorem zig (h:t l S=some (false,S')):zIf t r q l S=q l S':=by unfold zIf;rw [h];rfl
theorem ztx (h:e l S=some (d,S')):zdq e l S=some (.nx,l,S'):=by unfold zdq;rw [h];rfl
theorem zcg (h:e l S=some (d,S')):zak e (gName3 i) l S=some (.nx,l.set i (some d),S'):=by unfold zak;rw [h];rfl
theorem zjb (h:e l S=none):zak e (gName3 i) l S=none:=by unfold zak;rw [h];rfl
theorem zih (h:e l S=some (d,S')):sRet e l S=some (.rt d,l,S'):=by unfold sRet;rw [h];rfl
theorem zn9 {vs:List D}(h:e l S=some (.ref S'.length,S'++[.lst vs])):zac zc9 (zaa e zab) l S=some (.tup vs,S'++[.lst vs]):=by
 rw [zbg (zd3 h)]
 show (lstOf (S'++[.lst vs]) S'.length).bind _=_
 rw [za9];rfl
theorem zty (h:e l S=none):zac zc9 (zaa e zab) l S=none:=by unfold zac zaa;rw [h];rfl
end
theorem ztz {z:Str}{S:Sto}:ze0 [.str z] S=some (.non,S):=by
 unfold ze0 zny
 rw [zee (l:=[some (.str z)]) rfl,zd9 (S':=S) (by unfold zbi tE eUn;rw [zaj rfl];rfl)]
 rfl
theorem zt0 {z:Str}{S:Sto}:zgh [.str z] S=none:=by
 show zj5 [some (.str z)] S=_
 unfold zj5
 rw [zig (S':=S) (by unfold zbi tE eUn;rw [zaj rfl];rfl)]
 rfl
theorem yfj {x:D}{S:Sto}{T:String}(h:tyD S x=some T) (hT:isI T "str" = false):ze0 [x] S=none/\zgh [x] S=some (("NoText":Str),S):=by
 have e:zbi (tE (eUn (zjv "str") (eVar 0))) [some x] S=some (true,S):=by
  unfold zbi tE eUn zjv;rw [zaj rfl]
  show Option.bind (Option.bind (Option.bind (tyD S x) _) _) _=_
  rw [h]
  show Option.bind (some (isI T "str",S)) _=_
  rw [hT];rfl
 constructor
 ·unfold ze0 zny
  rw [zee (l:=[some x]) rfl,zd8 e];rfl
 ·show zj5 [some x] S=_
  unfold zj5
  rw [zif e]
noncomputable def zhd (a:Nat) (z:Str):Option (List Nat):=if z = "-" then some [] else if z = "" then none else za7 (zch a) z.cps.toList
noncomputable def wD (as:List Nat):D:=.tup (as.map nD)
theorem zii {α β γ δ:Type}{F:γ->Option δ}{f:α->Option β}{g:α->γ}{h:β->δ}(e:∀x,F (g x)=(f x).map h):∀xs:List α,za7 F (xs.map g)=(za7 f xs).map (List.map h)
 | []=>rfl
 | x :: xs=>by
  have ih:=zii e xs
  rw [List.map_cons]
  show (F (g x)).bind (λv=>(za7 F (xs.map g)).bind λvs=>some (v :: vs))=Option.map (List.map h) ((f x).bind λv=>(za7 f xs).bind λvs=>some (v :: vs))
  rw [e x,ih]
  cases f x with
  | none=>rfl
  | some v=>cases za7 f xs <;> rfl
noncomputable def zlr (f:Nat->Option D):D->Option D
 | .str z=>match z.cps.toList with
  | [c]=>f c
  | _=>none
 | _=>none
theorem zls {e0 e:EM}{r:ZM}{ixs:List (Option Nat)}{l:Lo}{S S1:Sto}{z:Str}{f:Nat->Option D}(he:e0 l S=some (.str z,S1)) (g1:Gr S S1) (hz:z.length+2<=sizeLine)
  (step:∀c∈z.cps.toList,∀S,Gr S1 S->Rs (e ((za8 ixs l).set 0 (some (.str ⟨#[c]⟩)))) (r ((za8 ixs l).set 0 (some (.str ⟨#[c]⟩)))) S (f c)) :
  (∀vs,za7 f z.cps.toList=some vs->∃S',zbc (zcd e0) ixs (gName3 0) za5 e l S=some (.ref S'.length,S'++[.lst vs])/\Gr S S'/\ze7 (zcd e0) ixs (gName3 0) za5 e r l S=none) /\
  (za7 f z.cps.toList=none->zbc (zcd e0) ixs (gName3 0) za5 e l S=none/\∃S',ze7 (zcd e0) ixs (gName3 0) za5 e r l S=some (("NoText":Str),S')/\Gr S S'):=by
 have hm:za7 (zlr f) (sgn z)=za7 f z.cps.toList:=by
  unfold sgn
  rw [zii (F:=zlr f) (f:=f) (g:=λc=>D.str ⟨#[c]⟩) (h:=id) (λx=>by cases h:f x <;> simp [zlr,h])]
  cases za7 f z.cps.toList <;> simp
 have hl:(sgn z).length+1<=sizeLine:=by rw [zi3];have:z.cps.size=z.length:=rfl;omega
 have:=zlp (F:=zlr f) (e:=e) (r:=r) (ixs:=ixs) (znw he) g1 (λi S _=>rfl) hl (λx hx S g=>by
  unfold sgn at hx
  obtain ⟨c,hc,rfl⟩:=List.mem_map.mp hx
  exact step c hc S g)
 rw [hm] at this
 exact this
theorem yfk {a:Nat}{z:Str}{S:Sto}(ha:a<=8) (hz:z.length+2<=sizeLine):Rs (zgi [.int (a:Int),.str z]) (zia [.int (a:Int),.str z]) S ((zhd a z).map wD):=by
 have hr:zdq (zac ze0 (zaa (eVar 1) (zab))) [‹a›,some (.str z)] S=some (.nx,[‹a›,some (.str z)],S):=ztx (by rw [zbg (zd3 (zaj rfl))];exact ztz)
 have hrz:zb8 zgh (zaa (eVar 1) (zab)) [‹a›,some (.str z)] S=none:=by rw [zeo (zd3 (zaj rfl))];exact zt0
 have t1:tE (eOp dEq (eVar 1) (eC (.str "-"))) [‹a›,some (.str z)] S=some (decide (z = "-"),S):=zhu (zaj rfl)
 have t2:tE (eOp dEq (eVar 1) (eC (.str ""))) [‹a›,some (.str z)] S=some (decide (z = ""),S):=zhu (zaj rfl)
 have key:=zls (e:=zac zej (zaa (eVar 0) (zaa (eVar 1) (zab)))) (r:=zb8 zew (zaa (eVar 0) (zaa (eVar 1) (zab)))) (ixs:=[none,some 0]) (l:=[‹a›,some (.str z)]) (S:=S) (S1:=S) (z:=z) (e0:=eVar 1) (f:=λc=>(zch a c).map nD) (zaj rfl) (Gr.refl _) hz (λc _ S' g=>by
  have:=yfe (n:=a) (c:=c) (S:=S') ha
  have e1:zac zej (zaa (eVar 0) (zaa (eVar 1) (zab))) ((za8 [none,some 0] [‹a›,some (.str z)]).set 0 (some (.str ⟨#[c]⟩)))=zej [.str ⟨#[c]⟩,.int (a:Int)]:=by
   funext S;exact zbg (zcs (zaj rfl) (zaj rfl))
  have e2:zb8 zew (zaa (eVar 0) (zaa (eVar 1) (zab))) ((za8 [none,some 0] [‹a›,some (.str z)]).set 0 (some (.str ⟨#[c]⟩)))=zew [.str ⟨#[c]⟩,.int (a:Int)]:=by
   funext S;exact zeo (zcs (zaj rfl) (zaj rfl))
  rw [e1,e2];exact this)
 have hmm:za7 (λc=>(zch a c).map nD) z.cps.toList=(za7 (zch a) z.cps.toList).map (List.map nD):=by
  have:=zii (F:=λc=>(zch a c).map nD) (f:=zch a) (g:=id) (h:=nD) (λ_=>rfl) z.cps.toList
  rw [List.map_id] at this
  exact this
 rw [hmm] at key
 have sz0:0<=sizeLine:=Nat.zero_le _
 have hm:zgi [.int (a:Int),.str z] S=((zah (sIf (tE (eOp dEq (eVar 1) (eC (.str "-")))) (sRet (zac zbl (zab))) (zaq)) (zah (sIf (tE (eOp dEq (eVar 1) (eC (.str "")))) (zea) (zaq)) (sRet (zac zc9 (zaa (zbc (zcd (eVar 1)) [none,some 0] (gName3 0) (za5) (zac zej (zaa (eVar 0) (zaa (eVar 1) (zab))))) (zab)))))) [‹a›,some (.str z)] S).bind zep:=by
  unfold zgi zsr
  rw [zee (l:=[‹a›,some (.str z)]) rfl,zbb hr]
 have hq:zia [.int (a:Int),.str z] S=(zcq (sIf (tE (eOp dEq (eVar 1) (eC (.str "-")))) (sRet (zac zbl (zab))) (zaq)) (zOr (zIf (tE (eOp dEq (eVar 1) (eC (.str "")))) (λ_ S=>some ("NoText",S)) (zed)) (zcq (sIf (tE (eOp dEq (eVar 1) (eC (.str "")))) (zea) (zaq)) (ze7 (zcd (eVar 1)) [none,some 0] (gName3 0) (za5) (zac zej (zaa (eVar 0) (zaa (eVar 1) (zab)))) (zb8 zew (zaa (eVar 0) (zaa (eVar 1) (zab)))))))) [‹a›,some (.str z)] S:=by
  show znz [‹a›,some (.str z)] S=_
  unfold znz
  rw [zhv hrz,zgj hr]
 unfold zhd
 by_cases h1:z = "-"
 ·rw [if_pos h1]
  rw [decide_eq_true h1] at t1
  have hs:sIf (tE (eOp dEq (eVar 1) (eC (.str "-")))) (sRet (zac zbl (zab))) (zaq) [‹a›,some (.str z)] S=some (.rt (.tup []),[‹a›,some (.str z)],S):=by
   rw [zd8 t1];exact zih (by show (if 0<=sizeLine then some (D.tup [],S) else none)=_;rw [if_pos sz0])
  rw [zfw hs] at hm
  rw [yfi hs] at hq
  exact ⟨S,hm,Gr.refl _,hq⟩
 ·rw [if_neg h1]
  rw [decide_eq_false h1] at t1
  have hs:sIf (tE (eOp dEq (eVar 1) (eC (.str "-")))) (sRet (zac zbl (zab))) (zaq) [‹a›,some (.str z)] S=some (.nx,[‹a›,some (.str z)],S):=by rw [zd9 t1];rfl
  rw [zbb hs] at hm
  rw [zgj hs] at hq
  by_cases h2:z = ""
  ·rw [if_pos h2]
   rw [decide_eq_true h2] at t2
   rw [zfx (by rw [zd8 t2];rfl)] at hm
   rw [zhc (c:=("NoText",S)) (by rw [zif t2])] at hq
   exact ⟨hm,S,hq,Gr.refl _⟩
  ·rw [if_neg h2]
   rw [decide_eq_false h2] at t2
   have hs:sIf (tE (eOp dEq (eVar 1) (eC (.str "")))) (zea) (zaq) [‹a›,some (.str z)] S=some (.nx,[‹a›,some (.str z)],S):=by rw [zd9 t2];rfl
   rw [zbb hs,zfb] at hm
   rw [zhv (by rw [zig t2];rfl),zgj hs] at hq
   cases hc:za7 (zch a) z.cps.toList with
   | none =>
    rw [hc] at key
    obtain ⟨k1,S',k2,g⟩:=key.2 rfl
    exact ⟨by rw [hm];exact zty k1,S',by rw [hq];exact k2,g⟩
   | some as =>
    rw [hc] at key
    obtain ⟨S',k1,g,k2⟩:=key.1 _ rfl
    exact ⟨_,by rw [hm];exact zn9 k1,g.push _,by rw [hq];exact k2⟩
theorem zkg {x y w:Str}(h:w∈Txt.split x y):w.length<=x.length:=by
 unfold Txt.split at h
 split at h
 ·simp at h;subst h;exact qlr _
 ·split at h
  ·simp at h;subst h;exact qlr _
  ·unfold Builtin.Str.partsBetween at h
   obtain ⟨⟨i,j⟩,_,rfl⟩:=List.mem_map.mp h
   show (Builtin.Str.strSub x i j).cps.size<=x.cps.size
   unfold Builtin.Str.strSub
   simp
   omega
theorem zlt {e:EM}{l:Lo}{S S1:Sto}{x y:Str}(he:e l S=some (.str x,S1)) (hy:y.length≠0) (hx:x.length+2<=sizeLine):zbt zei e (zaa (eC (.str y)) zab) l S=some (.ref S1.length,S1++[.lst ((Txt.split x y).map D.str)]):=by
 unfold zbt
 rw [he]
 show (if y.length≠0/\x.length+2<=sizeLine then _ else _)=_
 rw [if_pos ⟨hy,hx⟩]
theorem zkh {e:EM}{l:Lo}{S S1:Sto}{n:Nat}{xs:List D}(he:e l S=some (.ref n,S1)) (h:lstOf S1 n=some xs):zac zax (zaa e zab) l S=some (.int (xs.length:Int),S1):=by
 rw [zbg (zd3 he)]
 obtain ⟨v,S',e1,rfl,rfl⟩:Wo (zax [.ref n] S1) λv S'=>v=.int (xs.length:Int)/\S' = S1:=by simp only [zbx,zb6,zbw,zbu,zba,zar,za1,zbn,zb1,zcn,zbv,za6,zdd,zc1,zc2,zc3,zay,zcm,zcc,zaw,zat,zdc,zcz,zc0,zds,zck,zde,zcv,zdo,zdl,zdm,zdn,zd2,zdz,zdf,zb5,zc7,zdg,zdh,zd0,zco,zd1,zcp,zb7,zcu,zc4,zdk,zc5,zdt,zdu,zc8,List.map_cons,List.map_nil,List.length_cons,List.length_nil,Nat.reduceAdd,Nat.reduceSub,List.replicate,List.cons_append,List.nil_append,qg0,qg1,qs0,qs1,zau,zbe,zbo,zdj,zdx,zdy,zdv,zdw,za9,decide_eq_true_eq,h,and_self]
 exact e1
theorem zt1 {e:EM}{l:Lo}{S S1:Sto}{xs:List D}(he:e l S=some (.tup xs,S1)):zac zax (zaa e zab) l S=some (.int (xs.length:Int),S1):=by
 rw [zbg (zd3 he)]
 obtain ⟨v,S',e1,rfl,rfl⟩:Wo (zax [.tup xs] S1) λv S'=>v=.int (xs.length:Int)/\S' = S1:=by simp only [zbx,zb6,zbw,zbu,zba,zar,za1,zbn,zb1,zcn,zbv,za6,zdd,zc1,zc2,zc3,zay,zcm,zcc,zaw,zat,zdc,zcz,zc0,zds,zck,zde,zcv,zdo,zdl,zdm,zdn,zd2,zdz,zdf,zb5,zc7,zdg,zdh,zd0,zco,zd1,zcp,zb7,zcu,zc4,zdk,zc5,zdt,zdu,zc8,List.map_cons,List.map_nil,List.length_cons,List.length_nil,Nat.reduceAdd,Nat.reduceSub,List.replicate,List.cons_append,List.nil_append,qg0,qg1,qs0,qs1,zau,zbe,zbo,zdj,zdx,zdy,zdv,zdw,za9,decide_eq_true_eq,and_self]
 exact e1
theorem ne_int {e f:EM}{l:Lo}{S S1 S2:Sto}{i j:Int}(he:e l S=some (.int i,S1)) (hf:f l S1=some (.int j,S2)):tE (eOp dNe e f) l S=some (!decide (i=j),S2):=by
 unfold tE eOp;rw [he];show Option.bind (Option.bind (f l S1) _) _=_;rw [hf];rfl
theorem gt_int {e f:EM}{l:Lo}{S S1 S2:Sto}{i j:Int}(he:e l S=some (.int i,S1)) (hf:f l S1=some (.int j,S2)):tE (eOp dGt e f) l S=some (decide (j<i),S2):=by
 unfold tE eOp;rw [he];show Option.bind (Option.bind (f l S1) _) _=_;rw [hf];rfl
theorem zhw {l:Lo}{S:Sto}{i n j:Nat}{xs:List D}{x:D}(hl:l[i]? = some (some (.ref n))) (h:lstOf S n=some xs) (hx:xs[j]? = some x):eOp zav (eVar i) (eC (.int (j:Int))) l S=some (x,S):=by
 have:Wo (eOp zav (eVar i) (eC (.int (j:Int))) l S) λv S'=>v=x/\S' = S:=by
  show We _ _ _ _
  simp only [zba,zar,hl,zau,za1,zb5,h,zbe,atI_get hx,and_self]
 obtain ⟨v,S',e1,rfl,rfl⟩:=this
 exact e1
noncomputable def zcw (a:Nat) (z:Str):Option (List Nat × List (Option Nat)):=match Txt.split z " " with
 | [x,y]=>(zhd a x).bind λr=>(za7 zct y.cps.toList).bind λo=>if (1<=r.length/\r.length<=12)/\o.length=r.length then some (r,o) else none
 | _=>none
noncomputable def aD (os:List (Option Nat)):D:=.tup (os.map oD)
noncomputable def tD (r:List Nat × List (Option Nat)):D:=.tup [wD r.1,aD r.2]
theorem zt2:(" ":Str).length≠0:=by decide +kernel
noncomputable def zlu:TM:=zca (zbi (tE (zf2 dLe dLe (eC (.int 1)) (zac zax (zaa (eVar 3) (zab))) (eC (.int 12))))) (tE (eOp dNe (zac zax (zaa (eVar 4) (zab))) (zac zax (zaa (eVar 3) (zab)))))
theorem yfl {l:Lo}{S:Sto}{xs ys:List D}(h3:l[3]? = some (some (.tup xs))) (h4:l[4]? = some (some (.tup ys))):zlu l S=some (!decide ((1<=xs.length/\xs.length<=12)/\ys.length=xs.length),S):=by
 have l3:∀S,zac zax (zaa (eVar 3) zab) l S=some (.int (xs.length:Int),S):=λS=>zt1 (zaj h3)
 have l4:∀S,zac zax (zaa (eVar 4) zab) l S=some (.int (ys.length:Int),S):=λS=>zt1 (zaj h4)
 have e1:zbi (tE (zf2 dLe dLe (eC (.int 1)) (zac zax (zaa (eVar 3) (zab))) (eC (.int 12)))) l S=some (!decide (1<=xs.length/\xs.length<=12),S):=by
  unfold zbi tE zf2
  show Option.bind (Option.bind (Option.bind (zac zax (zaa (eVar 3) zab) l S) _) _) _=_
  rw [l3]
  by_cases c1:(1:Int)<=(xs.length:Int)
  ·by_cases c2:(xs.length:Int)<=12
   ·have:1<=xs.length/\xs.length<=12:=by omega
    simp only [dLe,oI0,Option.bind_some,decide_eq_true c1,decide_eq_true c2,decide_eq_true this,eC,if_true]
   ·have:¬(1<=xs.length/\xs.length<=12):=by omega
    simp only [dLe,oI0,Option.bind_some,decide_eq_true c1,decide_eq_false c2,decide_eq_false this,eC,if_true]
  ·have:¬(1<=xs.length/\xs.length<=12):=by omega
   simp only [dLe,oI0,Option.bind_some,decide_eq_false c1,decide_eq_false this,eC,qbf,if_false]
 have e2:=ne_int (l4 S) (l3 S)
 unfold zlu zca
 rw [e1]
 by_cases c:1<=xs.length/\xs.length<=12
 ·rw [decide_eq_true c]
  show tE (eOp dNe (zac zax (zaa (eVar 4) zab)) (zac zax (zaa (eVar 3) zab))) l S=_
  rw [e2]
  by_cases c2:ys.length=xs.length
  ·rw [decide_eq_true (show (ys.length:Int)=xs.length by omega),decide_eq_true (⟨c,c2⟩:(1<=xs.length/\xs.length<=12)/\ys.length=xs.length)]
  ·rw [decide_eq_false (show ¬(ys.length:Int)=xs.length by omega),decide_eq_false (λz:(1<=xs.length/\xs.length<=12)/\ys.length=xs.length=>c2 z.2)]
 ·rw [decide_eq_false c,decide_eq_false (λz:(1<=xs.length/\xs.length<=12)/\ys.length=xs.length=>c z.1)]
  rfl
noncomputable def zki:EM:=zbc (zcd (eOp zav (eVar 2) (eC (.int 1)))) [none] (gName3 0) (za5) (zac ze8 (zaa (eVar 0) (zaa (eC (.int 8)) (zab))))
noncomputable def zoa:ZM:=ze7 (zcd (eOp zav (eVar 2) (eC (.int 1)))) [none] (gName3 0) (za5) (zac ze8 (zaa (eVar 0) (zaa (eC (.int 8)) (zab)))) (zb8 zgv (zaa (eVar 0) (zaa (eC (.int 8)) (zab))))
theorem yfm {l:Lo}{S:Sto}{n:Nat}{x y:Str}(hl:l[2]? = some (some (.ref n))) (h:lstOf S n=some [.str x,.str y]) (hz:y.length+2<=sizeLine) :
  (∀os,za7 zct y.cps.toList=some os->∃S',zki l S=some (.ref S'.length,S'++[.lst (os.map oD)])/\Gr S S'/\zoa l S=none)/\(za7 zct y.cps.toList=none->zki l S=none/\∃S',zoa l S=some (("NoText":Str),S')/\Gr S S'):=by
 have key:=zls (e:=zac ze8 (zaa (eVar 0) (zaa (eC (.int 8)) (zab)))) (r:=zb8 zgv (zaa (eVar 0) (zaa (eC (.int 8)) (zab)))) (ixs:=[none]) (l:=l) (S:=S) (S1:=S) (z:=y) (e0:=eOp zav (eVar 2) (eC (.int 1))) (f:=λc=>(zct c).map oD) (zhw (j:=1) hl h rfl) (Gr.refl _) hz (λc _ S' g=>by
  have:=yfh (c:=c) (S:=S')
  have e1:zac ze8 (zaa (eVar 0) (zaa (eC (.int 8)) (zab))) ((za8 [none] l).set 0 (some (.str ⟨#[c]⟩)))=ze8 [.str ⟨#[c]⟩,.int 8]:=by
   funext S;exact zbg (zcs (zaj rfl) rfl)
  have e2:zb8 zgv (zaa (eVar 0) (zaa (eC (.int 8)) (zab))) ((za8 [none] l).set 0 (some (.str ⟨#[c]⟩)))=zgv [.str ⟨#[c]⟩,.int 8]:=by
   funext S;exact zeo (zcs (zaj rfl) rfl)
  rw [e1,e2];exact this)
 have hmm:za7 (λc=>(zct c).map oD) y.cps.toList=(za7 zct y.cps.toList).map (List.map oD):=by
  have:=zii (F:=λc=>(zct c).map oD) (f:=zct) (g:=id) (h:=oD) (λ_=>rfl) y.cps.toList
  rw [List.map_id] at this
  exact this
 rw [hmm] at key
 refine ⟨λos h=>?_,λh=>?_⟩
 ·rw [h] at key;exact key.1 _ rfl
 ·rw [h] at key;exact key.2 rfl
theorem zt3 {α β:Type}{F:α->Option β}:∀{ys:List α}{vs:List β},za7 F ys=some vs->vs.length=ys.length
 | [],vs,h=>by cases h;rfl
 | y :: ys,vs,h=>by
  obtain ⟨v,h1,h⟩:=bnd h
  obtain ⟨ws,h2,h⟩:=bnd h
  cases h
  rw [List.length_cons,List.length_cons,zt3 h2]
theorem yfn {a:Nat}{z:Str}{S:Sto}(ha:a<=8) (hz:z.length+2<=sizeLine):Rs (zfk [.int (a:Int),.str z]) (zgw [.int (a:Int),.str z]) S ((zcw a z).map tD):=by
 have s1:zak (zbt zei (eVar 1) (zaa (eC (.str " ")) zab)) (gName3 2) [‹a›,some (.str z),none,none,none] S=some (.nx,[‹a›,some (.str z),some (.ref S.length),none,none],S++[.lst ((Txt.split z " ").map D.str)]):=zcg (zlt (zaj rfl) zt2 hz)
 have g1:Gr S (S++[.lst ((Txt.split z " ").map D.str)]):=⟨_,rfl⟩
 have hw:lstOf (S++[.lst ((Txt.split z " ").map D.str)]) S.length=some ((Txt.split z " ").map D.str):=za9
 have pl:∀w∈Txt.split z " ",w.length+2<=sizeLine:=λw h=>by have:=zkg h;omega
 have hm:zfk [.int (a:Int),.str z] S=((zah (sIf (tE (eOp dNe (zac zax (zaa (eVar 2) (zab))) (eC (.int 2)))) (zea) (zaq)) (zah (zak (zac zgi (zaa (eVar 0) (zaa (eOp zav (eVar 2) (eC (.int 0))) (zab)))) (gName3 3)) (zah (zak (zac zc9 (zaa zki (zab))) (gName3 4)) (zah (sIf zlu (zea) (zaq)) (sRet (zac zbl (zaa (eVar 3) (zaa (eVar 4) (zab))))))))) [‹a›,some (.str z),some (.ref S.length),none,none] (S++[.lst ((Txt.split z " ").map D.str)])).bind zep:=by
  unfold zfk zss
  rw [zee (l:=[‹a›,some (.str z),none,none,none]) rfl,zbb s1]
  rfl
 have hq:zgw [.int (a:Int),.str z] S=(zOr (zIf (tE (eOp dNe (zac zax (zaa (eVar 2) (zab))) (eC (.int 2)))) (λ_ S=>some ("NoText",S)) (zed)) (zcq (sIf (tE (eOp dNe (zac zax (zaa (eVar 2) (zab))) (eC (.int 2)))) (zea) (zaq)) (zOr (zb8 zia (zaa (eVar 0) (zaa (eOp zav (eVar 2) (eC (.int 0))) (zab)))) (zcq (zak (zac zgi (zaa (eVar 0) (zaa (eOp zav (eVar 2) (eC (.int 0))) (zab)))) (gName3 3)) (zOr zoa (zcq (zak (zac zc9 (zaa zki (zab))) (gName3 4)) (zIf zlu (λ_ S=>some ("NoText",S)) (zed)))))))) [‹a›,some (.str z),some (.ref S.length),none,none] (S++[.lst ((Txt.split z " ").map D.str)]):=by
  show zn0 [‹a›,some (.str z),none,none,none] S=_
  unfold zn0
  rw [zgj s1]
  rfl
 have tl:tE (eOp dNe (zac zax (zaa (eVar 2) (zab))) (eC (.int 2))) [‹a›,some (.str z),some (.ref S.length),none,none] (S++[.lst ((Txt.split z " ").map D.str)])=some (!decide (((Txt.split z " ").length:Int)=2),S++[.lst ((Txt.split z " ").map D.str)]):=by
  have:=ne_int (zkh (l:=[‹a›,some (.str z),some (.ref S.length),none,none]) (e:=eVar 2) (S:=S++[.lst ((Txt.split z " ").map D.str)]) (zaj rfl) hw) (f:=eC (.int 2)) rfl
  rw [qlm] at this
  exact this
 generalize S++[.lst ((Txt.split z " ").map D.str)]=S1 at *
 by_cases h2:(Txt.split z " ").length=2
 ·rw [decide_eq_true (show ((Txt.split z " ").length:Int)=2 by omega)] at tl
  obtain ⟨x,y,hxy⟩:∃x y,Txt.split z " " = [x,y]:=by
   cases q:Txt.split z " " with
   | nil=>rw [q] at h2;cases h2
   | cons x r =>
    cases r with
    | nil=>rw [q] at h2;cases h2
    | cons y r =>
     cases r with
     | nil=>exact ⟨x,y,rfl⟩
     | cons _ _=>rw [q] at h2;simp at h2
  have px:=pl x (by rw [hxy];simp)
  have py:=pl y (by rw [hxy];simp)
  unfold zcw
  rw [hxy] at hw ⊢
  have s2:sIf (tE (eOp dNe (zac zax (zaa (eVar 2) (zab))) (eC (.int 2)))) (zea) (zaq) [‹a›,some (.str z),some (.ref S.length),none,none] S1=some (.nx,[‹a›,some (.str z),some (.ref S.length),none,none],S1):=by rw [zd9 tl];rfl
  rw [zbb s2] at hm
  rw [zhv (by rw [zig tl];rfl),zgj s2] at hq
  have ea:zaa (eVar 0) (zaa (eOp zav (eVar 2) (eC (.int 0))) zab) [‹a›,some (.str z),some (.ref S.length),none,none] S1=some ([.int (a:Int),.str x],S1):=zcs (zaj rfl) (zhw (j:=0) rfl hw rfl)
  have rr:=yfk (a:=a) (z:=x) (S:=S1) ha px
  dsimp only
  cases hr:zhd a x with
  | none =>
   rw [hr] at rr
   obtain ⟨r1,S2,r2,g2⟩:=rr
   refine ⟨?_,S2,?_,g1.trans g2⟩
   ·rw [hm,zfx (zjb (by rw [zbg ea];exact r1))];rfl
   ·rw [hq,zhc (c:=("NoText",S2)) (by rw [zeo ea];exact r2)]
  | some r =>
   rw [hr] at rr
   obtain ⟨S2,r1,g2,r2⟩:=rr
   have s3:zak (zac zgi (zaa (eVar 0) (zaa (eOp zav (eVar 2) (eC (.int 0))) (zab)))) (gName3 3) [‹a›,some (.str z),some (.ref S.length),none,none] S1=some (.nx,[‹a›,some (.str z),some (.ref S.length),some (wD r),none],S2):=zcg (by rw [zbg ea];exact r1)
   rw [zbb s3] at hm
   rw [zhv (by rw [zeo ea];exact r2),zgj s3] at hq
   have ar:=yfm (l:=[‹a›,some (.str z),some (.ref S.length),some (wD r),none]) (S:=S2) (n:=S.length) (x:=x) (y:=y) rfl (g2.lst hw) py
   show Rs _ _ S (Option.map tD ((za7 zct y.cps.toList).bind λo=>if (1<=r.length/\r.length<=12)/\o.length=r.length then some (r,o) else none))
   cases ho:za7 zct y.cps.toList with
   | none =>
    obtain ⟨k1,S3,k2,g3⟩:=ar.2 ho
    refine ⟨?_,S3,?_,g1.trans (g2.trans g3)⟩
    ·rw [hm,zfx (zjb (zty k1))];rfl
    ·rw [hq,zhc k2]
   | some os =>
    obtain ⟨S3,k1,g3,k2⟩:=ar.1 os ho
    have s4:zak (zac zc9 (zaa zki (zab))) (gName3 4) [‹a›,some (.str z),some (.ref S.length),some (wD r),none] S2=some (.nx,[‹a›,some (.str z),some (.ref S.length),some (wD r),some (aD os)],S3++[.lst (os.map oD)]):=zcg (zn9 k1)
    rw [zbb s4] at hm
    rw [zhv k2,zgj s4] at hq
    have tf:=yfl (l:=[‹a›,some (.str z),some (.ref S.length),some (wD r),some (aD os)]) (S:=S3++[.lst (os.map oD)]) (xs:=r.map nD) (ys:=os.map oD) rfl rfl
    rw [qlm,qlm] at tf
    show Rs _ _ S (Option.map tD (if (1<=r.length/\r.length<=12)/\os.length=r.length then some (r,os) else none))
    by_cases hf:(1<=r.length/\r.length<=12)/\os.length=r.length
    ·rw [if_pos hf]
     rw [decide_eq_true hf] at tf
     refine ⟨S3++[.lst (os.map oD)],?_,g1.trans (g2.trans (g3.push _)),?_⟩
     ·rw [hm,zbb (l':=[‹a›,some (.str z),some (.ref S.length),some (wD r),some (aD os)]) (S':=S3++[.lst (os.map oD)]) (by rw [zd9 tf];rfl),zfb,zbg (zcs (zaj rfl) (zaj rfl))]
      show (if 2<=sizeLine then _ else _)=_
      rw [if_pos (by decide)];rfl
     ·rw [hq,zig tf];rfl
    ·rw [if_neg hf]
     rw [decide_eq_false hf] at tf
     refine ⟨?_,S3++[.lst (os.map oD)],?_,g1.trans (g2.trans (g3.push _))⟩
     ·rw [hm,zfx (by rw [zd8 tf];rfl)];rfl
     ·rw [hq,zif tf]
 ·rw [decide_eq_false (show ¬((Txt.split z " ").length:Int)=2 by omega)] at tl
  have hn:zcw a z=none:=by
   unfold zcw
   cases q:Txt.split z " " with
   | nil=>rfl
   | cons x r =>
    cases r with
    | nil=>rfl
    | cons y r =>
     cases r with
     | nil=>rw [q] at h2;exact absurd rfl h2
     | cons _ _=>rfl
  rw [hn]
  refine ⟨?_,S1,?_,g1⟩
  ·rw [hm,zfx (by rw [zd8 tl];rfl)];rfl
  ·rw [hq,zhc (c:=("NoText",S1)) (by rw [zif tl])]
noncomputable def pcs (z sep:Str):List Str:=if z = "none" then [] else Txt.split z sep
theorem zt4 {z sep w:Str}(h:w∈pcs z sep):w.length<=z.length:=by
 unfold pcs at h
 split at h
 ·cases h
 ·exact zkg h
theorem zt5 {z sep:Str}{k:Nat}{S:Sto}(hs:sep.length≠0) (hz:z.length+2<=sizeLine) :
  zd7 [.str z,.str sep,.int (k:Int)] S=(if (pcs z sep).length<=k then some (.ref S.length,S++[.lst ((pcs z sep).map D.str)]) else none) /\
  zfv [.str z,.str sep,.int (k:Int)] S=(if (pcs z sep).length<=k then none else some (("NoText":Str),S++[.lst ((pcs z sep).map D.str)])):=by
 have s1:zdq (zac ze0 (zaa (eVar 0) (zab))) [some (.str z),some (.str sep),‹k›,none] S=some (.nx,[some (.str z),some (.str sep),‹k›,none],S):=ztx (by rw [zbg (zd3 (zaj rfl))];exact ztz)
 have z1:zb8 zgh (zaa (eVar 0) (zab)) [some (.str z),some (.str sep),‹k›,none] S=none:=by rw [zeo (zd3 (zaj rfl))];exact zt0
 have e2:zeq (tE (eOp dEq (eVar 0) (eC (.str "none")))) (zac za3 (zab)) (zbt zei (eVar 0) (zaa (eVar 1) zab)) [some (.str z),some (.str sep),‹k›,none] S=some (.ref S.length,S++[.lst ((pcs z sep).map D.str)]):=by
  unfold zeq
  rw [zhu (zaj rfl)]
  unfold pcs
  by_cases h:z = "none"
  ·rw [if_pos h,decide_eq_true h]
   show (if 0<=sizeLine then some (D.ref S.length,S++[.lst []]) else none)=_
   rw [if_pos (Nat.zero_le _)];rfl
  ·rw [if_neg h,decide_eq_false h]
   show zbt zei (eVar 0) (zaa (eVar 1) zab) [some (.str z),some (.str sep),‹k›,none] S=_
   obtain ⟨u,hu⟩:∃u,zlf (.str z)=some u:=⟨_,rfl⟩
   unfold zbt
   rw [zaj (d:=.str z) rfl]
   simp only [Option.bind_some,hu]
   rw [zd3 (x:=.str sep) (zaj rfl)]
   show (if sep.length≠0/\z.length+2<=sizeLine then _ else _)=_
   rw [if_pos ⟨hs,hz⟩]
 have s2:zak (zeq (tE (eOp dEq (eVar 0) (eC (.str "none")))) (zac za3 (zab)) (zbt zei (eVar 0) (zaa (eVar 1) zab))) (gName3 3) [some (.str z),some (.str sep),‹k›,none] S=some (.nx,[some (.str z),some (.str sep),‹k›,some (.ref S.length)],S++[.lst ((pcs z sep).map D.str)]):=zcg e2
 have hw:lstOf (S++[.lst ((pcs z sep).map D.str)]) S.length=some ((pcs z sep).map D.str):=za9
 have tl:tE (eOp dGt (zac zax (zaa (eVar 3) (zab))) (eVar 2)) [some (.str z),some (.str sep),‹k›,some (.ref S.length)] (S++[.lst ((pcs z sep).map D.str)])=some (decide ((k:Int)<((pcs z sep).length:Int)),S++[.lst ((pcs z sep).map D.str)]):=by
  have:=gt_int (zkh (l:=[some (.str z),some (.str sep),‹k›,some (.ref S.length)]) (e:=eVar 3) (S:=S++[.lst ((pcs z sep).map D.str)]) (zaj rfl) hw) (f:=eVar 2) (zaj rfl)
  rw [qlm] at this
  exact this
 have hm:zd7 [.str z,.str sep,.int (k:Int)] S=((zah (sIf (tE (eOp dGt (zac zax (zaa (eVar 3) (zab))) (eVar 2))) (zea) (zaq)) (sRet (eVar 3))) [some (.str z),some (.str sep),‹k›,some (.ref S.length)] (S++[.lst ((pcs z sep).map D.str)])).bind zep:=by
  unfold zd7 zn1
  rw [zee (l:=[some (.str z),some (.str sep),‹k›,none]) rfl,zbb s1,zbb s2]
 have hq:zfv [.str z,.str sep,.int (k:Int)] S=zIf (tE (eOp dGt (zac zax (zaa (eVar 3) (zab))) (eVar 2))) (λ_ S=>some ("NoText",S)) (zed) [some (.str z),some (.str sep),‹k›,some (.ref S.length)] (S++[.lst ((pcs z sep).map D.str)]):=by
  show zj6 [some (.str z),some (.str sep),‹k›,none] S=_
  unfold zj6
  rw [zhv z1,zgj s1,zgj s2]
 generalize S++[.lst ((pcs z sep).map D.str)]=S1 at *
 by_cases h:(pcs z sep).length<=k
 ·rw [decide_eq_false (show ¬(k:Int)<((pcs z sep).length:Int) by omega)] at tl
  rw [if_pos h,if_pos h,hm,hq]
  exact ⟨by rw [zbb (l':=[some (.str z),some (.str sep),‹k›,some (.ref S.length)]) (S':=S1) (by rw [zd9 tl];rfl),zfb,zaj rfl],by rw [zig tl];rfl⟩
 ·rw [decide_eq_true (show (k:Int)<((pcs z sep).length:Int) by omega)] at tl
  rw [if_neg h,if_neg h,hm,hq]
  exact ⟨by rw [zfx (by rw [zd8 tl];rfl)];rfl,by rw [zif tl]⟩
theorem zt6 {x:D}{sep:Str}{k:Int}{S:Sto}{T:String}(h:tyD S x=some T) (hT:isI T "str" = false):zd7 [x,.str sep,.int k] S=none/\zfv [x,.str sep,.int k] S=some (("NoText":Str),S):=by
 obtain ⟨h1,h2⟩:=yfj h hT
 constructor
 ·unfold zd7 zn1
  rw [zee (l:=[some x,some (.str sep),some (.int k),none]) rfl,zfx (by unfold zdq;rw [zbg (zd3 (zaj rfl)),h1];rfl)];rfl
 ·show zj6 [some x,some (.str sep),some (.int k),none] S=_
  unfold zj6
  rw [zhc (c:=("NoText",S)) (by rw [zeo (zd3 (zaj rfl)),h2])]
noncomputable def zgy (a:Nat) (z:Str):Option (List (List Nat × List (Option Nat))):=if (pcs z "; ").length<=24 then za7 (zcw a) (pcs z "; ") else none
theorem zt7:("; ":Str).length≠0:=by decide +kernel
theorem zij {e f g:EM}{l:Lo}{S S1 S2 S3:Sto}{x y w:D}(h:e l S=some (x,S1)) (h2:f l S1=some (y,S2)) (h3:g l S2=some (w,S3)):zaa e (zaa f (zaa g zab)) l S=some ([x,y,w],S3):=by
 unfold zaa;rw [h];show Option.bind (Option.bind (f l S1) _) _=_;rw [h2];show Option.bind (Option.bind (Option.bind (g l S2) _) _) _=_;rw [h3];rfl
noncomputable def zjc {α:Type}(f:Str->Option α) (h:α->D):D->Option D
 | .str z=>(f z).map h
 | _=>none
theorem zt8 {a:Nat}{z:Str}{S:Sto}(ha:a<=8) (hz:z.length+2<=sizeLine) :
  (∀rs,zgy a z=some rs->∃S',ze1 [.int (a:Int),.str z] S=some (.ref S'.length,S'++[.lst (rs.map tD)])/\Gr S S'/\zg9 [.int (a:Int),.str z] S=none) /\
  (zgy a z=none->ze1 [.int (a:Int),.str z] S=none/\∃S',zg9 [.int (a:Int),.str z] S=some (("NoText":Str),S')/\Gr S S'):=by
 obtain ⟨l1,l2⟩:=zt5 (z:=z) (sep:="; ") (k:=24) (S:=S) zt7 hz
 have ea:zaa (eVar 1) (zaa (eC (.str "; ")) (zaa (eC (.int 24)) (zab))) [‹a›,some (.str z),none] S=some ([.str z,.str "; ",.int 24],S):=zij (zaj rfl) rfl rfl
 have hm:ze1 [.int (a:Int),.str z] S=((zah (zak (zac zd7 (zaa (eVar 1) (zaa (eC (.str "; ")) (zaa (eC (.int 24)) (zab))))) (gName3 2)) (sRet (zbc (zb9 (eVar 2)) [none,some 0] (gName3 0) (za5) (zac zfk (zaa (eVar 1) (zaa (eVar 0) (zab))))))) [‹a›,some (.str z),none] S).bind zep:=by
  unfold ze1 zn2
  rw [zee (l:=[‹a›,some (.str z),none]) rfl]
 have hq:zg9 [.int (a:Int),.str z] S=(zOr (zb8 zfv (zaa (eVar 1) (zaa (eC (.str "; ")) (zaa (eC (.int 24)) (zab))))) (zcq (zak (zac zd7 (zaa (eVar 1) (zaa (eC (.str "; ")) (zaa (eC (.int 24)) (zab))))) (gName3 2)) (ze7 (zb9 (eVar 2)) [none,some 0] (gName3 0) (za5) (zac zfk (zaa (eVar 1) (zaa (eVar 0) (zab)))) (zb8 zgw (zaa (eVar 1) (zaa (eVar 0) (zab))))))) [‹a›,some (.str z),none] S:=rfl
 unfold zgy
 by_cases h24:(pcs z "; ").length<=24
 ·rw [if_pos h24] at l1 l2 ⊢
  have s1:zak (zac zd7 (zaa (eVar 1) (zaa (eC (.str "; ")) (zaa (eC (.int 24)) (zab))))) (gName3 2) [‹a›,some (.str z),none] S=some (.nx,[‹a›,some (.str z),some (.ref S.length)],S++[.lst ((pcs z "; ").map D.str)]):=zcg (by rw [zbg ea];exact l1)
  rw [zbb s1,zfb] at hm
  rw [zhv (by rw [zeo ea];exact l2),zgj s1] at hq
  have g1:Gr S (S++[.lst ((pcs z "; ").map D.str)]):=⟨_,rfl⟩
  have hw:lstOf (S++[.lst ((pcs z "; ").map D.str)]) S.length=some ((pcs z "; ").map D.str):=za9
  generalize S++[.lst ((pcs z "; ").map D.str)]=S1 at *
  have him:zb9 (eVar 2) [‹a›,some (.str z),some (.ref S.length)] S1=some (itL S.length,((pcs z "; ").map D.str).length+1,S1):=by
   unfold zb9
   rw [zaj (d:=.ref S.length) rfl]
   show (lstOf S1 S.length).bind _=_
   rw [hw];rfl
  have key:=zlp (F:=zjc (zcw a) tD) (e:=zac zfk (zaa (eVar 1) (zaa (eVar 0) (zab)))) (r:=zb8 zgw (zaa (eVar 1) (zaa (eVar 0) (zab)))) (ixs:=[none,some 0]) him (Gr.refl _) (λi S' g=>by show (lstOf S' S.length).bind _=_;rw [g.lst hw];rfl) (by rw [qlm];exact Nat.le_trans (show _<=25 by omega) (by decide)) (λx hx S' g=>by
   obtain ⟨w,hw',rfl⟩:=List.mem_map.mp hx
   have:=yfn (a:=a) (z:=w) (S:=S') ha (by have:=zt4 hw';omega)
   have e1:zac zfk (zaa (eVar 1) (zaa (eVar 0) (zab))) ((za8 [none,some 0] [‹a›,some (.str z),some (.ref S.length)]).set 0 (some (.str w)))=zfk [.int (a:Int),.str w]:=by
    funext S;exact zbg (zcs (zaj rfl) (zaj rfl))
   have e2:zb8 zgw (zaa (eVar 1) (zaa (eVar 0) (zab))) ((za8 [none,some 0] [‹a›,some (.str z),some (.ref S.length)]).set 0 (some (.str w)))=zgw [.int (a:Int),.str w]:=by
    funext S;exact zeo (zcs (zaj rfl) (zaj rfl))
   rw [e1,e2];exact this)
  rw [zii (F:=zjc (zcw a) tD) (f:=zcw a) (g:=D.str) (h:=tD) (λ_=>rfl)] at key
  rw [hm,hq]
  refine ⟨λrs h=>?_,λh=>?_⟩
  ·rw [h] at key
   obtain ⟨S',k1,g,k2⟩:=key.1 _ rfl
   exact ⟨S',k1,g1.trans g,k2⟩
  ·rw [h] at key
   obtain ⟨k1,S',k2,g⟩:=key.2 rfl
   exact ⟨k1,S',k2,g1.trans g⟩
 ·rw [if_neg h24] at l1 l2 ⊢
  refine ⟨λrs h=>(by cases h),λ_=>⟨?_,S++[.lst ((pcs z "; ").map D.str)],?_,⟨_,rfl⟩⟩⟩
  ·rw [hm,zfx (zjb (by rw [zbg ea];exact l1))];rfl
  ·rw [hq,zhc (by rw [zeo ea];exact l2)]
theorem zt9 {x:D}{a:Int}{S:Sto}{T:String}(h:tyD S x=some T) (hT:isI T "str" = false):ze1 [.int a,x] S=none/\zg9 [.int a,x] S=some (("NoText":Str),S):=by
 obtain ⟨h1,h2⟩:=zt6 (sep:="; ") (k:=24) h hT
 have ea:zaa (eVar 1) (zaa (eC (.str "; ")) (zaa (eC (.int 24)) (zab))) [some (.int a),some x,none] S=some ([x,.str "; ",.int 24],S):=zij (zaj rfl) rfl rfl
 constructor
 ·unfold ze1 zn2
  rw [zee (l:=[some (.int a),some x,none]) rfl,zfx (zjb (by rw [zbg ea];exact h1))];rfl
 ·show zn3 [some (.int a),some x,none] S=_
  unfold zn3
  rw [zhc (c:=("NoText",S)) (by rw [zeo ea];exact h2)]
noncomputable def sg (c:Nat):Bool:=zhn ⟨#[c]⟩ "01-"
noncomputable def zbd (v:Nat) (p:Str):Bool:=decide (p.length=v) && p.cps.toList.all sg
theorem len_str {e:EM}{l:Lo}{S S1:Sto}{z:Str}(he:e l S=some (.str z,S1)) (hz:z.length<=sizeLine):zac zax (zaa e zab) l S=some (.int (z.length:Int),S1):=by
 rw [zbg (zd3 he)]
 obtain ⟨v,S',e1,rfl,rfl⟩:Wo (zax [.str z] S1) λv S'=>v=.int (z.length:Int)/\S' = S1:=by simp only [zbx,zb6,zbw,zbu,zba,zar,za1,zbn,zb1,zcn,zbv,za6,zdd,zc1,zc2,zc3,zay,zcm,zcc,zaw,zat,zdc,zcz,zc0,zds,zck,zde,zcv,zdo,zdl,zdm,zdn,zd2,zdz,zdf,zb5,zc7,zdg,zdh,zd0,zco,zd1,zcp,zb7,zcu,zc4,zdk,zc5,zdt,zdu,zc8,List.map_cons,List.map_nil,List.length_cons,List.length_nil,Nat.reduceAdd,Nat.reduceSub,List.replicate,List.cons_append,List.nil_append,qg0,qg1,qs0,qs1,zau,zbe,zbo,zdj,zdx,zdy,zdv,zdw,za9,decide_eq_true_eq,hz,and_self,true_and]
 exact e1
theorem zua {α:Type}(g:α->Bool):∀xs:List α,(xs.map λx=>D.bl (g x)).all zj1=true/\(xs.map λx=>D.bl (g x)).all isT=xs.all g
 | []=>⟨rfl,rfl⟩
 | x :: xs=>by
  obtain ⟨h1,h2⟩:=zua g xs
  rw [List.map_cons,List.all_cons,List.all_cons,List.all_cons,h1,h2]
  exact ⟨rfl,by cases g x <;> rfl⟩
theorem zub {α:Type}{e:EM}{l:Lo}{S S':Sto}{g:α->Bool}{xs:List α}(h:e l S=some (.ref S'.length,S'++[.lst (xs.map λx=>D.bl (g x))])):zac zga (zaa e zab) l S=some (.bl (xs.all g),S'++[.lst (xs.map λx=>D.bl (g x))]):=by
 rw [zbg (zd3 h)]
 obtain ⟨h1,h2⟩:=zua g xs
 show (lstOf (S'++[.lst (xs.map λx=>D.bl (g x))]) S'.length).bind _=_
 rw [za9]
 show (if (xs.map λx=>D.bl (g x)).all zj1=true then some (D.bl ((xs.map λx=>D.bl (g x)).all isT),_) else none)=_
 rw [if_pos h1,h2]
theorem zkj {α β:Type}(g:α->β):∀xs:List α,za7 (λx=>some (g x)) xs=some (xs.map g)
 | []=>rfl
 | x :: xs=>by
  show (za7 (λx=>some (g x)) xs).bind (λvs=>some (g x :: vs))=_
  rw [zkj g xs];rfl
theorem yfo {v:Nat}{p:Str}{S:Sto}(hz:p.length+2<=sizeLine):∃S',ze9 [.int (v:Int),.str p] S=some (.bl (zbd v p),S')/\Gr S S':=by
 have ln:=len_str (e:=eVar 1) (l:=[‹v›,some (.str p)]) (S:=S) (z:=p) (zaj rfl) (by omega)
 have e1:eOp dEq (zac zax (zaa (eVar 1) (zab))) (eVar 0) [‹v›,some (.str p)] S=some (.bl (decide ((p.length:Int)=(v:Int))),S):=by
  unfold eOp;rw [ln];rfl
 have hm:ze9 [.int (v:Int),.str p] S=(zfz (eOp dEq (zac zax (zaa (eVar 1) (zab))) (eVar 0)) (zac zga (zaa (zbc (zcd (eVar 1)) [none] (gName3 0) (za5) (eOp (zev false) (eVar 0) (eC (.str "01-")))) (zab)))) [‹v›,some (.str p)] S:=by
  unfold ze9 zst
  rw [zee (l:=[‹v›,some (.str p)]) rfl,zfb]
 rw [hm]
 unfold zfz zbd
 rw [e1]
 by_cases h:p.length=v
 ·rw [decide_eq_true (show (p.length:Int)=(v:Int) by omega),decide_eq_true h]
  have key:=zls (e:=eOp (zev false) (eVar 0) (eC (.str "01-"))) (r:=zed) (ixs:=[none]) (l:=[‹v›,some (.str p)]) (S:=S) (S1:=S) (z:=p) (e0:=eVar 1) (f:=λc=>some (D.bl (sg c))) (zaj rfl) (Gr.refl _) hz (λc _ S' g=>⟨S',rfl,Gr.refl _,rfl⟩)
  rw [zkj (λc=>D.bl (sg c))] at key
  obtain ⟨S',k1,g,_⟩:=key.1 _ rfl
  exact ⟨_,zub k1,g.push _⟩
 ·rw [decide_eq_false (show ¬(p.length:Int)=(v:Int) by omega),decide_eq_false h]
  exact ⟨S,rfl,Gr.refl _⟩
noncomputable def zhe (v:Nat) (z:Str):Option (List Str):=if (pcs z " + ").length<=40 then (if (pcs z " + ").all (zbd v)=true then some (pcs z " + ") else none) else none
theorem zuc:(" + ":Str).length≠0:=by decide +kernel
theorem zud {v:Nat}{z:Str}{S:Sto}(hz:z.length+2<=sizeLine):Rs (zfa [.int (v:Int),.str z]) (zha [.int (v:Int),.str z]) S ((zhe v z).map λps=>.tup (ps.map D.str)):=by
 obtain ⟨l1,l2⟩:=zt5 (z:=z) (sep:=" + ") (k:=40) (S:=S) zuc hz
 have ea:zaa (eVar 1) (zaa (eC (.str " + ")) (zaa (eC (.int 40)) (zab))) [‹v›,some (.str z),none] S=some ([.str z,.str " + ",.int 40],S):=zij (zaj rfl) rfl rfl
 have hm:zfa [.int (v:Int),.str z] S=((zah (zak (zac zd7 (zaa (eVar 1) (zaa (eC (.str " + ")) (zaa (eC (.int 40)) (zab))))) (gName3 2)) (zah (sIf (zbi (tE (zac zga (zaa (zbc (zb9 (eVar 2)) [none,some 0] (gName3 0) (za5) (zac ze9 (zaa (eVar 1) (zaa (eVar 0) (zab))))) (zab))))) (zea) (zaq)) (sRet (zac zc9 (zaa (eVar 2) (zab)))))) [‹v›,some (.str z),none] S).bind zep:=by
  unfold zfa zn4
  rw [zee (l:=[‹v›,some (.str z),none]) rfl]
 have hq:zha [.int (v:Int),.str z] S=(zOr (zb8 zfv (zaa (eVar 1) (zaa (eC (.str " + ")) (zaa (eC (.int 40)) (zab))))) (zcq (zak (zac zd7 (zaa (eVar 1) (zaa (eC (.str " + ")) (zaa (eC (.int 40)) (zab))))) (gName3 2)) (zIf (zbi (tE (zac zga (zaa (zbc (zb9 (eVar 2)) [none,some 0] (gName3 0) (za5) (zac ze9 (zaa (eVar 1) (zaa (eVar 0) (zab))))) (zab))))) (λ_ S=>some ("NoText",S)) (zed)))) [‹v›,some (.str z),none] S:=rfl
 unfold zhe
 by_cases h40:(pcs z " + ").length<=40
 ·rw [if_pos h40] at l1 l2 ⊢
  have s1:zak (zac zd7 (zaa (eVar 1) (zaa (eC (.str " + ")) (zaa (eC (.int 40)) (zab))))) (gName3 2) [‹v›,some (.str z),none] S=some (.nx,[‹v›,some (.str z),some (.ref S.length)],S++[.lst ((pcs z " + ").map D.str)]):=zcg (by rw [zbg ea];exact l1)
  rw [zbb s1] at hm
  rw [zhv (by rw [zeo ea];exact l2),zgj s1] at hq
  have g1:Gr S (S++[.lst ((pcs z " + ").map D.str)]):=⟨_,rfl⟩
  have hw:lstOf (S++[.lst ((pcs z " + ").map D.str)]) S.length=some ((pcs z " + ").map D.str):=za9
  generalize S++[.lst ((pcs z " + ").map D.str)]=S1 at *
  have him:zb9 (eVar 2) [‹v›,some (.str z),some (.ref S.length)] S1=some (itL S.length,((pcs z " + ").map D.str).length+1,S1):=by
   unfold zb9
   rw [zaj (d:=.ref S.length) rfl]
   show (lstOf S1 S.length).bind _=_
   rw [hw];rfl
  have key:=zlp (F:=zjc (λw=>some (zbd v w)) D.bl) (e:=zac ze9 (zaa (eVar 1) (zaa (eVar 0) (zab)))) (r:=zed) (ixs:=[none,some 0]) him (Gr.refl _) (λi S' g=>by show (lstOf S' S.length).bind _=_;rw [g.lst hw];rfl) (by rw [qlm];exact Nat.le_trans (show _<=41 by omega) (by decide)) (λx hx S' g=>by
   obtain ⟨w,hw',rfl⟩:=List.mem_map.mp hx
   obtain ⟨S2,k1,g2⟩:=yfo (v:=v) (p:=w) (S:=S') (by have:=zt4 hw';omega)
   have e1:zac ze9 (zaa (eVar 1) (zaa (eVar 0) (zab))) ((za8 [none,some 0] [‹v›,some (.str z),some (.ref S.length)]).set 0 (some (.str w)))=ze9 [.int (v:Int),.str w]:=by
    funext S;exact zbg (zcs (zaj rfl) (zaj rfl))
   rw [e1]
   exact ⟨S2,k1,g2,rfl⟩)
  rw [zii (F:=zjc (λw=>some (zbd v w)) D.bl) (f:=λw=>some (zbd v w)) (g:=D.str) (h:=D.bl) (λ_=>rfl),zkj (zbd v)] at key
  obtain ⟨S2,k1,g2,_⟩:=key.1 _ rfl
  rw [List.map_map] at k1
  have ta:zbi (tE (zac zga (zaa (zbc (zb9 (eVar 2)) [none,some 0] (gName3 0) (za5) (zac ze9 (zaa (eVar 1) (zaa (eVar 0) (zab))))) (zab)))) [‹v›,some (.str z),some (.ref S.length)] S1=some (!(pcs z " + ").all (zbd v),S2++[.lst ((pcs z " + ").map λx=>D.bl (zbd v x))]):=by
   unfold zbi tE
   rw [zub (g:=zbd v) (xs:=pcs z " + ") k1];rfl
  by_cases ok:(pcs z " + ").all (zbd v)=true
  ·rw [if_pos ok]
   rw [ok] at ta
   refine ⟨S2++[.lst ((pcs z " + ").map λx=>D.bl (zbd v x))],?_,g1.trans (g2.push _),?_⟩
   ·rw [hm,zbb (l':=[‹v›,some (.str z),some (.ref S.length)]) (S':=S2++[.lst ((pcs z " + ").map λx=>D.bl (zbd v x))]) (by rw [zd9 ta];rfl),zfb,zbg (zd3 (zaj rfl))]
    show (lstOf _ S.length).bind _=_
    rw [(g2.push _).lst hw];rfl
   ·rw [hq,zig ta];rfl
  ·rw [if_neg ok]
   rw [Bool.eq_false_iff.mpr ok] at ta
   refine ⟨?_,S2++[.lst ((pcs z " + ").map λx=>D.bl (zbd v x))],?_,g1.trans (g2.push _)⟩
   ·rw [hm,zfx (by rw [zd8 ta];rfl)];rfl
   ·rw [hq,zif ta]
 ·rw [if_neg h40] at l1 l2 ⊢
  refine ⟨?_,S++[.lst ((pcs z " + ").map D.str)],?_,⟨_,rfl⟩⟩
  ·rw [hm,zfx (zjb (by rw [zbg ea];exact l1))];rfl
  ·rw [hq,zhc (by rw [zeo ea];exact l2)]
theorem zue {x:D}{v:Int}{S:Sto}{T:String}(h:tyD S x=some T) (hT:isI T "str" = false):zfa [.int v,x] S=none/\zha [.int v,x] S=some (("NoText":Str),S):=by
 obtain ⟨h1,h2⟩:=zt6 (sep:=" + ") (k:=40) h hT
 have ea:zaa (eVar 1) (zaa (eC (.str " + ")) (zaa (eC (.int 40)) (zab))) [some (.int v),some x,none] S=some ([x,.str " + ",.int 40],S):=zij (zaj rfl) rfl rfl
 constructor
 ·unfold zfa zn4
  rw [zee (l:=[some (.int v),some x,none]) rfl,zfx (zjb (by rw [zbg ea];exact h1))];rfl
 ·show zn5 [some (.int v),some x,none] S=_
  unfold zn5
  rw [zhc (c:=("NoText",S)) (by rw [zeo ea];exact h2)]
theorem zlv (c:Nat) (j:Str):zhn ⟨#[c]⟩ j=decide (c∈j.cps.toList):=StrLaws.found_one j c
noncomputable def sF (g:Nat->Bool):D->Option D
 | .str z=>match z.cps.toList with
  | [c]=>if g c=true then some (.str z) else none
  | _=>none
 | _=>none
theorem yfp (g:Nat->Bool) (z:Str):(!((sgn z).filterMap (sF g)).isEmpty)=z.cps.toList.any g:=by
 unfold sgn
 generalize z.cps.toList=cs
 induction cs with
 | nil=>rfl
 | cons c cs ih =>
  rw [List.map_cons,List.any_cons]
  cases h:g c with
  | true =>
   rw [List.filterMap_cons_some (b:=.str ⟨#[c]⟩) (by simp [sF,h])];rfl
  | false =>
   rw [List.filterMap_cons_none (by simp [sF,h]),ih,Bool.false_or]
theorem zob {e0:EM}{ixs:List (Option Nat)}{t:TM}{l:Lo}{S:Sto}{z:Str}{g:Nat->Bool}(he:e0 l S=some (.str z,S)) (hz:z.length+2<=sizeLine) (h0:0<ixs.length)
  (step:∀c S',t ((za8 ixs l).set 0 (some (.str ⟨#[c]⟩))) S' = some (g c,S')):∃S',tE (eOp zer (zbc (zcd e0) ixs (gName3 0) t (eVar 0)) (zac za3 zab)) l S=some (z.cps.toList.any g,S')/\Gr S S':=by
 have hl:(sgn z).length<=sizeLine:=by rw [zi3];have:z.cps.size=z.length:=rfl;omega
 have key:We (zbc (zcd e0) ixs (gName3 0) t (eVar 0)) l S λv S'=>∃S1,v=.ref S1.length/\S' = S1++[Ob.lst ((sgn z).filterMap (sF g))]/\Gr S S1:=by
  refine znn (sgn z) (sF g) (λS'=>S' = S) (λl'=>∃y,l' = (za8 ixs l).set 0 y) (znw he) rfl ⟨(za8 ixs l)[0]?.join,?_⟩ (λi S _=>rfl) hl ?_ ?_
  ·apply List.ext_getElem?
   intro i
   by_cases hi:i=0
   ·subst hi
    have h1:0<(za8 ixs l).length:=by unfold za8;simpa using h0
    rw [List.getElem?_set_self h1,qge h1];rfl
   ·rw [List.getElem?_set_ne (Ne.symm hi)]
  ·rintro x l' S' hx ⟨y,rfl⟩ rfl
   unfold sgn at hx
   obtain ⟨c,_,rfl⟩:=List.mem_map.mp hx
   have e1:((za8 ixs l).set 0 y).set 0 (some (.str ⟨#[c]⟩))=(za8 ixs l).set 0 (some (.str ⟨#[c]⟩)):=List.set_set ..
   have h1:0<(za8 ixs l).length:=by unfold za8;simpa using h0
   rw [za6,e1]
   refine ⟨⟨_,rfl⟩,g c,S',step c S',rfl,λh=>by simp [sF,h],λh=>?_⟩
   rw [zar,List.getElem?_set_self h1]
   exact ⟨_,rfl,by simp [sF,h],rfl⟩
  ·rintro S' rfl
   exact ⟨S',rfl,rfl,Gr.refl _⟩
 obtain ⟨v,S',e1,S1,rfl,rfl,g1⟩:=key
 have e2:zac za3 zab l (S1++[Ob.lst ((sgn z).filterMap (sF g))])=some (.ref (S1.length+1),S1++[Ob.lst ((sgn z).filterMap (sF g))]++[Ob.lst []]):=by
  show (if 0<=sizeLine then some (D.ref (S1++[Ob.lst ((sgn z).filterMap (sF g))]).length,S1++[Ob.lst ((sgn z).filterMap (sF g))]++[Ob.lst []]) else none)=_
  rw [if_pos (Nat.zero_le _),qla];rfl
 have q1:(S1++[Ob.lst ((sgn z).filterMap (sF g))]++[Ob.lst []])[S1.length]? = some (Ob.lst ((sgn z).filterMap (sF g))):=by simp
 have q2:(S1++[Ob.lst ((sgn z).filterMap (sF g))]++[Ob.lst []])[S1.length+1]? = some (Ob.lst []):=by simp
 obtain ⟨v,S',e3,rfl,rfl⟩:Wo (zer (.ref S1.length) (.ref (S1.length+1)) (S1++[Ob.lst ((sgn z).filterMap (sF g))]++[Ob.lst []])) λv S'=>v=.bl (!((sgn z).filterMap (sF g)).isEmpty)/\S' = S1++[Ob.lst ((sgn z).filterMap (sF g))]++[Ob.lst []]:=by rw [zsd q1 q2];exact ⟨rfl,rfl⟩
 refine ⟨S1++[Ob.lst ((sgn z).filterMap (sF g))]++[Ob.lst []],?_,(g1.push _).push _⟩
 unfold tE eOp
 rw [e1]
 simp only [Option.bind_some,e2,e3,yfp]
noncomputable def zoc (a:Nat) (z:Str):Option (List Nat × List (Option Nat)):=match Txt.split z " " with
 | [x,y]=>if ((1<=x.length/\x.length<=12)/\y.length=x.length)/\(x.cps.toList.all λc=>decide (48<=c/\c<48+a))=true/\(y.cps.toList.all λc=>decide (c=45\/(48<=c/\c<56)))=true then some (x.cps.toList.map (· - 48),y.cps.toList.map λc=>if c=45 then none else some (c-48)) else none
 | _=>none
theorem zuf {n:Nat}:∀cs:List Nat,za7 (zch n) cs=if (cs.all λc=>decide (48<=c/\c<48+n))=true then some (cs.map (· - 48)) else none
 | []=>rfl
 | c :: cs=>by
  show (zch n c).bind (λv=>(za7 (zch n) cs).bind λvs=>some (v :: vs))=_
  rw [zuf cs,List.all_cons]
  unfold zch
  by_cases h:48<=c/\c<48+n
  ·rw [if_pos h,decide_eq_true h,Bool.true_and]
   show Option.bind (if (cs.all λc=>decide (48<=c/\c<48+n))=true then some (cs.map (· - 48)) else none) _=_
   by_cases h2:(cs.all λc=>decide (48<=c/\c<48+n))=true
   ·rw [if_pos h2,if_pos h2];rfl
   ·rw [if_neg h2,if_neg h2];rfl
  ·rw [if_neg h,decide_eq_false h,Bool.false_and];rfl
theorem zug:∀cs:List Nat,za7 zct cs=if (cs.all λc=>decide (c=45\/(48<=c/\c<56)))=true then some (cs.map λc=>if c=45 then none else some (c-48)) else none
 | []=>rfl
 | c :: cs=>by
  show (zct c).bind (λv=>(za7 zct cs).bind λvs=>some (v :: vs))=_
  rw [zug cs,List.all_cons,List.map_cons]
  have e:zct c=if c=45\/(48<=c/\c<56) then some (if c=45 then none else some (c-48)) else none:=by
   unfold zct zch
   by_cases h:c=45
   ·rw [if_pos h,if_pos (.inl h),if_pos h]
   ·rw [if_neg h]
    by_cases h2:48<=c/\c<48+8
    ·rw [if_pos h2,if_pos (.inr h2),if_neg h];rfl
    ·rw [if_neg h2,if_neg (λz=>z.elim h h2)];rfl
  rw [e]
  by_cases h:c=45\/(48<=c/\c<56)
  ·rw [if_pos h,decide_eq_true h,Bool.true_and]
   show Option.bind (if (cs.all λc=>decide (c=45\/(48<=c/\c<56)))=true then some (cs.map λc=>if c=45 then none else some (c-48)) else none) _=_
   by_cases h2:(cs.all λc=>decide (c=45\/(48<=c/\c<56)))=true
   ·rw [if_pos h2,if_pos h2];rfl
   ·rw [if_neg h2,if_neg h2];rfl
  ·rw [if_neg h,decide_eq_false h,Bool.false_and];rfl
theorem yfq (a:Nat) (z:Str):zoc a z=zcw a z:=by
 unfold zoc zcw
 split
 ·rename_i x y esp
  try rw [esp]
  try dsimp only
  have lx:x.length=x.cps.toList.length:=by simp [Str.length]
  have ly:y.length=y.cps.toList.length:=by simp [Str.length]
  unfold zhd
  by_cases h1:x = "-"
  ·have hd:x.cps.toList=[45]:=by subst h1;decide +kernel
   rw [if_pos h1,if_neg (λw=>by
    have:=w.2.1
    rw [hd] at this
    simp at this)]
   show none=(za7 zct y.cps.toList).bind λo=>if (1<=([]:List Nat).length/\([]:List Nat).length<=12)/\o.length=([]:List Nat).length then some ([],o) else none
   cases za7 zct y.cps.toList with
   | none=>rfl
   | some o =>
    show none=if (1<=([]:List Nat).length/\([]:List Nat).length<=12)/\o.length=([]:List Nat).length then some ([],o) else none
    rw [if_neg (λw=>by have:=w.1.1;simp at this)]
  ·rw [if_neg h1]
   by_cases h2:x = ""
   ·have hd:x.length=0:=by subst h2;decide +kernel
    rw [if_pos h2,if_neg (λw=>by have:=w.1.1.1;omega)]
    rfl
   ·rw [if_neg h2,zuf,zug]
    by_cases c1:(x.cps.toList.all λc=>decide (48<=c/\c<48+a))=true
    ·rw [if_pos c1]
     by_cases c2:(y.cps.toList.all λc=>decide (c=45\/(48<=c/\c<56)))=true
     ·rw [if_pos c2]
      show _=if (1<=(x.cps.toList.map (· - 48)).length/\(x.cps.toList.map (· - 48)).length<=12)/\(y.cps.toList.map λc=>if c=45 then none else some (c-48)).length=(x.cps.toList.map (· - 48)).length then some (x.cps.toList.map (· - 48),y.cps.toList.map λc=>if c=45 then none else some (c-48)) else none
      rw [qlm,qlm,<-lx,<-ly]
      by_cases c3:(1<=x.length/\x.length<=12)/\y.length=x.length
      ·rw [if_pos c3,if_pos ⟨c3,c1,c2⟩]
      ·rw [if_neg c3,if_neg (λw=>c3 w.1)]
     ·rw [if_neg c2,if_neg (λw=>c2 w.2.2)];rfl
    ·rw [if_neg c1,if_neg (λw=>c1 w.2.1)];rfl
 ·rename_i h
  first
   | rfl
   | (split
      ·rename_i x y e
       exact absurd e (h x y)
      ·rfl)
noncomputable def dgS (a:Nat):Str:=Txt.slice "0123" none (some (a:Int))
theorem yfr:∀a:Fin 6,(dgS a.val).cps.toList=(List.range (min a.val 4)).map (48 + ·):=by decide +kernel
theorem yfs {a:Nat}(ha:a<=5) (c:Nat):c∈(dgS a).cps.toList↔48<=c/\c<48+min a 4:=by
 rw [show (dgS a).cps.toList=(List.range (min a 4)).map (48 + ·) from yfr ⟨a,by omega⟩]
 simp only [List.mem_map,List.mem_range]
 constructor
 ·rintro ⟨k,h,rfl⟩;omega
 ·intro h;exact ⟨c-48,by omega,by omega⟩
noncomputable def an8:Str:="01234567-"
theorem yft:an8.cps.toList=[48,49,50,51,52,53,54,55,45]:=by decide +kernel
theorem yfu (c:Nat):c∈an8.cps.toList↔c=45\/(48<=c/\c<56):=by
 rw [yft];simp;omega
theorem yfv {e:EM}{l:Lo}{n:Nat}{S:Sto}(h:e l S=some (.int (n:Int),S)):zbi (tE (zf2 dLe dLe (eC (.int 1)) e (eC (.int 12)))) l S=some (!decide (1<=n/\n<=12),S):=by
 unfold zbi tE zf2
 show Option.bind (Option.bind (Option.bind (e l S) _) _) _=_
 rw [h]
 by_cases c1:(1:Int)<=(n:Int)
 ·by_cases c2:(n:Int)<=12
  ·have:1<=n/\n<=12:=by omega
   simp only [dLe,oI0,Option.bind_some,decide_eq_true c1,decide_eq_true c2,decide_eq_true this,eC,if_true]
  ·have:¬(1<=n/\n<=12):=by omega
   simp only [dLe,oI0,Option.bind_some,decide_eq_true c1,decide_eq_false c2,decide_eq_false this,eC,if_true]
 ·have:¬(1<=n/\n<=12):=by omega
  simp only [dLe,oI0,Option.bind_some,decide_eq_false c1,decide_eq_false this,eC,qbf,if_false]
theorem zlw {t u:TM}{l:Lo}{S:Sto}(h:t l S=some (true,S)):zca t u l S=some (true,S):=by unfold zca;rw [h];rfl
theorem zkk {t u:TM}{l:Lo}{S:Sto}(h:t l S=some (false,S)):zca t u l S=u l S:=by unfold zca;rw [h];rfl
theorem yfw:∀k:Fin 8,intText? ⟨#[48+k.val]⟩=some ((k.val:Nat):Int):=by decide +kernel
theorem yfx {c:Nat}(h:48<=c/\c<56):intText? ⟨#[c]⟩=some (((c-48:Nat)):Int):=by
 have:=yfw ⟨c-48,by omega⟩
 rw [show 48+(⟨c-48,by omega⟩:Fin 8).val=c from by show 48+(c-48)=c;omega] at this
 exact this
theorem zuh {e:EM}{l:Lo}{S:Sto}{c:Nat}(he:e l S=some (.str ⟨#[c]⟩,S)) (h:48<=c/\c<56):zac zgc (zaa e zab) l S=some (nD (c-48),S):=by
 rw [zbg (zd3 he)]
 show (intText? ⟨#[c]⟩).bind _=_
 rw [yfx h]
 simp only [Option.bind_some]
 rw [if_pos (by show 1<=640;decide)];rfl
noncomputable def zfc (a:Nat) (z:Str):D:=match Txt.split z " " with
 | [x,y]=>if ((1<=x.length/\x.length<=12)/\y.length=x.length)/\(x.cps.toList.all λc=>decide (48<=c/\c<48+min a 4))=true/\(y.cps.toList.all λc=>decide (c=45\/(48<=c/\c<56)))=true then tD (x.cps.toList.map (· - 48),y.cps.toList.map λc=>if c=45 then none else some (c-48)) else .non
 | _=>.non
theorem yfy {a:Nat}(ha:a<=4) (z:Str):zfc a z=match zcw a z with|some r=>tD r|none=>.non:=by
 rw [<-yfq]
 unfold zfc zoc
 rw [show min a 4=a from by omega]
 generalize Txt.split z " " = ws
 match ws with
 | [x,y] =>
  dsimp only
  by_cases h:((1<=x.length/\x.length<=12)/\y.length=x.length)/\(x.cps.toList.all λc=>decide (48<=c/\c<48+a))=true/\(y.cps.toList.all λc=>decide (c=45\/(48<=c/\c<56)))=true
  ·rw [if_pos h,if_pos h]
  ·rw [if_neg h,if_neg h]
 | []=>rfl
 | [_]=>rfl
 | _ :: _ :: _ :: _=>rfl
theorem zod {α:Type}(p:α->Bool) (cs:List α):cs.any (λc=>!p c) = !cs.all p:=by
 induction cs with
 | nil=>rfl
 | cons c cs ih=>rw [List.any_cons,List.all_cons,ih,Bool.not_and]
theorem yfz {l:Lo}{S:Sto}{n a:Nat}{x y:Str}(ha:a<=5) (h0:l[0]? = some (some (.int (a:Int)))) (h2:l[2]? = some (some (.ref n))) (hl:lstOf S n=some [.str x,.str y]) (hz:x.length+2<=sizeLine) :
  ∃S',tE (eOp zer (zbc (zcd (eOp zav (eVar 2) (eC (.int 0)))) [none,some 0] (gName3 0) (tE (eOp (zev true) (eVar 0) (zbk (eC (.str "0123")) (zb4) (zbf (eVar 1))))) (eVar 0)) (zac za3 (zab))) l S=some (!(x.cps.toList.all λc=>decide (48<=c/\c<48+min a 4)),S')/\Gr S S':=by
 have key:=zob (g:=λc=>!decide (48<=c/\c<48+min a 4)) (t:=tE (eOp (zev true) (eVar 0) (zbk (eC (.str "0123")) (zb4) (zbf (eVar 1))))) (ixs:=[none,some 0]) (zhw (j:=0) h2 hl rfl) hz (by decide) (λc S'=>by
  have hs:(za8 [none,some 0] l).set 0 (some (.str ⟨#[c]⟩))=[some (.str ⟨#[c]⟩),‹a›]:=by
   unfold za8;simp [h0]
  rw [hs]
  have e:zbk (eC (.str "0123")) (zb4) (zbf (eVar 1)) [some (.str ⟨#[c]⟩),‹a›] S' = some (.str (dgS a),S'):=by
   have e1:∀S,eVar 1 [some (.str ⟨#[c]⟩),‹a›] S=some (.int (a:Int),S):=λS=>zaj rfl
   have e2:("0123":Str).length<=sizeLine:=by decide +kernel
   simp only [zbk,zbf,zb4,eC,Option.bind_some,e1,e2,if_true];rfl
  unfold tE eOp
  rw [zaj (d:=.str ⟨#[c]⟩) rfl]
  simp only [Option.bind_some,e]
  show some (!(zhn ⟨#[c]⟩ (dgS a)),S')=_
  rw [zlv,decide_eq_decide.mpr (yfs ha c)])
 rw [zod] at key
 exact key
theorem yf0 {l:Lo}{S:Sto}{n:Nat}{x y:Str}(h2:l[2]? = some (some (.ref n))) (hl:lstOf S n=some [.str x,.str y]) (hz:y.length+2<=sizeLine) :
  ∃S',tE (eOp zer (zbc (zcd (eOp zav (eVar 2) (eC (.int 1)))) [none] (gName3 0) (tE (eOp (zev true) (eVar 0) (eC (.str "01234567-")))) (eVar 0)) (zac za3 (zab))) l S=some (!(y.cps.toList.all λc=>decide (c=45\/(48<=c/\c<56))),S')/\Gr S S':=by
 have key:=zob (g:=λc=>!decide (c=45\/(48<=c/\c<56))) (t:=tE (eOp (zev true) (eVar 0) (eC (.str "01234567-")))) (ixs:=[none]) (zhw (j:=1) h2 hl rfl) hz (by decide) (λc S'=>by
  unfold tE eOp
  rw [zaj (d:=.str ⟨#[c]⟩) rfl]
  show some (!(zhn ⟨#[c]⟩ an8),S')=_
  rw [zlv,decide_eq_decide.mpr (yfu c)])
 rw [zod] at key
 exact key
noncomputable def pv (c:Nat):Option Nat:=if c=45 then none else some (c-48)
noncomputable def zui:SM:=zdq (zfg ze6 (eVar 3) (zaa (zeq (tE (eOp dEq (eVar 4) (eC (.str "-")))) (eC .non) (zac zgc (zaa (eVar 4) (zab)))) zab))
theorem yf1 {l:Lo}{S:Sto}{n:Nat}{xs:List D}{v:D}{as:AM}(h3:l[3]? = some (some (.ref n))) (hs:S[n]? = some (.lst xs)) (ha:as l S=some ([v],S)) (hz:xs.length<sizeLine):zdq (zfg ze6 (eVar 3) as) l S=some (.nx,l,S.set n (.lst (xs++[v]))):=by
 have e1:zix (.ref n) S=some xs:=zcf hs
 have e2:ze6 (.ref n) [v] S=some (.non,S.set n (.lst (xs++[v]))):=by unfold ze6;simp only [hs,hz,if_true]
 unfold zdq zfg
 rw [zaj h3]
 simp only [Option.bind_some,e1,ha,e2]
theorem yf2 {S:Sto}{n a:Nat}{z x y:Str}(hw:lstOf S n=some [.str x,.str y]) (hy:y.length+2<=sizeLine) (ok:(y.cps.toList.all λc=>decide (c=45\/(48<=c/\c<56)))=true) :
  Ws (zj2 (zcd (eOp zav (eVar 2) (eC (.int 1)))) (gName3 4) zui) [‹a›,some (.str z),~~~n,some (.ref S.length),none] (S++[.lst []]) λf l S'=>f=.nx/\S' = S++[.lst (y.cps.toList.map λc=>oD (pv c))]/\∃w,l=[‹a›,some (.str z),~~~n,some (.ref S.length),w]:=by
 have g0:Gr S (S++[.lst []]):=⟨_,rfl⟩
 have hl:(sgn y).length<=sizeLine:=by rw [zi3];have:y.cps.size=y.length:=rfl;omega
 have sl:(sgn y).length=y.cps.toList.length:=by unfold sgn;simp
 refine ydi (sgn y) (λi l S'=>S' = S++[.lst ((y.cps.toList.take i).map λc=>oD (pv c))]/\i<=y.cps.toList.length/\∃w,l=[‹a›,some (.str z),~~~n,some (.ref S.length),w]) (λ_ _=>False) (znw (zhw (j:=1) rfl (g0.lst hw) rfl)) ⟨rfl,Nat.zero_le _,_,rfl⟩ (λi l S _=>rfl) ?_ ?_ (λd l' S' q=>q.elim)
 ·rintro i w l S' hx ⟨rfl,hi,w0,rfl⟩
  unfold sgn at hx
  rw [qgm] at hx
  obtain ⟨c,hc,rfl⟩:=Option.map_eq_some_iff.mp hx
  have hok:c=45\/(48<=c/\c<56):=by
   have:=List.all_eq_true.mp ok c (qmg hc)
   simpa using this
  have hil:i<y.cps.toList.length:=(qme hc).1
  have ev:zeq (tE (eOp dEq (eVar 4) (eC (.str "-")))) (eC .non) (zac zgc (zaa (eVar 4) (zab))) [‹a›,some (.str z),~~~n,some (.ref S.length),some (.str ⟨#[c]⟩)] (S++[.lst ((y.cps.toList.take i).map λc=>oD (pv c))])=some (oD (pv c),S++[.lst ((y.cps.toList.take i).map λc=>oD (pv c))]):=by
   unfold zeq
   rw [zhu (zaj rfl)]
   by_cases h:c=45
   ·rw [decide_eq_true ((zkf c).mpr h)]
    have:pv c=none:=by unfold pv;rw [if_pos h]
    rw [this];rfl
   ·rw [decide_eq_false (λw=>h ((zkf c).mp w))]
    have:pv c=some (c-48):=by unfold pv;rw [if_neg h]
    rw [this]
    simp only [Option.bind_some,qbf,if_false]
    rw [zuh (c:=c) (zaj rfl) (hok.resolve_left h)];rfl
  have hs:(S++[Ob.lst ((y.cps.toList.take i).map λc=>oD (pv c))])[S.length]? = some (.lst ((y.cps.toList.take i).map λc=>oD (pv c))):=by simp
  have hset:(S++[Ob.lst ((y.cps.toList.take i).map λc=>oD (pv c))]).set S.length (.lst ((y.cps.toList.take i).map (λc=>oD (pv c))++[oD (pv c)]))=S++[.lst ((y.cps.toList.take (i+1)).map λc=>oD (pv c))]:=by
   rw [List.set_append_right _ _ (qlr _),Nat.sub_self,List.take_add_one,hc,List.map_append];rfl
  have hz:((y.cps.toList.take i).map λc=>oD (pv c)).length<sizeLine:=by rw [qlm,List.length_take];have:y.length=y.cps.toList.length:=(by simp [Str.length]);omega
  rw [za6]
  refine ⟨.nx,_,_,yf1 rfl hs (zd3 ev) hz,.inl ⟨.inl rfl,hset,by omega,_,rfl⟩⟩
 ·rintro l S' ⟨rfl,hi,w,rfl⟩
  rw [sl,List.take_length]
  exact ⟨rfl,rfl,w,rfl⟩
theorem yf3 {a:Nat}{z:Str}{S:Sto}(ha:a<=5) (hz:z.length+2<=sizeLine):∃S',zhq [.int (a:Int),.str z] S=some (zfc a z,S')/\Gr S S':=by
 have s1:zak (zbt zei (eVar 1) (zaa (eC (.str " ")) zab)) (gName3 2) [‹a›,some (.str z),none,none,none] S=some (.nx,[‹a›,some (.str z),some (.ref S.length),none,none],S++[.lst ((Txt.split z " ").map D.str)]):=zcg (zlt (zaj rfl) zt2 hz)
 have g1:Gr S (S++[.lst ((Txt.split z " ").map D.str)]):=⟨_,rfl⟩
 have hw:lstOf (S++[.lst ((Txt.split z " ").map D.str)]) S.length=some ((Txt.split z " ").map D.str):=za9
 have pl:∀w∈Txt.split z " ",w.length+2<=sizeLine:=λw h=>by have:=zkg h;omega
 have tl:tE (eOp dNe (zac zax (zaa (eVar 2) (zab))) (eC (.int 2))) [‹a›,some (.str z),some (.ref S.length),none,none] (S++[.lst ((Txt.split z " ").map D.str)])=some (!decide (((Txt.split z " ").length:Int)=2),S++[.lst ((Txt.split z " ").map D.str)]):=by
  have:=ne_int (zkh (l:=[‹a›,some (.str z),some (.ref S.length),none,none]) (e:=eVar 2) (S:=S++[.lst ((Txt.split z " ").map D.str)]) (zaj rfl) hw) (f:=eC (.int 2)) rfl
  rw [qlm] at this
  exact this
 generalize hS1:S++[.lst ((Txt.split z " ").map D.str)]=S1 at *
 have non:∀{t:TM} {b:SM} {S':Sto},t [‹a›,some (.str z),some (.ref S.length),none,none] S1=some (true,S')->zah (sIf t (sRet (eC .non)) (zaq)) b [‹a›,some (.str z),some (.ref S.length),none,none] S1=some (.rt .non,[‹a›,some (.str z),some (.ref S.length),none,none],S'):=λh=>zfw (by rw [zd8 h];rfl)
 unfold zhq zsw
 rw [zee (l:=[‹a›,some (.str z),none,none,none]) rfl,zbb s1]
 by_cases h2:(Txt.split z " ").length=2
 ·rw [decide_eq_true (show ((Txt.split z " ").length:Int)=2 by omega)] at tl
  obtain ⟨x,y,hxy⟩:∃x y,Txt.split z " " = [x,y]:=by
   cases q:Txt.split z " " with
   | nil=>rw [q] at h2;cases h2
   | cons x r =>
    cases r with
    | nil=>rw [q] at h2;cases h2
    | cons y r =>
     cases r with
     | nil=>exact ⟨x,y,rfl⟩
     | cons _ _=>rw [q] at h2;simp at h2
  have px:=pl x (by rw [hxy];simp)
  have py:=pl y (by rw [hxy];simp)
  unfold zfc
  rw [hxy] at hw ⊢
  dsimp only
  have lx:zac zax (zaa (eOp zav (eVar 2) (eC (.int 0))) (zab)) [‹a›,some (.str z),some (.ref S.length),none,none] S1=some (.int (x.length:Int),S1):=len_str (zhw (j:=0) rfl hw rfl) (by omega)
  have ly:zac zax (zaa (eOp zav (eVar 2) (eC (.int 1))) (zab)) [‹a›,some (.str z),some (.ref S.length),none,none] S1=some (.int (y.length:Int),S1):=len_str (zhw (j:=1) rfl hw rfl) (by omega)
  have c1:=yfv lx
  have c2:=ne_int ly lx
  have tt:zca (tE (eOp dNe (zac zax (zaa (eVar 2) (zab))) (eC (.int 2)))) (zca (zbi (tE (zf2 dLe dLe (eC (.int 1)) (zac zax (zaa (eOp zav (eVar 2) (eC (.int 0))) (zab))) (eC (.int 12))))) (tE (eOp dNe (zac zax (zaa (eOp zav (eVar 2) (eC (.int 1))) (zab))) (zac zax (zaa (eOp zav (eVar 2) (eC (.int 0))) (zab)))))) [‹a›,some (.str z),some (.ref S.length),none,none] S1=some (!decide ((1<=x.length/\x.length<=12)/\y.length=x.length),S1):=by
   rw [zkk tl]
   by_cases d1:1<=x.length/\x.length<=12
   ·rw [decide_eq_true d1] at c1
    rw [zkk c1,c2]
    by_cases d2:y.length=x.length
    ·rw [decide_eq_true (show (y.length:Int)=x.length by omega),decide_eq_true (⟨d1,d2⟩:(1<=x.length/\x.length<=12)/\y.length=x.length)]
    ·rw [decide_eq_false (show ¬(y.length:Int)=x.length by omega),decide_eq_false (λw:(1<=x.length/\x.length<=12)/\y.length=x.length=>d2 w.2)]
   ·rw [decide_eq_false d1] at c1
    rw [zlw c1,decide_eq_false (λw:(1<=x.length/\x.length<=12)/\y.length=x.length=>d1 w.1)];rfl
  by_cases d:(1<=x.length/\x.length<=12)/\y.length=x.length
  ·rw [decide_eq_true d] at tt
   rw [zbb (l':=[‹a›,some (.str z),some (.ref S.length),none,none]) (S':=S1) (by rw [zd9 tt];rfl)]
   obtain ⟨S2,t3,g3⟩:=yfz (l:=[‹a›,some (.str z),some (.ref S.length),none,none]) (S:=S1) (x:=x) (y:=y) ha rfl rfl hw px
   by_cases dx:(x.cps.toList.all λc=>decide (48<=c/\c<48+min a 4))=true
   ·rw [dx] at t3
    rw [zbb (l':=[‹a›,some (.str z),some (.ref S.length),none,none]) (S':=S2) (by rw [zd9 t3];rfl)]
    obtain ⟨S3,t4,g4⟩:=yf0 (l:=[‹a›,some (.str z),some (.ref S.length),none,none]) (S:=S2) (x:=x) (y:=y) rfl (g3.lst hw) py
    by_cases dy:(y.cps.toList.all λc=>decide (c=45\/(48<=c/\c<56)))=true
    ·rw [dy] at t4
     rw [zbb (l':=[‹a›,some (.str z),some (.ref S.length),none,none]) (S':=S3) (by rw [zd9 t4];rfl)]
     rw [if_pos ⟨d,dx,dy⟩]
     have s5:zak (zac za3 (zab)) (gName3 3) [‹a›,some (.str z),some (.ref S.length),none,none] S3=some (.nx,[‹a›,some (.str z),some (.ref S.length),some (.ref S3.length),none],S3++[.lst []]):=zcg (by show (if 0<=sizeLine then some (D.ref S3.length,S3++[.lst []]) else none)=_;rw [if_pos (Nat.zero_le _)])
     rw [zbb s5]
     have hw3:=g4.lst (g3.lst hw)
     obtain ⟨f,l6,S6,e6,rfl,rfl,w,rfl⟩:=yf2 (S:=S3) (n:=S.length) (a:=a) (z:=z) (x:=x) (y:=y) hw3 py dy
     have e6':=e6
     unfold zui at e6'
     rw [zbb e6',zfb]
     have g6:Gr S3 (S3++[.lst (y.cps.toList.map λc=>oD (pv c))]):=⟨_,rfl⟩
     have key:=zls (e:=zac zgc (zaa (eVar 0) (zab))) (r:=zed) (ixs:=[none]) (l:=[‹a›,some (.str z),some (.ref S.length),some (.ref S3.length),w]) (S:=S3++[.lst (y.cps.toList.map λc=>oD (pv c))]) (S1:=S3++[.lst (y.cps.toList.map λc=>oD (pv c))]) (z:=x) (e0:=eOp zav (eVar 2) (eC (.int 0))) (f:=λc=>some (nD (c-48))) (zhw (j:=0) rfl (g6.lst hw3) rfl) (Gr.refl _) px (λc hc S' g=>by
      have hd:=List.all_eq_true.mp dx c hc
      have hd:48<=c/\c<56:=by simp at hd;omega
      exact ⟨S',zuh (c:=c) (zaj rfl) hd,Gr.refl _,rfl⟩)
     rw [zkj (λc=>nD (c-48))] at key
     obtain ⟨S7,k1,g7,_⟩:=key.1 _ rfl
     have g8:=g6.trans (g7.push (.lst (x.cps.toList.map λc=>nD (c-48))))
     have e8:zac zc9 (zaa (eVar 3) (zab)) [‹a›,some (.str z),some (.ref S.length),some (.ref S3.length),w] (S7++[.lst (x.cps.toList.map λc=>nD (c-48))])=some (.tup (y.cps.toList.map λc=>oD (pv c)),S7++[.lst (x.cps.toList.map λc=>nD (c-48))]):=by
      rw [zbg (zd3 (zaj rfl))]
      show (lstOf _ S3.length).bind _=_
      rw [(g7.push _).lst za9];rfl
     rw [zbg (zcs (zn9 k1) e8)]
     refine ⟨S7++[.lst (x.cps.toList.map λc=>nD (c-48))],?_,g1.trans (g3.trans (g4.trans g8))⟩
     show (if 2<=sizeLine then _ else _)=_
     rw [if_pos (by decide)]
     unfold tD wD aD
     rw [List.map_map,List.map_map];rfl
    ·rw [Bool.eq_false_iff.mpr dy] at t4
     rw [if_neg (λw=>dy w.2.2)]
     refine ⟨S3,?_,g1.trans (g3.trans g4)⟩
     rw [zfw (l':=[‹a›,some (.str z),some (.ref S.length),none,none]) (d:=.non) (S':=S3) (by rw [zd8 t4];rfl)];rfl
   ·rw [Bool.eq_false_iff.mpr dx] at t3
    rw [if_neg (λw=>dx w.2.1)]
    refine ⟨S2,?_,g1.trans g3⟩
    rw [non t3];rfl
  ·rw [decide_eq_false d] at tt
   rw [if_neg (λw=>d w.1)]
   refine ⟨S1,?_,g1⟩
   rw [non tt];rfl
 ·rw [decide_eq_false (show ¬((Txt.split z " ").length:Int)=2 by omega)] at tl
  have hn:zfc a z=.non:=by
   unfold zfc
   cases q:Txt.split z " " with
   | nil=>rfl
   | cons x r =>
    cases r with
    | nil=>rfl
    | cons y r =>
     cases r with
     | nil=>rw [q] at h2;exact absurd rfl h2
     | cons _ _=>rfl
  rw [hn]
  refine ⟨S1,?_,g1⟩
  rw [non (zlw tl)];rfl
theorem zhx {α:Type}{S:Sto}{k:Nat}{f:α->D}{p:α->PyData}:∀xs:List α,(∀x∈xs,zap S k (f x)=some (p x))->pyAll S k (xs.map f)=some (xs.map p)
 | [],_=>by unfold pyAll;rfl
 | x :: xs,h=>by
  rw [List.map_cons,pyAll,h x List.mem_cons_self,zhx xs λy hy=>h y (List.mem_cons_of_mem _ hy)];rfl
noncomputable def pO:Option Nat->PyData
 | none=>.none
 | some k=>.int (k:Int)
theorem zuj {S:Sto}{k n:Nat}(h:n<1000):zap S (k+1) (nD n)=some (.int (n:Int)):=by
 unfold nD zap
 rw [if_pos (zll (by omega))]
theorem yf4 {S:Sto}{k:Nat}{g:Option Nat}(h:∀j,g=some j->j<1000):zap S (k+1) (oD g)=some (pO g):=by
 cases g with
 | none=>unfold oD zap;rfl
 | some j=>exact zuj (h j rfl)
def Sml (r:List Nat × List (Option Nat)):Prop:=(∀a∈r.1,a<1000)/\∀g∈r.2,∀j,g=some j->j<1000
noncomputable def pT (r:List Nat × List (Option Nat)):PyData:=.tuple [.tuple (r.1.map λa=>PyData.int ((a:Nat):Int)),.tuple (r.2.map pO)]
theorem zoe {S:Sto}{k:Nat}{r:List Nat × List (Option Nat)}(h:Sml r):zap S (k+3) (tD r)=some (pT r):=by
 have h1:zap S (k+2) (wD r.1)=some (.tuple (r.1.map λa=>PyData.int ((a:Nat):Int))):=by
  unfold wD;rw [zap,zhx r.1 λa ha=>zuj (h.1 a ha)];rfl
 have h2:zap S (k+2) (aD r.2)=some (.tuple (r.2.map pO)):=by
  unfold aD;rw [zap,zhx r.2 λg hg=>yf4 (h.2 g hg)];rfl
 unfold tD
 rw [zap]
 show (pyAll S (k+2) [wD r.1,aD r.2]).bind _=_
 rw [pyAll,h1,pyAll,h2,pyAll];rfl
theorem zjd {α:Type}{p:α->PyData}:∀xs:List α,(∀x∈xs,(p x).canLay0=true)->PyData.canLayAll0 (xs.map p)=true
 | [],_=>by unfold PyData.canLayAll0;rfl
 | x :: xs,h=>by
  rw [List.map_cons,PyData.canLayAll0,h x List.mem_cons_self,zjd xs λy hy=>h y (List.mem_cons_of_mem _ hy)];rfl
theorem yf5 (g:Option Nat):(pO g).canLay0=true:=by
 cases g <;> (unfold pO PyData.canLay0;rfl)
theorem zuk (r:List Nat × List (Option Nat)):(pT r).canLay0=true:=by
 have h1:(PyData.tuple (r.1.map λa=>PyData.int ((a:Nat):Int))).canLay0=true:=by
  unfold PyData.canLay0;exact zjd r.1 λa _=>by unfold PyData.canLay0;rfl
 have h2:(PyData.tuple (r.2.map pO)).canLay0=true:=by
  unfold PyData.canLay0;exact zjd r.2 λg _=>yf5 g
 unfold pT PyData.canLay0
 rw [PyData.canLayAll0,h1,PyData.canLayAll0,h2,PyData.canLayAll0];rfl
noncomputable def vO:Option (List Nat × List (Option Nat))->D
 | some r=>tD r
 | none=>.non
noncomputable def pV:Option (List Nat × List (Option Nat))->PyData
 | some r=>pT r
 | none=>.none
theorem yf6 (r:Option (List Nat × List (Option Nat))):(pV r).eqv .none=r.isNone:=by
 cases r with
 | none=>decide
 | some r=>unfold pV pT;rfl
theorem yf7 {S:Sto}{n:Nat}{rs:List (Option (List Nat × List (Option Nat)))}(h:lstOf S n=some (rs.map vO)) (sm:∀r∈rs,∀q,r=some q->Sml q):zi7 false .non (.ref n) S=some (.bl (rs.any Option.isNone),S):=by
 have h1:pyAll S 60 (rs.map vO)=some (rs.map pV):=zhx rs λr hr=>by
  cases r with
  | none=>unfold vO zap;rfl
  | some q=>exact zoe (k:=57) (sm _ hr q rfl)
 have h2:PyData.canLayAll0 (rs.map pV)=true:=zjd rs λr _=>by
  cases r with
  | none=>unfold pV PyData.canLay0;rfl
  | some q=>exact zuk q
 have h3:zap S 60 .non=some .none:=by unfold zap;rfl
 show (lstOf S n).bind _=_
 rw [h]
 simp only [Option.bind_some,h3,h1,h2]
 rw [if_pos ⟨by unfold PyData.canLay0;rfl,trivial⟩]
 have h4:(rs.map pV).any (λq=>q.eqv .none)=rs.any Option.isNone:=by
  rw [List.any_map]
  congr 1
  funext r
  exact yf6 r
 rw [h4];rfl
theorem zul {n c k:Nat}(h:zch n c=some k):k<n:=by
 unfold zch at h
 split at h
 ·cases h;omega
 ·cases h
theorem zlx {α β:Type}{F:α->Option β}:∀{ys:List α}{vs:List β},za7 F ys=some vs->∀v∈vs,∃y∈ys,F y=some v
 | [],vs,h,v,hv=>by cases h;cases hv
 | y :: ys,vs,h,v,hv=>by
  obtain ⟨w,h1,h⟩:=bnd h
  obtain ⟨ws,h2,h⟩:=bnd h
  cases h
  rcases List.mem_cons.mp hv with rfl|hv
  ·exact ⟨y,List.mem_cons_self,h1⟩
  ·obtain ⟨y',hy,e⟩:=zlx h2 v hv
   exact ⟨y',List.mem_cons_of_mem _ hy,e⟩
structure OkT (a:Nat) (r:List Nat × List (Option Nat)):Prop where
 l1:1<=r.1.length
 l12:r.1.length<=12
 ll:r.2.length=r.1.length
 as:∀k∈r.1,k<a
 os:∀g∈r.2,∀j,g=some j->j<8
theorem OkT.sml {a:Nat}{r:List Nat × List (Option Nat)}(h:OkT a r) (ha:a<=1000):Sml r:=⟨λk hk=>Nat.lt_of_lt_of_le (h.as k hk) ha,λg hg j e=>Nat.lt_trans (h.os g hg j e) (by decide)⟩
theorem zum {a:Nat}{z:Str}{r:List Nat × List (Option Nat)}(h:zcw a z=some r):OkT a r:=by
 unfold zcw at h
 split at h
 ·rename_i x y _
  obtain ⟨q,h1,h⟩:=bnd h
  obtain ⟨o,h2,h⟩:=bnd h
  obtain ⟨⟨⟨c1,c2⟩,c3⟩,h⟩:=zb3 h
  subst h
  refine ⟨c1,c2,c3,λk hk=>?_,λg hg j e=>?_⟩
  ·unfold zhd at h1
   split at h1
   ·cases h1;cases hk
   ·split at h1
    ·cases h1
    ·obtain ⟨c,_,hc⟩:=zlx h1 k hk
     exact zul hc
  ·obtain ⟨c,_,hc⟩:=zlx h2 g hg
   subst e
   unfold zct at hc
   split at hc
   ·cases hc
   ·obtain ⟨w,hw,e⟩:=Option.map_eq_some_iff.mp hc
    cases e
    exact zul hw
 ·cases h
theorem zof {α β:Type}(F:α->Option β):∀ys:List α,(ys.map F).any Option.isNone=(za7 F ys).isNone
 | []=>rfl
 | y :: ys=>by
  rw [List.map_cons,List.any_cons,zof F ys]
  show ((F y).isNone || (za7 F ys).isNone)=((F y).bind λv=>(za7 F ys).bind λvs=>some (v :: vs)).isNone
  cases F y with
  | none=>rfl
  | some v=>cases za7 F ys <;> rfl
theorem zun {α β:Type}{F:α->Option β}:∀{ys:List α}{vs:List β},za7 F ys=some vs->ys.map F=vs.map some
 | [],vs,h=>by cases h;rfl
 | y :: ys,vs,h=>by
  obtain ⟨w,h1,h⟩:=bnd h
  obtain ⟨ws,h2,h⟩:=bnd h
  cases h
  rw [List.map_cons,List.map_cons,h1,zun h2]
theorem zuo (x y:Str):(Txt.split x y).length<=x.length+2:=by
 unfold Txt.split
 split
 ·simp
 ·split
  ·simp
  ·have h1:=StrLaws.occ_length_le x y 0 x.length (x.length+1)
   rw [length_partsBetween]
   omega
theorem zup (a:Nat) (z:Str):∃r,zfc a z=vO r/\(a<=4->r=zcw a z)/\∀q,r=some q->Sml q:=by
 by_cases ha:a<=4
 ·refine ⟨zcw a z,?_,λ_=>rfl,λq h=>(zum h).sml (by omega)⟩
  rw [yfy ha]
  cases zcw a z <;> rfl
 ·unfold zfc
  split
  ·rename_i x y _
   split
   ·rename_i h
    refine ⟨some _,rfl,λz=>absurd z ha,λq e=>?_⟩
    cases e
    refine ⟨λk hk=>?_,λg hg j e=>?_⟩
    ·obtain ⟨c,hc,rfl⟩:=List.mem_map.mp hk
     have:=List.all_eq_true.mp h.2.1 c hc
     simp at this
     show c-48<1000
     omega
    ·obtain ⟨c,hc,rfl⟩:=List.mem_map.mp hg
     have:=List.all_eq_true.mp h.2.2 c hc
     simp at this
     split at e
     ·cases e
     ·cases e;omega
   ·exact ⟨none,rfl,λz=>absurd z ha,λq e=>by cases e⟩
  ·exact ⟨none,rfl,λz=>absurd z ha,λq e=>by cases e⟩
theorem zuq {a:Nat}{z:Str}{S:Sto}(ha:a<=5) (hz:z.length+10<=sizeLine):∃v S',zi9 [.int (a:Int),.str z] S=some (v,S')/\Gr S S'/\(a<=4->match zgy a z with|some rs=>∃n,v=.ref n/\S'[n]? = some (.lst (rs.map tD))|none=>v=.non):=by
 unfold zi9 zsx
 rw [zee (l:=[‹a›,some (.str z),none]) rfl]
 have t1:tE (eOp dEq (eVar 1) (eC (.str "none"))) [‹a›,some (.str z),none] S=some (decide (z = "none"),S):=zhu (zaj rfl)
 unfold zgy pcs
 by_cases h1:z = "none"
 ·rw [decide_eq_true h1] at t1
  refine ⟨.ref S.length,S++[.lst []],?_,⟨_,rfl⟩,λ_=>?_⟩
  ·rw [zfw (d:=.ref S.length) (S':=S++[.lst []]) (l':=[‹a›,some (.str z),none]) (by rw [zd8 t1];exact zih (by show (if 0<=sizeLine then some (D.ref S.length,S++[.lst []]) else none)=_;rw [if_pos (Nat.zero_le _)]))];rfl
  ·rw [if_pos h1,if_pos (by simp)]
   exact ⟨_,rfl,by simp⟩
 ·rw [decide_eq_false h1] at t1
  rw [zbb (l':=[‹a›,some (.str z),none]) (S':=S) (by rw [zd9 t1];rfl),if_neg h1]
  have sc:=zuo z "; "
  have him:zb9 (zbt zei (eVar 1) (zaa (eC (.str "; ")) zab)) [‹a›,some (.str z),none] S=some (itL S.length,((Txt.split z "; ").map D.str).length+1,S++[.lst ((Txt.split z "; ").map D.str)]):=by
   unfold zb9
   rw [zlt (zaj rfl) zt7 (by omega)]
   show (lstOf (S++[.lst ((Txt.split z "; ").map D.str)]) S.length).bind _=_
   rw [za9];rfl
  have hw:lstOf (S++[.lst ((Txt.split z "; ").map D.str)]) S.length=some ((Txt.split z "; ").map D.str):=za9
  have g1:Gr S (S++[.lst ((Txt.split z "; ").map D.str)]):=⟨_,rfl⟩
  generalize S++[.lst ((Txt.split z "; ").map D.str)]=S1 at *
  have key:=zlp (F:=zjc (λw=>some (zfc a w)) id) (e:=zac zhq (zaa (eVar 1) (zaa (eVar 0) (zab)))) (r:=zed) (ixs:=[none,some 0]) him g1 (λi S' g=>by show (lstOf S' S.length).bind _=_;rw [g.lst hw];rfl) (by rw [qlm];omega) (λx hx S' g=>by
   obtain ⟨w,hw',rfl⟩:=List.mem_map.mp hx
   obtain ⟨S2,k1,g2⟩:=yf3 (a:=a) (z:=w) (S:=S') ha (by have:=zkg hw';omega)
   have e1:zac zhq (zaa (eVar 1) (zaa (eVar 0) (zab))) ((za8 [none,some 0] [‹a›,some (.str z),none]).set 0 (some (.str w)))=zhq [.int (a:Int),.str w]:=by
    funext S;exact zbg (zcs (zaj rfl) (zaj rfl))
   rw [e1]
   exact ⟨S2,k1,g2,rfl⟩)
  rw [zii (F:=zjc (λw=>some (zfc a w)) id) (f:=λw=>some (zfc a w)) (g:=D.str) (h:=id) (λ_=>rfl),zkj (zfc a)] at key
  obtain ⟨S2,k1,g2,_⟩:=key.1 _ rfl
  rw [List.map_id] at k1
  obtain ⟨rv,hrv⟩:∃rv:Str->Option (List Nat × List (Option Nat)),∀w,zfc a w=vO (rv w)/\(a<=4->rv w=zcw a w)/\∀q,rv w=some q->Sml q:=⟨λw=>(zup a w).choose,λw=>(zup a w).choose_spec⟩
  have hmap:(Txt.split z "; ").map (zfc a)=((Txt.split z "; ").map rv).map vO:=by
   rw [List.map_map];exact List.map_congr_left λw _=>(hrv w).1
  rw [hmap] at k1
  have s2:=zcg (i:=2) k1
  rw [zbb s2]
  have hl:lstOf (S2++[.lst (((Txt.split z "; ").map rv).map vO)]) S2.length=some (((Txt.split z "; ").map rv).map vO):=za9
  have hg:(S2++[Ob.lst (((Txt.split z "; ").map rv).map vO)])[S2.length]? = some (.lst (((Txt.split z "; ").map rv).map vO)):=by simp
  have g3:Gr S (S2++[.lst (((Txt.split z "; ").map rv).map vO)]):=g2.push _
  generalize S2++[.lst (((Txt.split z "; ").map rv).map vO)]=S3 at *
  have dn:=yf7 (rs:=(Txt.split z "; ").map rv) hl (λr hr q e=>by
   obtain ⟨w,_,rfl⟩:=List.mem_map.mp hr
   exact (hrv w).2.2 q e)
  have t2:tE (eOp (zi7 false) (eC .non) (eVar 2)) [‹a›,some (.str z),some (.ref S2.length)] S3=some (((Txt.split z "; ").map rv).any Option.isNone,S3):=by
   have e1:eVar 2 [‹a›,some (.str z),some (.ref S2.length)] S3=some (.ref S2.length,S3):=zaj rfl
   unfold tE eOp
   simp only [eC,Option.bind_some,e1,dn]
  have t3:tE (eOp dGt (zac zax (zaa (eVar 2) (zab))) (eC (.int 24))) [‹a›,some (.str z),some (.ref S2.length)] S3=some (decide ((24:Int)<((Txt.split z "; ").length:Int)),S3):=by
   have:=gt_int (zkh (l:=[‹a›,some (.str z),some (.ref S2.length)]) (e:=eVar 2) (S:=S3) (zaj rfl) hl) (f:=eC (.int 24)) rfl
   rw [qlm,qlm] at this
   exact this
  show ∃v S',((zah _ _) [‹a›,some (.str z),some (.ref S2.length)] S3).bind zep=some (v,S')/\_
  by_cases hn:((Txt.split z "; ").map rv).any Option.isNone=true
  ·rw [hn] at t2
   refine ⟨.non,S3,?_,g3,λh4=>?_⟩
   ·rw [zfw (d:=.non) (l':=[‹a›,some (.str z),some (.ref S2.length)]) (S':=S3) (by rw [zd8 (zlw t2)];rfl)];rfl
   ·have e:(Txt.split z "; ").map rv=(Txt.split z "; ").map (zcw a):=List.map_congr_left λw _=>(hrv w).2.1 h4
    rw [e,zof] at hn
    have:za7 (zcw a) (Txt.split z "; ")=none:=by simpa using hn
    rw [this,ite_self]
  ·rw [Bool.eq_false_iff.mpr hn] at t2
   by_cases h24:(Txt.split z "; ").length<=24
   ·rw [decide_eq_false (show ¬(24:Int)<((Txt.split z "; ").length:Int) by omega)] at t3
    refine ⟨.ref S2.length,S3,?_,g3,λh4=>?_⟩
    ·rw [zbb (l':=[‹a›,some (.str z),some (.ref S2.length)]) (S':=S3) (by rw [zd9 (by rw [zkk t2];exact t3)];rfl),zfb,zaj rfl]
    ·have e:(Txt.split z "; ").map rv=(Txt.split z "; ").map (zcw a):=List.map_congr_left λw _=>(hrv w).2.1 h4
     rw [e] at hn hg
     rw [zof] at hn
     rw [if_pos h24]
     cases hm:za7 (zcw a) (Txt.split z "; ") with
     | none=>rw [hm] at hn;exact absurd rfl hn
     | some rs =>
      rw [zun hm,List.map_map] at hg
      exact ⟨_,rfl,hg⟩
   ·rw [decide_eq_true (show (24:Int)<((Txt.split z "; ").length:Int) by omega)] at t3
    refine ⟨.non,S3,?_,g3,λh4=>?_⟩
    ·rw [zfw (d:=.non) (l':=[‹a›,some (.str z),some (.ref S2.length)]) (S':=S3) (by rw [zd8 (by rw [zkk t2];exact t3)];rfl)];rfl
    ·rw [if_neg h24]
noncomputable def zly:TM:=zca (tE (eOp dNe (zac zax (zaa (eVar 0) (zab))) (eVar 1))) (tE (eOp zer (zbc (zcd (eVar 0)) [none] (gName3 0) (tE (eOp (zev true) (eVar 0) (eC (.str "01-")))) (eVar 0)) (zac za3 (zab))))
theorem yf8 {v:Nat}{w:Str}{S:Sto}(hz:w.length+2<=sizeLine):∃S',zly [some (.str w),‹v›] S=some (!zbd v w,S')/\Gr S S':=by
 have e1:=ne_int (len_str (e:=eVar 0) (l:=[some (.str w),‹v›]) (S:=S) (z:=w) (zaj rfl) (by omega)) (f:=eVar 1) (j:=(v:Int)) (zaj rfl)
 unfold zly zbd
 by_cases h:w.length=v
 ·rw [decide_eq_true (show (w.length:Int)=(v:Int) by omega)] at e1
  rw [zkk e1,decide_eq_true h,Bool.true_and]
  have key:=zob (g:=λc=>!sg c) (t:=tE (eOp (zev true) (eVar 0) (eC (.str "01-")))) (ixs:=[none]) (e0:=eVar 0) (l:=[some (.str w),‹v›]) (S:=S) (z:=w) (zaj rfl) hz (by decide) (λc S'=>by
   unfold tE eOp
   rw [zaj (d:=.str ⟨#[c]⟩) rfl];rfl)
  rw [zod] at key
  exact key
 ·rw [decide_eq_false (show ¬(w.length:Int)=(v:Int) by omega)] at e1
  rw [zlw e1,decide_eq_false h,Bool.false_and]
  exact ⟨S,rfl,Gr.refl _⟩
noncomputable def zey (v:Nat):D->Option D
 | .str w=>if zbd v w=true then none else some (.str w)
 | _=>none
theorem zur (v:Nat):∀ws:List Str,(!((ws.map D.str).filterMap (zey v)).isEmpty) = !ws.all (zbd v)
 | []=>rfl
 | w :: ws=>by
  rw [List.map_cons,List.all_cons]
  cases h:zbd v w with
  | true=>rw [List.filterMap_cons_none (by simp [zey,h]),zur v ws,Bool.true_and]
  | false=>rw [List.filterMap_cons_some (b:=.str w) (by simp [zey,h])];rfl
theorem yf9 {v:Nat}{z:Str}{S:Sto}(hz:z.length+10<=sizeLine):∃S',zib [.int (v:Int),.str z] S=some ((match zhe v z with|some ps=>.tup (ps.map D.str)|none=>.non),S')/\Gr S S':=by
 unfold zib zsv
 rw [zee (l:=[‹v›,some (.str z),none,none]) rfl]
 have t1:tE (eOp dEq (eVar 1) (eC (.str "none"))) [‹v›,some (.str z),none,none] S=some (decide (z = "none"),S):=zhu (zaj rfl)
 unfold zhe pcs
 by_cases h1:z = "none"
 ·rw [decide_eq_true h1] at t1
  refine ⟨S,?_,Gr.refl _⟩
  rw [zfw (d:=.tup []) (S':=S) (l':=[‹v›,some (.str z),none,none]) (by rw [zd8 t1];exact zih (by show (if 0<=sizeLine then some (D.tup [],S) else none)=_;rw [if_pos (Nat.zero_le _)])),if_pos h1,if_pos (by simp),if_pos (by simp)];rfl
 ·rw [decide_eq_false h1] at t1
  rw [zbb (l':=[‹v›,some (.str z),none,none]) (S':=S) (by rw [zd9 t1];rfl),if_neg h1]
  have sc:=zuo z " + "
  have s2:zak (zbt zei (eVar 1) (zaa (eC (.str " + ")) zab)) (gName3 2) [‹v›,some (.str z),none,none] S=some (.nx,[‹v›,some (.str z),some (.ref S.length),none],S++[.lst ((Txt.split z " + ").map D.str)]):=zcg (zlt (zaj rfl) zuc (by omega))
  rw [zbb s2]
  have hw:lstOf (S++[.lst ((Txt.split z " + ").map D.str)]) S.length=some ((Txt.split z " + ").map D.str):=za9
  have g1:Gr S (S++[.lst ((Txt.split z " + ").map D.str)]):=⟨_,rfl⟩
  generalize S++[.lst ((Txt.split z " + ").map D.str)]=S1 at *
  have him:zb9 (eVar 2) [‹v›,some (.str z),some (.ref S.length),none] S1=some (itL S.length,((Txt.split z " + ").map D.str).length+1,S1):=by
   unfold zb9
   rw [zaj (d:=.ref S.length) rfl]
   show (lstOf S1 S.length).bind _=_
   rw [hw];rfl
  have key:We (zbc (zb9 (eVar 2)) [none,some 0] (gName3 0) zly (eVar 0)) [‹v›,some (.str z),some (.ref S.length),none] S1 λu S'=>∃S2,u=.ref S2.length/\S' = S2++[.lst (((Txt.split z " + ").map D.str).filterMap (zey v))]/\Gr S1 S2:=by
   refine znn ((Txt.split z " + ").map D.str) (zey v) (λS'=>Gr S1 S') (λl'=>∃y,l' = [y,‹v›]) him (Gr.refl _) ⟨_,rfl⟩ (λi S' g=>by show (lstOf S' S.length).bind _=_;rw [g.lst hw];rfl) (by rw [qlm];omega) ?_ ?_
   ·rintro x l' S' hx ⟨y,rfl⟩ g
    obtain ⟨w,hw',rfl⟩:=List.mem_map.mp hx
    obtain ⟨S2,k1,g2⟩:=yf8 (v:=v) (w:=w) (S:=S') (by have:=zkg hw';omega)
    rw [za6]
    refine ⟨⟨_,rfl⟩,_,S2,k1,g.trans g2,λh=>?_,λh=>?_⟩
    ·have:zbd v w=true:=by simpa using h
     simp [zey,this]
    ·have:zbd v w=false:=by simpa using h
     rw [zar]
     exact ⟨_,rfl,by simp [zey,this],g.trans g2⟩
   ·intro S' g
    exact ⟨S',rfl,rfl,g⟩
  obtain ⟨u,S',e3,S2,rfl,rfl,g2⟩:=key
  have s3:=zcg (i:=3) e3
  unfold zly at s3
  rw [zbb s3]
  show ∃S',((zah _ _) [‹v›,some (.str z),some (.ref S.length),some (.ref S2.length)] (S2++[.lst (((Txt.split z " + ").map D.str).filterMap (zey v))])).bind zep=some (_,S')/\_
  have hw3:lstOf (S2++[.lst (((Txt.split z " + ").map D.str).filterMap (zey v))]) S.length=some ((Txt.split z " + ").map D.str):=(g2.push _).lst hw
  have q1:(S2++[Ob.lst (((Txt.split z " + ").map D.str).filterMap (zey v))]++[Ob.lst []])[S2.length]? = some (Ob.lst (((Txt.split z " + ").map D.str).filterMap (zey v))):=by simp
  have q2:(S2++[Ob.lst (((Txt.split z " + ").map D.str).filterMap (zey v))]++[Ob.lst []])[(S2++[Ob.lst (((Txt.split z " + ").map D.str).filterMap (zey v))]).length]? = some (Ob.lst []):=by simp
  have g3:Gr S (S2++[Ob.lst (((Txt.split z " + ").map D.str).filterMap (zey v))]):=g1.trans (g2.push _)
  generalize S2++[Ob.lst (((Txt.split z " + ").map D.str).filterMap (zey v))]=S3 at *
  obtain ⟨u,S',e4,rfl,rfl⟩:Wo (zer (.ref S2.length) (.ref S3.length) (S3++[Ob.lst []])) λu S'=>u=.bl (!(((Txt.split z " + ").map D.str).filterMap (zey v)).isEmpty)/\S' = S3++[Ob.lst []]:=by rw [zsd q1 q2];exact ⟨rfl,rfl⟩
  have t4:tE (eOp zer (eVar 3) (zac za3 (zab))) [‹v›,some (.str z),some (.ref S.length),some (.ref S2.length)] S3=some (!(Txt.split z " + ").all (zbd v),S3++[Ob.lst []]):=by
   have e1:eVar 3 [‹v›,some (.str z),some (.ref S.length),some (.ref S2.length)] S3=some (.ref S2.length,S3):=zaj rfl
   have e2:zac za3 zab [‹v›,some (.str z),some (.ref S.length),some (.ref S2.length)] S3=some (.ref S3.length,S3++[Ob.lst []]):=by
    show (if 0<=sizeLine then some (D.ref S3.length,S3++[Ob.lst []]) else none)=_
    rw [if_pos (Nat.zero_le _)]
   unfold tE eOp
   simp only [Option.bind_some,e1,e2,e4,zur]
  have g4:Gr S (S3++[Ob.lst []]):=g3.push _
  have hw4:lstOf (S3++[Ob.lst []]) S.length=some ((Txt.split z " + ").map D.str):=((Gr.refl S3).push _).lst hw3
  have t5:tE (eOp dGt (zac zax (zaa (eVar 2) (zab))) (eC (.int 40))) [‹v›,some (.str z),some (.ref S.length),some (.ref S2.length)] (S3++[Ob.lst []])=some (decide ((40:Int)<((Txt.split z " + ").length:Int)),S3++[Ob.lst []]):=by
   have:=gt_int (zkh (l:=[‹v›,some (.str z),some (.ref S.length),some (.ref S2.length)]) (e:=eVar 2) (S:=S3++[Ob.lst []]) (zaj rfl) hw4) (f:=eC (.int 40)) rfl
   rw [qlm] at this
   exact this
  have tt:zca (tE (eOp zer (eVar 3) (zac za3 (zab)))) (tE (eOp dGt (zac zax (zaa (eVar 2) (zab))) (eC (.int 40)))) [‹v›,some (.str z),some (.ref S.length),some (.ref S2.length)] S3=some (!decide ((Txt.split z " + ").length<=40/\(Txt.split z " + ").all (zbd v)=true),S3++[Ob.lst []]):=by
   unfold zca
   rw [t4]
   by_cases c1:(Txt.split z " + ").all (zbd v)=true
   ·rw [c1]
    simp only [Option.bind_some,Bool.not_true,qbf,if_false,t5]
    by_cases c2:(Txt.split z " + ").length<=40
    ·rw [decide_eq_false (show ¬(40:Int)<((Txt.split z " + ").length:Int) by omega),decide_eq_true (⟨c2,trivial⟩:_/\True)];rfl
    ·rw [decide_eq_true (show (40:Int)<((Txt.split z " + ").length:Int) by omega),decide_eq_false (λw:_/\True=>c2 w.1)];rfl
   ·rw [Bool.eq_false_iff.mpr c1]
    rw [decide_eq_false (λw:(Txt.split z " + ").length<=40/\false=true=>by cases w.2)]
    rfl
  by_cases c:(Txt.split z " + ").length<=40/\(Txt.split z " + ").all (zbd v)=true
  ·rw [decide_eq_true c] at tt
   rw [if_pos c.1,if_pos c.2]
   refine ⟨S3++[Ob.lst []],?_,g4⟩
   rw [zbb (l':=[‹v›,some (.str z),some (.ref S.length),some (.ref S2.length)]) (S':=S3++[Ob.lst []]) (by rw [zd9 tt];rfl),zfb,zbg (zd3 (zaj rfl))]
   show (lstOf (S3++[Ob.lst []]) S.length).bind _=_
   rw [hw4];rfl
  ·rw [decide_eq_false c] at tt
   have hn:(if (Txt.split z " + ").length<=40 then (if (Txt.split z " + ").all (zbd v)=true then some (Txt.split z " + ") else none) else none)=none:=by
    by_cases c1:(Txt.split z " + ").length<=40
    ·rw [if_pos c1,if_neg (λw=>c ⟨c1,w⟩)]
    ·rw [if_neg c1]
   rw [hn]
   refine ⟨S3++[Ob.lst []],?_,g4⟩
   rw [zfw (d:=.non) (l':=[‹v›,some (.str z),some (.ref S.length),some (.ref S2.length)]) (S':=S3++[Ob.lst []]) (by rw [zd8 tt];rfl)];rfl
noncomputable def rdM (way:Nat):FM:=if way=0 then ze1 else zfa
noncomputable def rdZ (way:Nat):ZF:=if way=0 then zg9 else zha
noncomputable def zkl:SM:=sIf (tE (eOp dEq (eVar 0) (eC (.int 0)))) (zak (zac ze1 (zaa (eVar 1) (zaa (eVar 2) (zab)))) (gName3 4)) (zak (zac zfa (zaa (eVar 1) (zaa (eVar 2) (zab)))) (gName3 4))
noncomputable def zkm:ZM:=zIf (tE (eOp dEq (eVar 0) (eC (.int 0)))) (zb8 zg9 (zaa (eVar 1) (zaa (eVar 2) (zab)))) (zb8 zha (zaa (eVar 1) (zaa (eVar 2) (zab))))
theorem eq_int {e:EM}{l:Lo}{S S1:Sto}{i j:Int}(h:e l S=some (.int i,S1)):tE (eOp dEq e (eC (.int j))) l S=some (decide (i=j),S1):=by
 unfold tE eOp;rw [h];rfl
theorem zus {way:Nat}{many x:D}{S:Sto}{y6:Option D}:zkl [‹way›,some many,some x,some .non,some .non,none,y6] S=(rdM way [many,x] S).bind λp=>some (.nx,[‹way›,some many,some x,some .non,some p.1,none,y6],p.2):=by
 have t:tE (eOp dEq (eVar 0) (eC (.int 0))) [‹way›,some many,some x,some .non,some .non,none,y6] S=some (decide ((way:Int)=0),S):=eq_int (zaj rfl)
 have ea:zaa (eVar 1) (zaa (eVar 2) (zab)) [‹way›,some many,some x,some .non,some .non,none,y6] S=some ([many,x],S):=zcs (zaj rfl) (zaj rfl)
 unfold zkl rdM
 by_cases h:way=0
 ·rw [decide_eq_true (show (way:Int)=0 by omega)] at t
  rw [zd8 t,if_pos h]
  unfold zak;rw [zbg ea];rfl
 ·rw [decide_eq_false (show ¬(way:Int)=0 by omega)] at t
  rw [zd9 t,if_neg h]
  unfold zak;rw [zbg ea];rfl
theorem yga {way:Nat}{many x:D}{S:Sto}{y6:Option D}:zkm [‹way›,some many,some x,some .non,some .non,none,y6] S=rdZ way [many,x] S:=by
 have t:tE (eOp dEq (eVar 0) (eC (.int 0))) [‹way›,some many,some x,some .non,some .non,none,y6] S=some (decide ((way:Int)=0),S):=eq_int (zaj rfl)
 have ea:zaa (eVar 1) (zaa (eVar 2) (zab)) [‹way›,some many,some x,some .non,some .non,none,y6] S=some ([many,x],S):=zcs (zaj rfl) (zaj rfl)
 unfold zkm rdZ
 by_cases h:way=0
 ·rw [decide_eq_true (show (way:Int)=0 by omega)] at t
  rw [zif t,if_pos h,zeo ea]
 ·rw [decide_eq_false (show ¬(way:Int)=0 by omega)] at t
  rw [zig t,if_neg h,zeo ea]
noncomputable def zog:SM:=zah (sIf (tE (eOp dIs (eVar 3) (eC .non))) (sRet (zac zbl (zaa (eC (.str "read")) (zaa (zac zec (zaa (eVar 4) (zab))) (zab))))) (zaq)) (zah (zak (eUn (zd6 [("NoText",false)]) (eVar 3)) (gName3 6)) (zah (zak (zit (eVar 6) (eUn (zd6 [("NoText",false)]) (eVar 3))) (gName3 6)) (sRet (zac zbl (zaa (eC (.str "refused")) (zaa (zfz (eUn (zd6 [("NoText",true)]) (eVar 3)) (zfz (eUn (zd6 [("NoText",true)]) (eVar 3)) (ziu (eVar 6)))) (zab)))))))
theorem zut {way:Nat}{many x:D}{S:Sto}:zex [.int (way:Int),many,x] S=(zah (zhm 5 (λc=>c == "NoText") zkl zkm (zak (eVar 5) (gName3 3))) zog [‹way›,some many,some x,some .non,some .non,none,none] S).bind zep:=by
 unfold zex zsu
 rw [zee (l:=[‹way›,some many,some x,none,none,none,none]) rfl,zbb (zcg (i:=3) (d:=.non) (S':=S) rfl),zbb (zcg (i:=4) (d:=.non) (S':=S) rfl)]
 rfl
theorem ygb {way:Nat}{many x v:D}{S S1:Sto}{z:Str}(h:rdM way [many,x] S=some (v,S1)) (hr:zec [v] S1=some (.str z,S1)):zex [.int (way:Int),many,x] S=some (.tup [.str "read",.str z],S1):=by
 have e1:zhm 5 (λc=>c == "NoText") zkl zkm (zak (eVar 5) (gName3 3)) [‹way›,some many,some x,some .non,some .non,none,none] S=some (.nx,[‹way›,some many,some x,some .non,some v,none,none],S1):=by
  unfold zhm
  rw [zus,h];rfl
 rw [zut,zbb e1]
 unfold zog
 have t:tE (eOp dIs (eVar 3) (eC .non)) [‹way›,some many,some x,some .non,some v,none,none] S1=some (true,S1):=by
  unfold tE eOp;rw [zaj (d:=.non) rfl];rfl
 rw [zfw (d:=.tup [.str "read",.str z]) (l':=[‹way›,some many,some x,some .non,some v,none,none]) (S':=S1) (by
  rw [zd8 t]
  refine zih ?_
  rw [zbg (zcs (x:=.str "read") (y:=.str z) (S1:=S1) (S2:=S1) rfl (by rw [zbg (zd3 (zaj rfl))];exact hr))]
  show (if 2<=sizeLine then _ else _)=_
  rw [if_pos (by decide)])]
 rfl
theorem zoh {way:Nat}{many x:D}{S S1:Sto}(h:rdM way [many,x] S=none) (hz:rdZ way [many,x] S=some (("NoText":Str),S1)):zex [.int (way:Int),many,x] S=some (.tup [.str "refused",.bl true],S1++[.exc "NoText"]):=by
 have hx:(S1++[Ob.exc "NoText"])[S1.length]? = some (.exc "NoText"):=by simp
 have e1:zhm 5 (λc=>c == "NoText") zkl zkm (zak (eVar 5) (gName3 3)) [‹way›,some many,some x,some .non,some .non,none,none] S=some (.nx,[‹way›,some many,some x,some (.ref S1.length),some .non,none,none],S1++[.exc "NoText"]):=by
  unfold zhm
  rw [zus,h,yga,hz]
  show (if (("NoText":Str) == "NoText")=true then _ else _)=_
  rw [if_pos (by decide +kernel)]
  rfl
 rw [zut,zbb e1]
 generalize S1++[Ob.exc "NoText"]=S2 at *
 have ix:∀(b:Bool) (l:Lo) (hl:l[3]? = some (some (.ref S1.length))),eUn (zd6 [("NoText",b)]) (eVar 3) l S2=some (.bl b,S2):=λb l hl=>by
  have e:List.lookup ("NoText":Str) [(("NoText":Str),b)]=some b:=by simp
  unfold eUn
  rw [zaj hl]
  simp only [Option.bind_some,zd6,hx,e]
 unfold zog
 have t:tE (eOp dIs (eVar 3) (eC .non)) [‹way›,some many,some x,some (.ref S1.length),some .non,none,none] S2=some (false,S2):=by
  unfold tE eOp;rw [zaj (d:=.ref S1.length) rfl];rfl
 rw [zbb (l':=[‹way›,some many,some x,some (.ref S1.length),some .non,none,none]) (S':=S2) (by rw [zd9 t];rfl)]
 rw [zbb (zcg (i:=6) (ix false [‹way›,some many,some x,some (.ref S1.length),some .non,none,none] rfl))]
 have e2:zit (eVar 6) (eUn (zd6 [("NoText",false)]) (eVar 3)) [‹way›,some many,some x,some (.ref S1.length),some .non,none,some (.bl false)] S2=some (.bl false,S2):=by
  unfold zit
  rw [zaj (d:=.bl false) rfl]
  exact ix false [‹way›,some many,some x,some (.ref S1.length),some .non,none,some (.bl false)] rfl
 show ((zah (zak (zit (eVar 6) (eUn (zd6 [("NoText",false)]) (eVar 3))) (gName3 6)) _) [‹way›,some many,some x,some (.ref S1.length),some .non,none,some (.bl false)] S2).bind zep=_
 rw [zbb (zcg (i:=6) e2),zfb]
 show zac zbl _ [‹way›,some many,some x,some (.ref S1.length),some .non,none,some (.bl false)] S2=_
 have e3:zfz (eUn (zd6 [("NoText",true)]) (eVar 3)) (zfz (eUn (zd6 [("NoText",true)]) (eVar 3)) (ziu (eVar 6))) [‹way›,some many,some x,some (.ref S1.length),some .non,none,some (.bl false)] S2=some (.bl true,S2):=by
  unfold zfz
  rw [ix true [‹way›,some many,some x,some (.ref S1.length),some .non,none,some (.bl false)] rfl]
  show Option.bind (eUn (zd6 [("NoText",true)]) (eVar 3) [‹way›,some many,some x,some (.ref S1.length),some .non,none,some (.bl false)] S2) _=_
  rw [ix true [‹way›,some many,some x,some (.ref S1.length),some .non,none,some (.bl false)] rfl]
  show ziu (eVar 6) [‹way›,some many,some x,some (.ref S1.length),some .non,none,some (.bl false)] S2=_
  unfold ziu
  rw [zaj (d:=.bl false) rfl];rfl
 rw [zbg (zcs (x:=.str "refused") (S1:=S2) rfl e3)]
 show (if 2<=sizeLine then _ else _)=_
 rw [if_pos (by decide)]
def Asc (p:PyData):Prop:=∀k,128<=k->k ∉ p.shown.cps.toList
theorem zuu (i:Int):Asc (.int i):=λk h=>PyProof.Rows.shown_int_free' ⟨by omega,by omega⟩ i
theorem ygc:Asc .none:=λk h hm=>by
 rw [PyData.shown_none] at hm
 have e:(("None":String):Str).cps.toList=[78,111,110,101]:=by decide +kernel
 rw [e] at hm
 simp at hm
 omega
theorem ygd (g:Option Nat):Asc (pO g):=by
 cases g with
 | none=>exact ygc
 | some j=>exact zuu _
theorem zlz {xs:List PyData}(h:∀x∈xs,Asc x):Asc (.tuple xs):=λk hk hm=>by
 rw [PyData.shown_tuple,PyProof.Rows.mem_cps_append,PyProof.Rows.mem_cps_append,PyProof.Rows.mem_join] at hm
 rcases hm with (hm|(⟨t,ht,hc⟩|⟨_,hm⟩))|hm
 ·have e:(("(":String):Str).cps.toList=[40]:=by decide +kernel
  rw [e] at hm;simp at hm;omega
 ·exact PyProof.Rows.shownAll_free (λx hx=>h x hx k hk) t ht hc
 ·have e:((", ":String):Str).cps.toList=[44,32]:=by decide +kernel
  rw [e] at hm;simp at hm;omega
 ·have e1:((",)":String):Str).cps.toList=[44,41]:=by decide +kernel
  have e2:((")":String):Str).cps.toList=[41]:=by decide +kernel
  split at hm
  ·rw [e1] at hm;simp at hm;omega
  ·rw [e2] at hm;simp at hm;omega
theorem yge {xs:List PyData}(h:∀x∈xs,Asc x):Asc (.list xs):=λk hk hm=>by
 rw [PyData.shown_list,PyProof.Rows.mem_cps_append,PyProof.Rows.mem_cps_append,PyProof.Rows.mem_join] at hm
 rcases hm with (hm|(⟨t,ht,hc⟩|⟨_,hm⟩))|hm
 ·have e:(("[":String):Str).cps.toList=[91]:=by decide +kernel
  rw [e] at hm;simp at hm;omega
 ·exact PyProof.Rows.shownAll_free (λx hx=>h x hx k hk) t ht hc
 ·have e:((", ":String):Str).cps.toList=[44,32]:=by decide +kernel
  rw [e] at hm;simp at hm;omega
 ·have e:(("]":String):Str).cps.toList=[93]:=by decide +kernel
  rw [e] at hm;simp at hm;omega
theorem ygf (r:List Nat × List (Option Nat)):Asc (pT r):=by
 unfold pT
 refine zlz λx hx=>?_
 rcases List.mem_cons.mp hx with rfl|hx
 ·refine zlz λy hy=>?_
  obtain ⟨a,_,rfl⟩:=List.mem_map.mp hy
  exact zuu _
 ·rw [List.mem_singleton.mp hx]
  refine zlz λy hy=>?_
  obtain ⟨g,_,rfl⟩:=List.mem_map.mp hy
  exact ygd g
theorem zuv {p:PyData}(h:Asc p):PyData.strOk p.shown=true:=by
 unfold PyData.strOk
 rw [Array.all_eq_true']
 intro c hc
 have:¬128<=c:=λw=>h c w (by simpa using hc)
 simp
 omega
theorem zuw {a:Nat}{rs:List (List Nat × List (Option Nat))}(ok:∀r∈rs,OkT a r) (ha:a<=8) (h24:rs.length<=24):∃z,PyData.strOk z=true/\∀(S:Sto) (n:Nat),lstOf S n=some (rs.map tD)->zec [.ref n] S=some (.str z,S):=by
 have py:∀(S:Sto) (n:Nat),lstOf S n=some (rs.map tD)->zap S 140 (.ref n)=some (.list (rs.map pT)):=λS n h=>by
  rw [zap,h]
  show (pyAll S 139 (rs.map tD)).bind _=_
  rw [zhx rs λr hr=>zoe (k:=136) ((ok r hr).sml (by omega))];rfl
 have bd:(PyData.list (rs.map pT)).shown.length<=sizeLine:=by
  have hj:lstOf [Ob.lst (rs.map tD)] 0=some (rs.map tD):=rfl
  obtain ⟨p,h1,h2⟩:=ydn (k:=139) (B:=1000) (n:=24) hj (λx hx=>by
   obtain ⟨r,hr,rfl⟩:=List.mem_map.mp hx
   have o:=ok r hr
   refine (zlk (k:=138) (B:=200) (n:=2) (λy hy=>?_) (qlr _)).le (by decide)
   rcases List.mem_cons.mp hy with rfl|hy
   ·refine (zlk (k:=137) (B:=10) (n:=12) (λw hw=>?_) (by rw [qlm];exact o.l12)).le (by decide)
    obtain ⟨q,hq,rfl⟩:=List.mem_map.mp hw
    exact zsk (k:=136) (by have:=o.as q hq;omega)
   ·rw [List.mem_singleton.mp hy]
    refine (zlk (k:=137) (B:=10) (n:=12) (λw hw=>?_) (by rw [qlm,o.ll];exact o.l12)).le (by decide)
    obtain ⟨g,hg,rfl⟩:=List.mem_map.mp hw
    cases g with
    | none=>exact ydo
    | some j=>exact zsk (k:=136) (by have:=o.os _ hg j rfl;omega)) (by rw [qlm];exact h24)
  have:=h2 _ (Gr.refl _)
  rw [py _ 0 hj] at this
  cases this
  exact Nat.le_trans h1 (by decide)
 refine ⟨(PyData.list (rs.map pT)).shown,zuv (yge λx hx=>?_),λS n h=>?_⟩
 ·obtain ⟨r,_,rfl⟩:=List.mem_map.mp hx
  exact ygf r
 ·show (zap S 140 (.ref n)).bind _=_
  rw [py S n h]
  simp only [Option.bind_some]
  rw [if_pos bd]
theorem zux {S:Sto}{w:Str}{x y:D}{p q:PyData}(hx:∀S,zap S 59 x=some p) (hy:∀S,zap S 59 y=some q) (hw:PyData.strOk w=true) (cp:p.canLay0=true) (cq:q.canLay0=true) (e:∀l l':List PyData,l=[.str w,p]->l' = [.str w,q]->PyData.eqv (.tuple l) (.tuple l')=true):zfj (.tup [.str w,x]) (.tup [.str w,y]) S=some (.bl true,S):=by
 have h1:∀{u:D} {o:PyData},zap S 59 u=some o->zap S 60 (.tup [.str w,u])=some (.tuple [.str w,o]):=λ{u o} h=>by
  rw [zap]
  show (pyAll S 59 [.str w,u]).bind _=_
  have e1:zap S 59 (.str w)=some (.str w):=by unfold zap;rfl
  rw [pyAll,e1,pyAll,h,pyAll];rfl
 have h2:∀{o:PyData},o.canLay0=true->(PyData.tuple [.str w,o]).canLay0=true:=λ{o} h=>by
  unfold PyData.canLay0
  rw [PyData.canLayAll0,PyData.canLayAll0,h,PyData.canLayAll0]
  unfold PyData.canLay0
  rw [hw];rfl
 unfold zfj
 rw [h1 (hx S),h1 (hy S)]
 simp only [Option.bind_some]
 rw [if_pos ⟨h2 cp,h2 cq⟩,e _ _ rfl rfl]
noncomputable def zkn:SM:=zah (sIf (tE (eOp dIs (eVar 3) (eC .non))) (sRet (eOp zfj (zac zex (zaa (eVar 0) (zaa (eVar 1) (zaa (eVar 2) (zab))))) (zac zbl (zaa (eC (.str "refused")) (zaa (eC (.bl true)) (zab)))))) (zaq)) (sRet (eOp zfj (zac zex (zaa (eVar 0) (zaa (eVar 1) (zaa (eVar 2) (zab))))) (zac zbl (zaa (eC (.str "read")) (zaa (zac zec (zaa (eVar 3) (zab))) (zab))))))
theorem zuy:PyData.strOk "refused" = true:=by decide +kernel
theorem zuz:PyData.strOk "read" = true:=by decide +kernel
theorem zu0 {way:Nat}{many:Int}{x:D}{S S1:Sto}(h:rdM way [.int many,x] S=none) (hz:rdZ way [.int many,x] S=some (("NoText":Str),S1)) (g:Gr S S1):∃S',(zkn [‹way›,some (.int many),some x,some .non] S).bind zep=some (.bl true,S')/\Gr S S':=by
 have t:tE (eOp dIs (eVar 3) (eC .non)) [‹way›,some (.int many),some x,some .non] S=some (true,S):=by
  unfold tE eOp;rw [zaj (d:=.non) rfl];rfl
 have e1:zac zex (zaa (eVar 0) (zaa (eVar 1) (zaa (eVar 2) (zab)))) [‹way›,some (.int many),some x,some .non] S=some (.tup [.str "refused",.bl true],S1++[.exc "NoText"]):=by
  rw [zbg (zij (zaj rfl) (zaj rfl) (zaj rfl))];exact zoh h hz
 have e2:∀S,zac zbl (zaa (eC (.str "refused")) (zaa (eC (.bl true)) (zab))) [‹way›,some (.int many),some x,some .non] S=some (.tup [.str "refused",.bl true],S):=λS=>by
  rw [zbg (zcs (x:=.str "refused") (y:=.bl true) (S1:=S) (S2:=S) rfl rfl)]
  show (if 2<=sizeLine then _ else _)=_
  rw [if_pos (by decide)]
 have pb:∀S,zap S 59 (.bl true)=some (.bool true):=λS=>by unfold zap;rfl
 have cb:(PyData.bool true).canLay0=true:=by unfold PyData.canLay0;rfl
 have e3:=zux (S:=S1++[.exc "NoText"]) (w:="refused") pb pb zuy cb cb (λl l' h1 h2=>by subst h1;subst h2;decide +kernel)
 refine ⟨S1++[.exc "NoText"],?_,g.push _⟩
 unfold zkn
 rw [zfw (d:=.bl true) (l':=[‹way›,some (.int many),some x,some .non]) (S':=S1++[.exc "NoText"]) (by
  rw [zd8 t]
  refine zih ?_
  unfold eOp
  rw [e1]
  simp only [Option.bind_some,e2]
  exact e3)]
 rfl
theorem zu1 {way:Nat}{many:Int}{x v w:D}{S S1:Sto}{z:Str}(hv:zf5 v=false) (h:rdM way [.int many,x] S=some (w,S1)) (g:Gr S S1) (hw:zec [w] S1=some (.str z,S1)) (hv1:zec [v] S1=some (.str z,S1)) (ok:PyData.strOk z=true):∃S',(zkn [‹way›,some (.int many),some x,some v] S).bind zep=some (.bl true,S')/\Gr S S':=by
 have t:tE (eOp dIs (eVar 3) (eC .non)) [‹way›,some (.int many),some x,some v] S=some (false,S):=by
  unfold tE eOp;rw [zaj (d:=v) rfl]
  cases v <;> first|rfl|cases hv
 have e1:zac zex (zaa (eVar 0) (zaa (eVar 1) (zaa (eVar 2) (zab)))) [‹way›,some (.int many),some x,some v] S=some (.tup [.str "read",.str z],S1):=by
  rw [zbg (zij (zaj rfl) (zaj rfl) (zaj rfl))];exact ygb h hw
 have e2:zac zbl (zaa (eC (.str "read")) (zaa (zac zec (zaa (eVar 3) (zab))) (zab))) [‹way›,some (.int many),some x,some v] S1=some (.tup [.str "read",.str z],S1):=by
  rw [zbg (zcs (x:=.str "read") (y:=.str z) (S1:=S1) (S2:=S1) rfl (by rw [zbg (zd3 (zaj rfl))];exact hv1))]
  show (if 2<=sizeLine then _ else _)=_
  rw [if_pos (by decide)]
 have pb:∀S,zap S 59 (.str z)=some (.str z):=λS=>by unfold zap;rfl
 have cb:(PyData.str z).canLay0=true:=by unfold PyData.canLay0;exact ok
 have e3:=zux (S:=S1) (w:="read") pb pb zuz cb cb (λl l' h1 h2=>by
  subst h1;subst h2
  refine PySem.SeqAt.eqv_refl _ ?_
  unfold PyData.canLay0
  rw [PyData.canLayAll0,PyData.canLayAll0,cb,PyData.canLayAll0]
  unfold PyData.canLay0
  rw [zuz];rfl)
 refine ⟨S1,?_,g⟩
 unfold zkn
 rw [zbb (l':=[‹way›,some (.int many),some x,some v]) (S':=S) (by rw [zd9 t];rfl),zfb]
 unfold eOp
 rw [e1]
 simp only [Option.bind_some,e2]
 exact e3
theorem zoi {c:Nat}(h:sg c=true):c=48\/c=49\/c=45:=by
 unfold sg at h
 rw [zlv] at h
 have e:("01-":Str).cps.toList=[48,49,45]:=by decide +kernel
 rw [e] at h
 simpa using h
theorem ygg:∀q∈[34,39],∀c∈[48,49,45],∀d∈Builtin.Str.reprChar q c,d<128:=by decide +kernel
theorem zu2 {q:Nat}(hq:q=34\/q=39):∀(l:List Nat) (acc:Array Nat),(∀c∈l,c=48\/c=49\/c=45)->(∀d∈acc.toList,d<128)->∀d∈(l.foldl (λout c=>out++(Builtin.Str.reprChar q c).toArray) acc).toList,d<128
 | [],acc,_,h=>h
 | c :: r,acc,hc,h=>by
  rw [List.foldl_cons]
  refine zu2 hq r _ (λx hx=>hc x (List.mem_cons_of_mem _ hx)) λd hd=>?_
  simp only [Array.toList_append,List.mem_append] at hd
  rcases hd with hd|hd
  ·exact h d hd
  ·exact ygg q (by rcases hq with rfl|rfl <;> simp) c (by rcases hc c List.mem_cons_self with rfl|rfl|rfl <;> simp) d (by simpa using hd)
theorem ygh (x:Str):reprQuote x=34\/reprQuote x=39:=by
 unfold reprQuote
 split
 ·exact .inl rfl
 ·exact .inr rfl
theorem ygi {x:Str}(h:∀c∈x.cps.toList,c=48\/c=49\/c=45):Asc (.str x):=λk hk hm=>by
 unfold PyData.shown at hm
 have q:=ygh x
 have key:∀d∈(reprText x).cps.toList,d<128:=by
  unfold reprText
  show ∀d∈((x.cps.foldl (λout c=>out++(Builtin.Str.reprChar (reprQuote x) c).toArray) #[reprQuote x]).push (reprQuote x)).toList,d<128
  rw [<-Array.foldl_toList]
  intro d hd
  rw [Array.toList_push,List.mem_append] at hd
  rcases hd with hd|hd
  ·exact zu2 q _ _ h (λe he=>by simp at he;omega) d hd
  ·simp at hd;omega
 have:=key k hm
 omega
theorem zu3 {v:Nat}{ps:List Str}(ok:ps.all (zbd v)=true) (hv:v<=5) (h40:ps.length<=40):∃z,PyData.strOk z=true/\∀S:Sto,zec [.tup (ps.map D.str)] S=some (.str z,S):=by
 have hp:∀p∈ps,p.length<=5/\∀c∈p.cps.toList,c=48\/c=49\/c=45:=λp h=>by
  have:=List.all_eq_true.mp ok p h
  unfold zbd at this
  rw [Bool.and_eq_true] at this
  exact ⟨by have:=of_decide_eq_true this.1;omega,λc hc=>zoi (List.all_eq_true.mp this.2 c hc)⟩
 have py:∀S:Sto,zap S 140 (.tup (ps.map D.str))=some (.tuple (ps.map PyData.str)):=λS=>by
  rw [zap,zhx ps λp _=>(by unfold zap;rfl)];rfl
 have bd:(PyData.tuple (ps.map PyData.str)).shown.length<=sizeLine:=by
  obtain ⟨p,h1,h2⟩:=zlk (S:=[]) (k:=139) (B:=52) (n:=40) (xs:=ps.map D.str) (λx hx=>by
   obtain ⟨w,hw,rfl⟩:=List.mem_map.mp hx
   exact ydp (k:=138) (B:=5) (hp w hw).1 λc hc=>by have:=(hp w hw).2 c hc;omega) (by rw [qlm];exact h40)
  have:=h2 _ (Gr.refl _)
  rw [py] at this
  cases this
  exact Nat.le_trans h1 (by decide)
 refine ⟨(PyData.tuple (ps.map PyData.str)).shown,zuv (zlz λx hx=>?_),λS=>?_⟩
 ·obtain ⟨w,hw,rfl⟩:=List.mem_map.mp hx
  exact ygi (hp w hw).2
 ·show (zap S 140 (.tup (ps.map D.str))).bind _=_
  rw [py S]
  simp only [Option.bind_some]
  rw [if_pos bd]
theorem zu4 {way:Nat}{many:Int}{z:Str}{S S1:Sto}{d:D}(h:zi9 [.int many,.str z] S=some (d,S1)):zcr [.int (way:Int),.int many,.str z] S=((zah (sIf (tE (eOp dEq (eVar 0) (eC (.int 1)))) (zak (zac zib (zaa (eVar 1) (zaa (eVar 2) (zab)))) (gName3 3)) (zaq)) zkn) [‹way›,some (.int many),some (.str z),some d] S1).bind zep:=by
 unfold zcr zsy
 rw [zee (l:=[‹way›,some (.int many),some (.str z),none]) rfl,zbb (zcg (i:=3) (d:=d) (S':=S1) (by rw [zbg (zcs (zaj rfl) (zaj rfl))];exact h))]
 rfl
theorem zl0 {a:Nat}{z:Str}{S:Sto}(ha:a<=4) (hz:z.length+10<=sizeLine):∃S',zcr [.int 0,.int (a:Int),.str z] S=some (.bl true,S')/\Gr S S':=by
 obtain ⟨d,S1,e1,g1,hd⟩:=zuq (a:=a) (z:=z) (S:=S) (by omega) hz
 have hd:=hd ha
 have hh:=zu4 (way:=0) e1
 have t:tE (eOp dEq (eVar 0) (eC (.int 1))) [some (.int ((0:Nat):Int)),‹a›,some (.str z),some d] S1=some (false,S1):=by
  rw [eq_int (zaj rfl)];rfl
 rw [zbb (l':=[some (.int ((0:Nat):Int)),‹a›,some (.str z),some d]) (S':=S1) (by rw [zd9 t];rfl)] at hh
 have sr:=zt8 (a:=a) (z:=z) (S:=S1) (by omega) (by omega)
 show ∃S',zcr [.int ((0:Nat):Int),.int (a:Int),.str z] S=_/\_
 rw [hh]
 cases hs:zgy a z with
 | none =>
  rw [hs] at hd
  subst hd
  obtain ⟨k1,S2,k2,g2⟩:=sr.2 hs
  obtain ⟨S',k3,g3⟩:=zu0 (way:=0) (many:=(a:Int)) (x:=.str z) k1 k2 g2
  exact ⟨S',k3,g1.trans g3⟩
 | some rs =>
  rw [hs] at hd
  obtain ⟨n,rfl,hn⟩:=hd
  obtain ⟨S2,k1,g2,_⟩:=sr.1 rs hs
  have h24:(pcs z "; ").length<=24:=by
   unfold zgy at hs
   by_cases h:(pcs z "; ").length<=24
   ·exact h
   ·rw [if_neg h] at hs;cases hs
  have hm:za7 (zcw a) (pcs z "; ")=some rs:=by unfold zgy at hs;rw [if_pos h24] at hs;exact hs
  have ok:∀r∈rs,OkT a r:=λr hr=>by
   obtain ⟨w,_,e⟩:=zlx hm r hr
   exact zum e
  obtain ⟨w,hw,hr⟩:=zuw ok (by omega) (by rw [zt3 hm];exact h24)
  obtain ⟨S',k3,g3⟩:=zu1 (way:=0) (many:=(a:Int)) (x:=.str z) (v:=.ref n) rfl k1 (g2.push _) (hr _ _ za9) (hr _ n (zcf ((g2.push _).get hn))) hw
  exact ⟨S',k3,g1.trans g3⟩
theorem zoj {v:Nat}{z:Str}{S:Sto}(hv:v<=5) (hz:z.length+10<=sizeLine):∃S',zcr [.int 1,.int (v:Int),.str z] S=some (.bl true,S')/\Gr S S':=by
 obtain ⟨d,S1,e1,g1,_⟩:=zuq (a:=v) (z:=z) (S:=S) hv hz
 have hh:=zu4 (way:=1) e1
 have t:tE (eOp dEq (eVar 0) (eC (.int 1))) [some (.int ((1:Nat):Int)),‹v›,some (.str z),some d] S1=some (true,S1):=by
  rw [eq_int (zaj rfl)];rfl
 obtain ⟨S2,e2,g2⟩:=yf9 (v:=v) (z:=z) (S:=S1) hz
 have s2:zak (zac zib (zaa (eVar 1) (zaa (eVar 2) (zab)))) (gName3 3) [some (.int ((1:Nat):Int)),‹v›,some (.str z),some d] S1=some (.nx,[some (.int ((1:Nat):Int)),‹v›,some (.str z),some (match zhe v z with|some ps=>.tup (ps.map D.str)|none=>.non)],S2):=zcg (by rw [zbg (zcs (zaj rfl) (zaj rfl))];exact e2)
 rw [zbb (by rw [zd8 t];exact s2)] at hh
 have sr:=zud (v:=v) (z:=z) (S:=S2) (by omega)
 show ∃S',zcr [.int ((1:Nat):Int),.int (v:Int),.str z] S=_/\_
 rw [hh]
 cases hs:zhe v z with
 | none =>
  rw [hs] at sr
  obtain ⟨k1,S3,k2,g3⟩:=sr
  obtain ⟨S',k3,g4⟩:=zu0 (way:=1) (many:=(v:Int)) (x:=.str z) k1 k2 g3
  exact ⟨S',k3,g1.trans (g2.trans g4)⟩
 | some ps =>
  rw [hs] at sr
  obtain ⟨S3,k1,g3,_⟩:=sr
  have hp:ps.all (zbd v)=true/\ps.length<=40:=by
   unfold zhe at hs
   split at hs
   ·split at hs
    ·cases hs;rename_i h1 h2;exact ⟨h2,h1⟩
    ·cases hs
   ·cases hs
  obtain ⟨w,hw,hr⟩:=zu3 hp.1 hv hp.2
  obtain ⟨S',k3,g4⟩:=zu1 (way:=1) (many:=(v:Int)) (x:=.str z) (v:=.tup (ps.map D.str)) rfl k1 g3 (hr _) (hr _) hw
  exact ⟨S',k3,g1.trans (g2.trans g4)⟩
theorem ygj {e:EM}{lo hi:OM}{l:Lo}{S:Sto}{z:Str}{a b:Option Int}(he:e l S=some (.str z,S)) (hl:lo l S=some (a,S)) (hh:hi l S=some (b,S)) (hz:z.length<=sizeLine):zbk e lo hi l S=some (.str (Txt.slice z a b),S):=by
 unfold zbk
 rw [he]
 simp only [Option.bind_some,hl,hh,hz,if_true]
theorem zok {e:EM}{l:Lo}{S:Sto}{i:Int}(he:e l S=some (.int i,S)):zbf e l S=some (some i,S):=by
 unfold zbf;rw [he];rfl
theorem zl1 {e f:EM}{l:Lo}{S:Sto}{x y:Str}(he:e l S=some (.str x,S)) (hf:f l S=some (.str y,S)) (hz:x.length+y.length<=sizeLine):eOp dPlusA e f l S=some (.str (x++y),S):=by
 unfold eOp
 rw [he]
 simp only [Option.bind_some,hf]
 show (match zhk (.str x) (.str y) S with|some v=>some v|none=>zk7 (.str x) (.str y) S)=_
 have:zhk (.str x) (.str y) S=some (.str (x++y),S):=by unfold zhk;simp only [hz,if_true]
 rw [this]
theorem ygk (z:Str) (a b:Option Int):(Txt.slice z a b).length<=z.length:=PyProof.Txt.length_slice_le z a b
noncomputable def few:Str:="0123456789-/:|; +"
theorem ygl:few.length=17:=by decide +kernel
theorem ygm (S:Sto):∃w,zic [] S=some (.str w,S)/\1<=w.length/\w.length<=200:=by
 have l1:(" !\"#$&'()*+,-./0123456789:;<=>?@ABCDEFGHIJKLMNOPQRSTUVWXYZ[\\]^_`":Str).length=64:=by decide +kernel
 have l2:("abcdefghijklmnopqrstuvwxyz{|}~\n":Str).length=31:=by decide +kernel
 refine ⟨(" !\"#$&'()*+,-./0123456789:;<=>?@ABCDEFGHIJKLMNOPQRSTUVWXYZ[\\]^_`" : Str) ++ "abcdefghijklmnopqrstuvwxyz{|}~\n",?_,?_,?_⟩
 ·unfold zic zs0
  rw [zee (l:=[none]) rfl,zbb (zcg (i:=0) (S':=S) rfl),zfb]
  exact zl1 (zaj rfl) rfl (by rw [l1,l2];decide)
 ·rw [Str.length_append,l1,l2];decide
 ·rw [Str.length_append,l1,l2];decide
theorem zik {n:Nat}{m:Int}{l:Lo}{S:Sto}{e:EM}(h:PQ n S) (h1:0<m) (h2:m<1073741824) (hl:l[0]? = some (some (.ref n))) (he:e l S=some (.int m,S)):∃(d:Nat) (S':Sto),zac zbp (zaa (eVar 0) (zaa e (zab))) l S=some (.int (d:Int),S')/\(d:Int)<m/\PQ n S'/\Fn n S S':=by
 obtain ⟨v,S',e1,⟨d,rfl,hd⟩,p,f⟩:=zen n m S h h1 h2
 exact ⟨d,S',by rw [zbg (zcs (zaj hl) he)];exact e1,hd,p,f⟩
theorem zko {e f:EM}{l:Lo}{S S1 S2:Sto}{i j:Int}(he:e l S=some (.int i,S1)) (hf:f l S1=some (.int j,S2)):eOp dPlusA e f l S=some (.int (i+j),S2):=by
 unfold eOp
 rw [he]
 simp only [Option.bind_some,hf]
 rfl
def TxL (B:Nat) (d:D):Prop:=∃w:Str,d=.str w/\w.length<=B
theorem zgz {e f:EM}{l:Lo}{S:Sto}{A B:Nat}(he:∃d,e l S=some (d,S)/\TxL A d) (hf:∃d,f l S=some (d,S)/\TxL B d) (hz:A+B<=sizeLine):∃d,eOp dPlusA e f l S=some (d,S)/\TxL (A+B) d:=by
 obtain ⟨_,e1,x,rfl,hx⟩:=he
 obtain ⟨_,e2,y,rfl,hy⟩:=hf
 exact ⟨_,zl1 e1 e2 (by omega),_,rfl,by rw [Str.length_append];omega⟩
theorem zfd {lo hi:OM}{l:Lo}{S:Sto}{z:Str}{a b:Option Int}(hl:l[1]? = some (some (.str z))) (h1:lo l S=some (a,S)) (h2:hi l S=some (b,S)) (hz:z.length<=sizeLine):∃d,zbk (eVar 1) lo hi l S=some (d,S)/\TxL z.length d:=⟨_,ygj (zaj hl) h1 h2 hz,_,rfl,ygk _ _ _⟩
theorem zl2 {l:Lo}{S:Sto}{i B:Nat}{d:D}(hl:l[i]? = some (some d)) (h:TxL B d):∃d,eVar i l S=some (d,S)/\TxL B d:=⟨d,zaj hl,h⟩
noncomputable def zu5:SM:=zah (sIf (tE (eOp dEq (eVar 2) (eC (.int 0)))) (sRet (eOp dPlusA (eOp dPlusA (zbk (eVar 1) (zb4) (zbf (eVar 6))) (eVar 5)) (zbk (eVar 1) (zbf (eVar 6)) (zb4)))) (zaq)) (zah (sIf (tE (eOp dEq (eVar 2) (eC (.int 1)))) (sRet (eOp dPlusA (zbk (eVar 1) (zb4) (zbf (eVar 6))) (zbk (eVar 1) (zbf (eOp dPlusA (eVar 6) (eC (.int 1)))) (zb4)))) (zaq)) (zah (sIf (tE (eOp dEq (eVar 2) (eC (.int 2)))) (sRet (eOp dPlusA (eOp dPlusA (zbk (eVar 1) (zb4) (zbf (eVar 6))) (eVar 5)) (zbk (eVar 1) (zbf (eOp dPlusA (eVar 6) (eC (.int 1)))) (zb4)))) (zaq)) (zah (sIf (tE (eOp dEq (eVar 2) (eC (.int 3)))) (zah (zak (zbk (eVar 1) (zbf (eVar 6)) (zbf (eOp dPlusA (eVar 6) (eC (.int 1))))) (gName3 7)) (zah (zak (zbk (eVar 1) (zbf (eOp dPlusA (eVar 6) (eC (.int 1)))) (zbf (eOp dPlusA (eVar 6) (eC (.int 2))))) (gName3 8)) (sRet (eOp dPlusA (eOp dPlusA (eOp dPlusA (zbk (eVar 1) (zb4) (zbf (eVar 6))) (eVar 8)) (eVar 7)) (zbk (eVar 1) (zbf (eOp dPlusA (eVar 6) (eC (.int 2)))) (zb4)))))) (zaq)) (zah (zak (eOp dPlusA (eVar 6) (zac zbp (zaa (eVar 0) (zaa (eC (.int 6)) (zab))))) (gName3 9)) (zah (zak (eOp dPlusA (zbk (eVar 1) (zb4) (zbf (eVar 9))) (zbk (eVar 1) (zbf (eVar 6)) (zb4))) (gName3 10)) (zah (zak (eOp dPlusA (zbk (eVar 1) (zb4) (zbf (eVar 6))) (zbk (eVar 1) (zbf (eVar 9)) (zb4))) (gName3 11)) (sRet (eOp zav (zac za3 (zaa (eVar 10) (zaa (eVar 11) (zab)))) (eOp zjp (eVar 2) (eC (.int 4)))))))))))
theorem ygn {n way at':Nat}{z:Str}{d3 d4 d5:D}{S:Sto}(p:PQ n S) (hw:way<6) (h5:TxL 1 d5) (hz:z.length<=4000):∃d S',(zu5 [~~~n,some (.str z),‹way›,some d3,some d4,some d5,‹at'›,none,none,none,none,none] S).bind zep=some (d,S')/\TxL (4*z.length+1) d/\PQ n S'/\Fn n S S':=by
 have sz:20000<=sizeLine:=by decide
 have no:∀(k:Int) (l:Lo) (S:Sto),l[2]? = some (some (.int (way:Int)))->(way:Int)≠k->tE (eOp dEq (eVar 2) (eC (.int k))) l S=some (false,S):=λk l S h ne=>by
  rw [eq_int (zaj h),decide_eq_false ne]
 have ye:∀(k:Int) (l:Lo) (S:Sto),l[2]? = some (some (.int (way:Int)))->(way:Int)=k->tE (eOp dEq (eVar 2) (eC (.int k))) l S=some (true,S):=λk l S h ne=>by
  rw [eq_int (zaj h),decide_eq_true ne]
 have oa:∀(l:Lo) (S:Sto),l[6]? = some (some (.int (at':Int)))->zbf (eVar 6) l S=some (some (at':Int),S):=λl S h=>zok (zaj h)
 have op:∀(j:Int) (l:Lo) (S:Sto),l[6]? = some (some (.int (at':Int)))->zbf (eOp dPlusA (eVar 6) (eC (.int j))) l S=some (some ((at':Int)+j),S):=λj l S h=>zok (zko (zaj h) rfl)
 have on:∀(l:Lo) (S:Sto),zb4 l S=some (none,S):=λ_ _=>rfl
 have fin:∀{e:EM} {b:SM} {t:TM} {l:Lo} {B:Nat},t l S=some (true,S)->(∃d,e l S=some (d,S)/\TxL B d)->B<=4*z.length+1->∃d S',((zah (sIf t (sRet e) (zaq)) b) l S).bind zep=some (d,S')/\TxL (4*z.length+1) d/\PQ n S'/\Fn n S S':=λ{e b t l B} h he hB=>by
  obtain ⟨d,e1,w,rfl,hl⟩:=he
  refine ⟨.str w,S,?_,⟨w,rfl,by omega⟩,p,Fn.refl _ _⟩
  rw [zfw (by rw [zd8 h];exact zih e1)];rfl
 have skip:∀{a b:SM} {t:TM} {l:Lo},t l S=some (false,S)->zah (sIf t a (zaq)) b l S=b l S:=λ{a b t l} h=>zbb (by rw [zd9 h];rfl)
 generalize hL:([~~~n,some (.str z),‹way›,some d3,some d4,some d5,‹at'›,none,none,none,none,none]:Lo)=L
 have L0:L[0]? = some (some (.ref n)):=by rw [<-hL];rfl
 have L1:L[1]? = some (some (.str z)):=by rw [<-hL];rfl
 have L2:L[2]? = some (some (.int (way:Int))):=by rw [<-hL];rfl
 have L5:L[5]? = some (some d5):=by rw [<-hL];rfl
 have L6:L[6]? = some (some (.int (at':Int))):=by rw [<-hL];rfl
 unfold zu5
 by_cases w0:way=0
 ·exact fin (ye 0 L S L2 (by omega)) (zgz (zgz (zfd L1 (on _ _) (oa _ _ L6) (by omega)) (zl2 L5 h5) (by omega)) (zfd L1 (oa _ _ L6) (on _ _) (by omega)) (by omega)) (by omega)
 rw [skip (no 0 L S L2 (by omega))]
 by_cases w1:way=1
 ·exact fin (ye 1 L S L2 (by omega)) (zgz (zfd L1 (on _ _) (oa _ _ L6) (by omega)) (zfd L1 (op 1 _ _ L6) (on _ _) (by omega)) (by omega)) (by omega)
 rw [skip (no 1 L S L2 (by omega))]
 by_cases w2:way=2
 ·exact fin (ye 2 L S L2 (by omega)) (zgz (zgz (zfd L1 (on _ _) (oa _ _ L6) (by omega)) (zl2 L5 h5) (by omega)) (zfd L1 (op 1 _ _ L6) (on _ _) (by omega)) (by omega)) (by omega)
 rw [skip (no 2 L S L2 (by omega))]
 by_cases w3:way=3
 ·obtain ⟨d7,e7,t7⟩:=zfd (S:=S) L1 (oa _ _ L6) (op 1 _ _ L6) (by omega)
  obtain ⟨d8,e8,t8⟩:=zfd (l:=L.set 7 (some d7)) (S:=S) (by rw [<-hL];rfl) (op 1 _ _ (by rw [<-hL];rfl)) (op 2 _ _ (by rw [<-hL];rfl)) (by omega)
  obtain ⟨d9,e9,t9⟩:=zgz (zgz (zgz (zfd (l:=(L.set 7 (some d7)).set 8 (some d8)) (S:=S) (by rw [<-hL];rfl) (on _ _) (oa _ _ (by rw [<-hL];rfl)) (show z.length<=sizeLine by omega)) (zl2 (i:=8) (by rw [<-hL];rfl) t8) (by omega)) (zl2 (i:=7) (by rw [<-hL];rfl) t7) (by omega)) (zfd (by rw [<-hL];rfl) (op 2 _ _ (by rw [<-hL];rfl)) (on _ _) (by omega)) (by omega)
  refine ⟨d9,S,?_,?_,p,Fn.refl _ _⟩
  ·rw [zfw (d:=d9) (by rw [zd8 (ye 3 L S L2 (by omega)),zbb (zcg (i:=7) e7),zbb (zcg (i:=8) e8)];exact zih e9)];rfl
  ·obtain ⟨w,rfl,hl⟩:=t9
   exact ⟨w,rfl,by omega⟩
 rw [skip (no 3 L S L2 (by omega))]
 obtain ⟨dd,S1,e9,hd,p1,f1⟩:=zik (n:=n) (m:=6) (l:=L) (S:=S) (e:=eC (.int 6)) p (by decide) (by decide) L0 rfl
 have s9:zak (eOp dPlusA (eVar 6) (zac zbp (zaa (eVar 0) (zaa (eC (.int 6)) (zab))))) (gName3 9) L S=some (.nx,L.set 9 (some (.int ((at':Int)+(dd:Int)))),S1):=zcg (zko (zaj L6) e9)
 rw [zbb s9]
 have oe:∀(l:Lo) (S:Sto),l[9]? = some (some (.int ((at':Int)+(dd:Int))))->zbf (eVar 9) l S=some (some ((at':Int)+(dd:Int)),S):=λl S h=>zok (zaj h)
 obtain ⟨d10,e10,t10⟩:=zgz (zfd (l:=L.set 9 (some (.int ((at':Int)+(dd:Int))))) (S:=S1) (by rw [<-hL];rfl) (on _ _) (oe _ _ (by rw [<-hL];rfl)) (show z.length<=sizeLine by omega)) (zfd (by rw [<-hL];rfl) (oa _ _ (by rw [<-hL];rfl)) (on _ _) (by omega)) (by omega)
 rw [zbb (zcg (i:=10) e10)]
 obtain ⟨d11,e11,t11⟩:=zgz (zfd (l:=(L.set 9 (some (.int ((at':Int)+(dd:Int))))).set 10 (some d10)) (S:=S1) (by rw [<-hL];rfl) (on _ _) (oa _ _ (by rw [<-hL];rfl)) (show z.length<=sizeLine by omega)) (zfd (by rw [<-hL];rfl) (oe _ _ (by rw [<-hL];rfl)) (on _ _) (by omega)) (by omega)
 rw [zbb (zcg (i:=11) e11),zfb]
 have q10:(((L.set 9 (some (.int ((at':Int)+(dd:Int))))).set 10 (some d10)).set 11 (some d11))[10]? = some (some d10):=by rw [<-hL];rfl
 have q11:(((L.set 9 (some (.int ((at':Int)+(dd:Int))))).set 10 (some d10)).set 11 (some d11))[11]? = some (some d11):=by rw [<-hL];rfl
 have q2:(((L.set 9 (some (.int ((at':Int)+(dd:Int))))).set 10 (some d10)).set 11 (some d11))[2]? = some (some (.int (way:Int))):=by rw [<-hL];rfl
 generalize ((L.set 9 (some (.int ((at':Int)+(dd:Int))))).set 10 (some d10)).set 11 (some d11)=L' at *
 have el:zac za3 (zaa (eVar 10) (zaa (eVar 11) (zab))) L' S1=some (.ref S1.length,S1++[.lst [d10,d11]]):=by
  rw [zbg (zcs (zaj q10) (zaj q11))]
  show (if 2<=sizeLine then _ else _)=_
  rw [if_pos (by decide)]
 have es:eOp zjp (eVar 2) (eC (.int 4)) L' (S1++[.lst [d10,d11]])=some (.int ((way:Int)-4),S1++[.lst [d10,d11]]):=by
  unfold eOp;rw [zaj q2];rfl
 have hx:∃d,zav (.ref S1.length) (.int ((way:Int)-4)) (S1++[.lst [d10,d11]])=some (d,S1++[.lst [d10,d11]])/\TxL (4*z.length+1) d:=by
  have key:∀(j:Nat) (d:D),(way:Int)-4=(j:Int)->[d10,d11][j]? = some d->zav (.ref S1.length) (.int ((way:Int)-4)) (S1++[.lst [d10,d11]])=some (d,S1++[.lst [d10,d11]]):=λj d h1 h2=>by
   obtain ⟨v,S',e1,rfl,rfl⟩:Wo (zav (.ref S1.length) (.int ((way:Int)-4)) (S1++[.lst [d10,d11]])) λv S'=>v=d/\S' = S1++[.lst [d10,d11]]:=by
    rw [zb5]
    exact ⟨_,za9,d,by rw [h1];exact atI_get h2,rfl,rfl⟩
   exact e1
  by_cases w4:way=4
  ·obtain ⟨w,rfl,hl⟩:=t10
   exact ⟨_,key 0 _ (by omega) rfl,w,rfl,by omega⟩
  ·obtain ⟨w,rfl,hl⟩:=t11
   exact ⟨_,key 1 _ (by omega) rfl,w,rfl,by omega⟩
 obtain ⟨d,ed,td⟩:=hx
 refine ⟨d,S1++[.lst [d10,d11]],?_,td,p1.gr ⟨_,rfl⟩,f1.trans (Fn.gr ⟨_,rfl⟩)⟩
 unfold eOp at es ⊢
 rw [el]
 simp only [Option.bind_some]
 rw [es]
 exact ed
theorem zu6 {n:Nat}{z:Str}{S:Sto}(h:PQ n S) (hz:z.length<=4000):∃w S',zhr [.ref n,.str z] S=some (.str w,S')/\w.length<=4*z.length+1/\PQ n S'/\Fn n S S':=by
 have sz:20000<=sizeLine:=by decide
 obtain ⟨way,S1,e1,hw,p1,f1⟩:=zik (n:=n) (m:=6) (l:=[~~~n,some (.str z),none,none,none,none,none,none,none,none,none,none]) (S:=S) (e:=eC (.int 6)) h (by decide) (by decide) rfl rfl
 obtain ⟨sg1,es,sl1,sl2⟩:=ygm S1
 have el:zac za3 (zaa (zac zic (zab)) (zaa (eVar 3) (zab))) [~~~n,some (.str z),‹way›,some (.str few),none,none,none,none,none,none,none,none] S1=some (.ref S1.length,S1++[.lst [.str sg1,.str few]]):=by
  rw [zbg (zcs (S1:=S1) (x:=.str sg1) es (zaj rfl))]
  show (if 2<=sizeLine then _ else _)=_
  rw [if_pos (by decide)]
 obtain ⟨d2,S2,e2,hd2,p2,f2⟩:=zik (n:=n) (m:=2) (l:=[~~~n,some (.str z),‹way›,some (.str few),none,none,none,none,none,none,none,none]) (S:=S1++[.lst [.str sg1,.str few]]) (e:=eC (.int 2)) (p1.gr ⟨_,rfl⟩) (by decide) (by decide) rfl rfl
 have hn:=p1.lt
 have l2:lstOf S2 S1.length=some [.str sg1,.str few]:=f2.lst (by omega) za9
 obtain ⟨sg2,hx2,b1,b2⟩:∃sg2:Str,[D.str sg1,.str few][d2]? = some (.str sg2)/\1<=sg2.length/\sg2.length<=200:=by
  have fl:=ygl
  have:d2=0\/d2=1:=by omega
  rcases this with rfl|rfl
  ·exact ⟨sg1,rfl,sl1,sl2⟩
  ·exact ⟨few,rfl,by omega,by omega⟩
 have s3:zak (eOp zav (zac za3 (zaa (zac zic (zab)) (zaa (eVar 3) (zab)))) (zac zbp (zaa (eVar 0) (zaa (eC (.int 2)) (zab))))) (gName3 4) [~~~n,some (.str z),‹way›,some (.str few),none,none,none,none,none,none,none,none] S1=some (.nx,[~~~n,some (.str z),‹way›,some (.str few),some (.str sg2),none,none,none,none,none,none,none],S2):=by
  refine zcg ?_
  obtain ⟨v,S',e3,rfl,rfl⟩:Wo (zav (.ref S1.length) (.int (d2:Int)) S2) λv S'=>v=.str sg2/\S' = S2:=by
   rw [zb5]
   exact ⟨_,l2,_,atI_get hx2,rfl,rfl⟩
  unfold eOp
  rw [el]
  simp only [Option.bind_some,e2]
  exact e3
 have ln:=len_str (e:=eVar 4) (l:=[~~~n,some (.str z),‹way›,some (.str few),some (.str sg2),none,none,none,none,none,none,none]) (S:=S2) (z:=sg2) (zaj rfl) (by omega)
 obtain ⟨d3,S3,e4,hd3,p3,f3⟩:=zik (n:=n) (m:=(sg2.length:Int)) (S:=S2) p2 (by omega) (by omega) rfl ln
 have lc:sg2.length=sg2.cps.toList.length:=by simp [Str.length]
 have s4:∃c,zak (eOp zav (eVar 4) (zac zbp (zaa (eVar 0) (zaa (zac zax (zaa (eVar 4) (zab))) (zab))))) (gName3 5) [~~~n,some (.str z),‹way›,some (.str few),some (.str sg2),none,none,none,none,none,none,none] S2=some (.nx,[~~~n,some (.str z),‹way›,some (.str few),some (.str sg2),some (.str ⟨#[c]⟩),none,none,none,none,none,none],S3):=by
  refine ⟨sg2.cps.toList[d3]'(by omega),zcg ?_⟩
  obtain ⟨v,S',e5,rfl,rfl⟩:Wo (zav (.str sg2) (.int (d3:Int)) S3) λv S'=>v=.str ⟨#[sg2.cps.toList[d3]'(by omega)]⟩/\S' = S3:=by
   rw [zc7]
   exact ⟨by omega,_,atI_get (qge (by omega)),rfl,rfl⟩
  unfold eOp
  rw [zaj (d:=.str sg2) rfl]
  simp only [Option.bind_some,e4]
  exact e5
 obtain ⟨c,s4⟩:=s4
 have ln5:=zko (len_str (e:=eVar 1) (l:=[~~~n,some (.str z),‹way›,some (.str few),some (.str sg2),some (.str ⟨#[c]⟩),none,none,none,none,none,none]) (S:=S3) (z:=z) (zaj rfl) (by omega)) (f:=eC (.int 1)) rfl
 obtain ⟨d5,S5,e6,hd5,p5,f5⟩:=zik (n:=n) (m:=(z.length:Int)+1) (S:=S3) p3 (by omega) (by omega) rfl ln5
 obtain ⟨d,S',k1,⟨w,rfl,kw⟩,k2,k3⟩:=ygn (n:=n) (way:=way) (at':=d5) (z:=z) (d3:=.str few) (d4:=.str sg2) (d5:=.str ⟨#[c]⟩) (S:=S5) p5 (by omega) ⟨⟨#[c]⟩,rfl,by show 1<=1;decide⟩ hz
 refine ⟨w,S',?_,kw,k2,f1.trans ((Fn.gr ⟨_,rfl⟩).trans (f2.trans (f3.trans (f5.trans k3))))⟩
 unfold zhr zs1
 rw [zee (l:=[~~~n,some (.str z),none,none,none,none,none,none,none,none,none,none]) rfl,zbb (zcg (i:=2) e1),zbb (zcg (i:=3) (d:=.str few) (S':=S1) rfl)]
 show ((zah _ _) [~~~n,some (.str z),‹way›,some (.str few),none,none,none,none,none,none,none,none] S1).bind zep=_
 rw [zbb s3,zbb s4,zbb (zcg (i:=6) e6)]
 exact k1
noncomputable def zil (ks:List Nat):Str:=⟨ks.toArray⟩
theorem zim (ks:List Nat):(zil ks).cps.toList=ks:=rfl
theorem zhf (ks:List Nat):(zil ks).length=ks.length:=by rw [TX.len_eq,zim]
theorem zl3:∀ks:List Nat,Str.join "" (ks.map λk=>(⟨#[k]⟩:Str))=zil ks
 | []=>by decide +kernel
 | [k]=>rfl
 | k :: j :: r=>TX.str_ext (by
  show (Str.join "" ((⟨#[k]⟩:Str) :: ⟨#[j]⟩ :: r.map λk=>(⟨#[k]⟩:Str))).cps.toList=_
  have ih:=zl3 (j :: r)
  have ih:Str.join "" ((⟨#[j]⟩:Str) :: r.map λk=>(⟨#[k]⟩:Str))=zil (j :: r):=ih
  have e:("":Str).cps.toList=[]:=by decide +kernel
  rw [TX.join_cons,ih,e];rfl)
noncomputable def sgo:Option Nat->Nat
 | none=>45
 | some k=>48+k
noncomputable def pt:Option Nat->Str
 | none=>"-"
 | some k=>nt k
theorem zu7 {g:Option Nat}(h:∀j,g=some j->j<8):pt g=⟨#[sgo g]⟩:=by
 cases g with
 | none=>exact (zkf 45).mpr rfl |>.symm
 | some k=>exact zlq (h k rfl)
noncomputable def wt (as:List Nat):Str:=zil (as.map (48 + ·))
noncomputable def ot (os:List (Option Nat)):Str:=zil (os.map sgo)
theorem ygo {as:List Nat}(h:∀k∈as,k<8):Str.join "" (as.map nt)=wt as:=by
 unfold wt
 rw [<-zl3,List.map_map]
 exact congrArg _ (List.map_congr_left λa ha=>zlq (h a ha))
theorem zu8 {os:List (Option Nat)}(h:∀g∈os,∀j,g=some j->j<8):Str.join "" (os.map pt)=ot os:=by
 unfold ot
 rw [<-zl3,List.map_map]
 exact congrArg _ (List.map_congr_left λg hg=>zu7 (h g hg))
abbrev TR:=List Nat × List (Option Nat)
noncomputable def rt (r:TR):Str:=wt r.1++" "++ot r.2
noncomputable def st (rs:List TR):Str:=if rs=[] then "none" else Str.join "; " (rs.map rt)
noncomputable def nT (ps:List Str):Str:=if ps=[] then "none" else Str.join " + " ps
theorem ygp:TX.Mk " " 32 0:=⟨by decide +kernel,λi h=>by omega,by decide +kernel⟩
theorem ygq:TX.Mk "; " 59 0:=⟨by decide +kernel,λi h=>by omega,by decide +kernel⟩
theorem ygr:TX.Mk " + " 43 1:=⟨by decide +kernel,(λi h=>by
  have e:i=0:=by omega
  subst e;decide +kernel),by decide +kernel⟩
theorem zu9 {as:List Nat}{c:Nat}(h:c∈(wt as).cps.toList) (h8:∀k∈as,k<8):48<=c/\c<56:=by
 unfold wt at h
 rw [zim] at h
 obtain ⟨k,hk,rfl⟩:=List.mem_map.mp h
 have:=h8 k hk
 omega
theorem zva {os:List (Option Nat)}{c:Nat}(h:c∈(ot os).cps.toList) (h8:∀g∈os,∀j,g=some j->j<8):c=45\/(48<=c/\c<56):=by
 unfold ot at h
 rw [zim] at h
 obtain ⟨g,hg,rfl⟩:=List.mem_map.mp h
 cases g with
 | none=>exact .inl rfl
 | some k=>have:=h8 _ hg k rfl;show 48+k=45\/(48<=48+k/\48+k<56);omega
theorem OkT.a8 {a:Nat}{r:TR}(h:OkT a r) (ha:a<=8):∀k∈r.1,k<8:=λk hk=>Nat.lt_of_lt_of_le (h.as k hk) ha
theorem zl4 {α β:Type}{F:α->Option β}{g:β->α}:∀xs:List β,(∀x∈xs,F (g x)=some x)->za7 F (xs.map g)=some xs
 | [],_=>rfl
 | x :: xs,h=>by
  have h1:=h x List.mem_cons_self
  have h2:=zl4 (F:=F) (g:=g) xs λy hy=>h y (List.mem_cons_of_mem _ hy)
  rw [List.map_cons]
  unfold za7
  rw [h1,h2];rfl
theorem ygs {a:Nat}{as:List Nat}(h:∀k∈as,k<a) (ha:a<=8) (h1:1<=as.length):zhd a (wt as)=some as:=by
 have n1:¬wt as = "-":=λz=>by
  obtain ⟨k,r,rfl⟩:=List.exists_cons_of_ne_nil (show as≠[] from λz=>by rw [z] at h1;simp at h1)
  have m:48+k∈(wt (k :: r)).cps.toList:=by unfold wt;rw [zim];simp
  rw [z] at m
  have e2:("-":Str).cps.toList=[45]:=by decide +kernel
  rw [e2] at m
  have:=List.mem_singleton.mp m
  omega
 have n2:¬wt as = "":=λz=>by
  have e:=congrArg Str.length z
  have e2:("":Str).length=0:=by decide +kernel
  unfold wt at e
  rw [zhf,qlm,e2] at e;omega
 unfold zhd
 rw [if_neg n1,if_neg n2]
 unfold wt
 rw [zim]
 refine zl4 as λk hk=>?_
 have:=h k hk
 unfold zch
 rw [if_pos (by omega)]
 congr 1;omega
theorem ygt {os:List (Option Nat)}(h:∀g∈os,∀j,g=some j->j<8):za7 zct (ot os).cps.toList=some os:=by
 unfold ot
 rw [zim]
 refine zl4 os λg hg=>?_
 cases g with
 | none=>unfold sgo zct;rw [if_pos rfl]
 | some k =>
  have:=h _ hg k rfl
  show zct (48+k)=_
  unfold zct zch
  rw [if_neg (by omega),if_pos (by omega)]
  show some (some (48+k-48))=_
  congr 2;omega
theorem ygu {a:Nat}{r:TR}(h:OkT a r) (ha:a<=8):Txt.split (rt r) " " = [wt r.1,ot r.2]:=by
 refine TX.split_join ygp [wt r.1,ot r.2] (by simp) λp hp hk=>?_
 rcases List.mem_cons.mp hp with rfl|hp
 ·have:=zu9 hk (h.a8 ha);omega
 ·rw [List.mem_singleton.mp hp] at hk
  have:=zva hk h.os;omega
theorem ygv {a:Nat}{r:TR}(h:OkT a r) (ha:a<=8):zcw a (rt r)=some r:=by
 unfold zcw
 rw [ygu h ha]
 show (zhd a (wt r.1)).bind _=_
 rw [ygs h.as ha h.l1]
 show (za7 zct (ot r.2).cps.toList).bind _=_
 rw [ygt h.os]
 show (if _ then _ else _)=_
 rw [if_pos ⟨⟨h.l1,h.l12⟩,h.ll⟩]
theorem zol {a:Nat}{r:TR}{c:Nat}(h:OkT a r) (ha:a<=8) (hc:c∈(rt r).cps.toList):c=32\/c=45\/(48<=c/\c<56):=by
 unfold rt at hc
 simp only [Str.cps_append,Array.toList_append,List.mem_append] at hc
 rcases hc with (hc|hc)|hc
 ·exact .inr (.inr (zu9 hc (h.a8 ha)))
 ·have e:(" ":Str).cps.toList=[32]:=by decide +kernel
  rw [e] at hc
  exact .inl (List.mem_singleton.mp hc)
 ·exact .inr (zva hc h.os)
theorem zvb:110∈("none":Str).cps.toList:=by decide +kernel
theorem ygw {a:Nat}{rs:List TR}(h:∀r∈rs,OkT a r) (ha:a<=8) (h24:rs.length<=24):zgy a (st rs)=some rs:=by
 have e:pcs (st rs) "; " = rs.map rt:=by
  unfold pcs st
  by_cases hn:rs=[]
  ·subst hn;rw [if_pos rfl,if_pos rfl];rfl
  ·rw [if_neg hn]
   have n1:¬Str.join "; " (rs.map rt) = "none":=λz=>by
    have m:=zvb
    rw [<-z] at m
    rcases TX.mem_join _ m with m|⟨p,hp,m⟩
    ·revert m;decide +kernel
    ·obtain ⟨r,hr,rfl⟩:=List.mem_map.mp hp
     have:=zol (h r hr) ha m;omega
   rw [if_neg n1]
   refine TX.split_join ygq (rs.map rt) (λz=>hn (List.map_eq_nil_iff.mp z)) λp hp hk=>?_
   obtain ⟨r,hr,rfl⟩:=List.mem_map.mp hp
   have:=zol (h r hr) ha hk;omega
 unfold zgy
 rw [e,qlm,if_pos h24]
 exact zl4 rs λr hr=>ygv (h r hr) ha
theorem ygx {v:Nat}{ps:List Str}(h:ps.all (zbd v)=true) (h40:ps.length<=40):zhe v (nT ps)=some ps:=by
 have hs:∀p∈ps,∀c∈p.cps.toList,c=48\/c=49\/c=45:=λp hp c hc=>by
  have:=List.all_eq_true.mp h p hp
  unfold zbd at this
  rw [Bool.and_eq_true] at this
  exact zoi (List.all_eq_true.mp this.2 c hc)
 have e:pcs (nT ps) " + " = ps:=by
  unfold pcs nT
  by_cases hn:ps=[]
  ·subst hn;rw [if_pos rfl,if_pos rfl]
  ·rw [if_neg hn]
   have n1:¬Str.join " + " ps = "none":=λz=>by
    have m:=zvb
    rw [<-z] at m
    rcases TX.mem_join _ m with m|⟨p,hp,m⟩
    ·revert m;decide +kernel
    ·have:=hs p hp _ m;omega
   rw [if_neg n1]
   refine TX.split_join ygr ps hn λp hp hk=>?_
   have:=hs p hp _ hk;omega
 unfold zhe
 rw [e,if_pos h40,if_pos h]
theorem zkp {B:Nat}:∀(ts:List Str),(∀t∈ts,t.length<=B)->(ts.map (·.length)).sum<=B*ts.length
 | [],_=>by simp
 | t :: ts,h=>by
  have h1:=h t List.mem_cons_self
  have h2:=zkp ts λu hu=>h u (List.mem_cons_of_mem _ hu)
  simp only [List.map_cons,List.sum_cons,List.length_cons,Nat.mul_add,Nat.mul_one];omega
theorem zje:(" ":Str).length=1:=by decide +kernel
theorem zvc {a:Nat}{r:TR}(h:OkT a r):(rt r).length=2*r.1.length+1:=by
 have:=h.ll
 unfold rt wt ot
 rw [Str.length_append,Str.length_append,zhf,zhf,qlm,qlm,zje];omega
theorem zl5 {a:Nat}{rs:List TR}(h:∀r∈rs,OkT a r) (h24:rs.length<=24):((rs.map rt).map (·.length)).sum+(rs.map rt).length*("; ":Str).length<=700:=by
 have h1:=zkp (B:=25) (rs.map rt) λt ht=>by
  obtain ⟨r,hr,rfl⟩:=List.mem_map.mp ht
  rw [zvc (h r hr)]
  have:=(h r hr).l12;omega
 have e:("; ":Str).length=2:=by decide +kernel
 rw [qlm] at h1
 rw [e,qlm];omega
theorem zvd:("none":Str).length=4:=by decide +kernel
theorem zve {a:Nat}{rs:List TR}(h:∀r∈rs,OkT a r) (h24:rs.length<=24):(st rs).length<=700:=by
 unfold st
 split
 ·rw [zvd];decide
 ·exact Nat.le_trans (StrLaws.join_length_le _ _) (zl5 h h24)
theorem zl6 {v:Nat}{ps:List Str}(h:ps.all (zbd v)=true) (hv:v<=5) (h40:ps.length<=40):(ps.map (·.length)).sum+ps.length*(" + ":Str).length<=700:=by
 have h1:=zkp (B:=5) ps λp hp=>by
  have:=List.all_eq_true.mp h p hp
  unfold zbd at this
  rw [Bool.and_eq_true] at this
  have:=of_decide_eq_true this.1;omega
 have e:(" + ":Str).length=3:=by decide +kernel
 rw [e];omega
theorem zvf {v:Nat}{ps:List Str}(h:ps.all (zbd v)=true) (hv:v<=5) (h40:ps.length<=40):(nT ps).length<=700:=by
 unfold nT
 split
 ·rw [zvd];decide
 ·exact Nat.le_trans (StrLaws.join_length_le _ _) (zl6 h hv h40)
theorem zvg {y p:Str}:∀r:List Str,p.length<=(Str.join y (p :: r)).length
 | []=>qlr _
 | q :: r=>by
  rw [TX.len_eq (Str.join _ _),TX.join_cons,TX.len_eq p]
  simp only [qla];omega
theorem ygy {a:Nat}{rs:List TR}(h:∀r∈rs,OkT a r) (hn:rs≠[]):(Str.join "; " (rs.map rt)).length≠0:=by
 obtain ⟨r,q,rfl⟩:=List.exists_cons_of_ne_nil hn
 have h1:=zvg (y:="; ") (p:=rt r) (q.map rt)
 have h2:=zvc (h r List.mem_cons_self)
 rw [List.map_cons];omega
theorem ygz {v:Nat}{ps:List Str}(h:ps.all (zbd v)=true) (hv:1<=v) (hn:ps≠[]):(Str.join " + " ps).length≠0:=by
 obtain ⟨p,q,rfl⟩:=List.exists_cons_of_ne_nil hn
 have h1:=zvg (y:=" + ") (p:=p) q
 have:=List.all_eq_true.mp h p List.mem_cons_self
 unfold zbd at this
 rw [Bool.and_eq_true] at this
 have:=of_decide_eq_true this.1
 omega
theorem zvh {o:Option (D × Sto)}{x:D}{S:Sto}(h:Wo o λv S'=>v=x/\S' = S):o=some (x,S):=by
 obtain ⟨v,S',e,rfl,rfl⟩:=h;exact e
theorem zd4 {n:Nat}(h:n<=10000):n<=sizeLine:=Nat.le_trans h (by decide)
theorem zl7 {α:Type}(f:α->Str) (xs:List α):xs.map (λx=>D.str (f x))=(xs.map f).map D.str:=by rw [List.map_map];rfl
theorem zom {k:Nat}(h:k<8):((k:Nat):Int).natAbs.log2<1920:=zll (Nat.lt_trans h (by decide))
theorem zl8 {α:Type}{f:α->Str}{xs:List α}(h:∀x∈xs,(f x).length<=1) (hl:xs.length<=12):((xs.map f).map (·.length)).sum+(xs.map f).length*("":Str).length<=16777216:=by
 have h1:=zkp (B:=1) (xs.map f) λt ht=>by
  obtain ⟨a,ha,rfl⟩:=List.mem_map.mp ht
  exact h a ha
 have e:("":Str).length=0:=by decide +kernel
 rw [qlm] at h1
 rw [e];omega
theorem zvi {g:Option Nat}(h:∀j,g=some j->j<8):(pt g).length<=1:=by rw [zu7 h];exact qlr 1
theorem yg0 {k:Nat}(h:k<8):(nt k).length<=1:=by rw [zlq h];exact qlr 1
theorem yg1 {os:List (Option Nat)}{S:Sto}(h8:∀g∈os,∀j,g=some j->j<8) (hl:os.length<=12):Wo (zj7 [aD os] S) λv S'=>v=.str (ot os)/\Gr S S':=by
 have sz2:2<=sizeLine:=by decide
 unfold zj7 zs3 aD
 dsimp! only [zbx]
 rw [zb1,zcc,za1]
 refine ⟨rfl,?_⟩
 rw [zaw]
 refine zlm os oD (λg=>.str (pt g)) (λS'=>Gr S S') (λl=>∃y,l=[y]) (znq rfl) (Gr.refl _) ⟨_,rfl⟩ (λi S _=>rfl) (zd4 (by omega)) ?_ ?_
 ·rintro g l S' hg ⟨y,rfl⟩ gr
  simp only [za6,qs0]
  refine ⟨⟨_,rfl⟩,?_⟩
  cases g with
  | none =>
   simp only [zbx,zb6,zbw,zbu,zba,zar,za1,zbn,zb1,zcn,zbv,za6,zdd,zc1,zc2,zc3,zay,zcm,zcc,zaw,zat,zdc,zcz,zc0,zds,zck,zde,zcv,zdo,zdl,zdm,zdn,zd2,zdz,zdf,zb5,zc7,zdg,zdh,zd0,zco,zd1,zcp,zb7,zcu,zc4,zdk,zc5,zdt,zdu,zc8,List.map_cons,List.map_nil,List.length_cons,List.length_nil,Nat.reduceAdd,Nat.reduceSub,List.replicate,List.cons_append,List.nil_append,qg0,qg1,qs0,qs1,zau,zbe,zbo,zdj,zdx,zdy,zdv,zdw,za9,decide_eq_true_eq,oD,zf5,ydx,sz2,Bool.not_true,qbf,if_false,pt,true_and]
   first|exact ⟨nofun,gr.push _⟩|exact gr.push _
  | some k =>
   simp only [zbx,zb6,zbw,zbu,zba,zar,za1,zbn,zb1,zcn,zbv,za6,zdd,zc1,zc2,zc3,zay,zcm,zcc,zaw,zat,zdc,zcz,zc0,zds,zck,zde,zcv,zdo,zdl,zdm,zdn,zd2,zdz,zdf,zb5,zc7,zdg,zdh,zd0,zco,zd1,zcp,zb7,zcu,zc4,zdk,zc5,zdt,zdu,zc8,List.map_cons,List.map_nil,List.length_cons,List.length_nil,Nat.reduceAdd,Nat.reduceSub,List.replicate,List.cons_append,List.nil_append,qg0,qg1,qs0,qs1,zau,zbe,zbo,zdj,zdx,zdy,zdv,zdw,za9,decide_eq_true_eq,oD,nD,zf5,ydy,zom (h8 _ hg k rfl),sz2,Bool.not_false,if_true,pt,nt,true_and]
   first|exact ⟨nofun,gr.push _⟩|exact gr.push _
 ·intro S' gr
  rw [zl7 pt]
  simp only [zat,zho,za9,zbe,zhp]
  exact ⟨zl8 (λg hg=>zvi (h8 g hg)) hl,by rw [zu8 h8],gr.push _⟩
theorem yg2 {g:Option Nat}{S:Sto}(h:∀j,g=some j->j<8):zj8 [oD g] S=some (.str (pt g),S):=by
 apply zvh
 unfold zj8 zs5
 dsimp! only [zbx]
 cases g with
 | none=>simp only [zbx,zb6,zbw,zbu,zba,zar,za1,zbn,zb1,zcn,zbv,za6,zdd,zc1,zc2,zc3,zay,zcm,zcc,zaw,zat,zdc,zcz,zc0,zds,zck,zde,zcv,zdo,zdl,zdm,zdn,zd2,zdz,zdf,zb5,zc7,zdg,zdh,zd0,zco,zd1,zcp,zb7,zcu,zc4,zdk,zc5,zdt,zdu,zc8,List.map_cons,List.map_nil,List.length_cons,List.length_nil,Nat.reduceAdd,Nat.reduceSub,List.replicate,List.cons_append,List.nil_append,qg0,qg1,qs0,qs1,zau,zbe,zbo,zdj,zdx,zdy,zdv,zdw,za9,decide_eq_true_eq,oD,zf5,if_true,pt,and_self]
 | some k=>simp only [zbx,zb6,zbw,zbu,zba,zar,za1,zbn,zb1,zcn,zbv,za6,zdd,zc1,zc2,zc3,zay,zcm,zcc,zaw,zat,zdc,zcz,zc0,zds,zck,zde,zcv,zdo,zdl,zdm,zdn,zd2,zdz,zdf,zb5,zc7,zdg,zdh,zd0,zco,zd1,zcp,zb7,zcu,zc4,zdk,zc5,zdt,zdu,zc8,List.map_cons,List.map_nil,List.length_cons,List.length_nil,Nat.reduceAdd,Nat.reduceSub,List.replicate,List.cons_append,List.nil_append,qg0,qg1,qs0,qs1,zau,zbe,zbo,zdj,zdx,zdy,zdv,zdw,za9,decide_eq_true_eq,oD,nD,zf5,qbf,if_false,pt,nt,and_self,zom (h k rfl)]
theorem zvj {os:List (Option Nat)}{S:Sto}(h8:∀g∈os,∀j,g=some j->j<8) (hl:os.length<=12):Wo (zid [aD os] S) λv S'=>v=.str (ot os)/\Gr S S':=by
 unfold zid zs6 aD
 dsimp! only [zbx]
 rw [zb1,zcc,za1]
 refine ⟨rfl,?_⟩
 rw [zaw]
 refine zlm os oD (λg=>.str (pt g)) (λS'=>S' = S) (λl=>∃y,l=[y]) (znq rfl) rfl ⟨_,rfl⟩ (λi S _=>rfl) (zd4 (by omega)) ?_ ?_
 ·rintro g l S' hg ⟨y,rfl⟩ rfl
  simp only [za6,qs0]
  refine ⟨⟨_,rfl⟩,?_⟩
  simp only [zay,zaw,zat,zar,qg0,zau,yg2 (h8 g hg),zbs,and_self]
 ·rintro S' rfl
  rw [zl7 pt]
  simp only [zat,zho,za9,zbe,zhp]
  exact ⟨zl8 (λg hg=>zvi (h8 g hg)) hl,by rw [zu8 h8],_,rfl⟩
theorem yg3 (as:List Nat):wD as=aD (as.map some):=by
 unfold wD aD;rw [List.map_map];rfl
theorem yg4 (as:List Nat):ot (as.map some)=wt as:=by
 unfold ot wt;rw [List.map_map];rfl
theorem yg5 {as:List Nat}{S:Sto}(h8:∀k∈as,k<8) (h1:1<=as.length) (hl:as.length<=12):Wo (zj9 [wD as] S) λv S'=>v=.str (wt as)/\Gr S S':=by
 have key:=zvj (os:=as.map some) (S:=S) (λg hg j e=>by
  obtain ⟨k,hk,rfl⟩:=List.mem_map.mp hg
  cases e;exact h8 _ hk) (by rw [qlm];exact hl)
 rw [<-yg3,yg4] at key
 have ln:(wt as).length=as.length:=by unfold wt;rw [zhf,qlm]
 unfold zj9 zs7
 dsimp! only [zbx]
 rw [zb1,znv,zay]
 simp only [zaw,zat,zar,qg0,zau]
 refine key.mono ?_
 rintro v S1 ⟨rfl,g⟩
 refine ⟨_,rfl,zd4 (by omega),?_⟩
 rw [if_neg (by omega)]
 exact ⟨rfl,g⟩
theorem zvk (z:Str):Str.empty++z=z:=TX.str_ext (by rw [Str.cps_append];show (#[]++z.cps).toList=_;simp)
theorem yg6 {a n:Nat}{rs:List TR}{S:Sto}(hn:lstOf S n=some (rs.map tD)) (ok:∀r∈rs,OkT a r) (ha:a<=8) (h24:rs.length<=24):Wo (zka [.ref n] S) λv S'=>v=.str (st rs)/\Gr S S':=by
 unfold zka zs8
 dsimp! only [zbx]
 rw [zb1,znv,zcc,za1]
 refine ⟨rfl,?_⟩
 rw [zaw]
 refine zlm rs tD (λr=>.str (rt r)) (λS'=>Gr S S') (λl=>∃y z,l=[y,z]) (zse rfl hn) (Gr.refl _) ⟨_,_,rfl⟩ (λi S g=>zsf (g.lst hn)) (zd4 (by omega)) ?_ ?_
 ·rintro r l S' hr ⟨y,z,rfl⟩ gr
  have okr:=ok r hr
  have l12:=okr.l12
  have ll:=okr.ll
  have lw:(wt r.1).length=r.1.length:=by unfold wt;rw [zhf,qlm]
  have lo:(ot r.2).length=r.1.length:=by unfold ot;rw [zhf,qlm,ll]
  simp only [tD,zc1,zc3,zc2,za6,qs0,qs1,List.length_cons,List.length_nil,Nat.reduceAdd,true_and]
  refine ⟨⟨_,_,rfl⟩,?_⟩
  rw [znu,zsl,zay]
  simp only [zaw,zat,zar,qg0,zau]
  refine (yg5 (okr.a8 ha) okr.l1 l12).mono ?_
  rintro v S1 ⟨rfl,g1⟩
  refine ⟨_,if_pos (zd4 (by omega)),_,rfl,?_,?_⟩
  ·rw [zvk];exact zd4 (by omega)
  rw [zvk,znu,za1]
  refine ⟨_,rfl,?_,?_⟩
  ·rw [Str.length_append,zje];exact zd4 (by omega)
  rw [znu,zsl,zay]
  simp only [zaw,zat,zar,qg0,qg1,zau]
  refine (zvj okr.os (by omega)).mono ?_
  rintro v S2 ⟨rfl,g2⟩
  have lz:(wt r.1++" "++ot r.2).length<=sizeLine:=by rw [Str.length_append,Str.length_append,zje];exact zd4 (by omega)
  refine ⟨_,if_pos (zd4 (by omega)),_,rfl,lz,?_⟩
  rw [ydq]
  exact ⟨lz,rfl,gr.trans (g1.trans g2)⟩
 ·intro S' gr
  rw [zl7 rt]
  simp only [zat,zho,za9,zbe,zhp]
  refine ⟨Nat.le_trans (zl5 ok h24) (by decide),_,rfl,?_,?_⟩
  ·exact zd4 (Nat.le_trans (StrLaws.join_length_le _ _) (Nat.le_trans (zl5 ok h24) (by decide)))
  by_cases hn:rs=[]
  ·subst hn
   rw [if_pos (by decide +kernel),za1]
   exact ⟨by unfold st;rw [if_pos rfl],gr.push _⟩
  ·rw [if_neg (ygy ok hn)]
   exact ⟨by unfold st;rw [if_neg hn],gr.push _⟩
theorem yg7 {v:Nat}{ps:List Str}{S:Sto}(h:ps.all (zbd v)=true) (h1:1<=v) (hv:v<=5) (h40:ps.length<=40):zkb [.tup (ps.map D.str)] S=some (.str (nT ps),S):=by
 apply zvh
 unfold zkb zs9
 dsimp! only [zbx]
 rw [zb1,znv,zcc,za1]
 refine ⟨rfl,?_⟩
 simp only [zaw,zat,zar,qg0,zau]
 rw [ydu (Nat.le_trans (zl6 h hv h40) (by decide))]
 refine ⟨_,rfl,zd4 (Nat.le_trans (StrLaws.join_length_le _ _) (Nat.le_trans (zl6 h hv h40) (by decide))),?_⟩
 by_cases hn:ps=[]
 ·subst hn
  rw [if_pos (by decide +kernel),za1]
  exact ⟨by unfold nT;rw [if_pos rfl],rfl⟩
 ·rw [if_neg (ygz h h1 hn)]
  exact ⟨by unfold nT;rw [if_neg hn],rfl⟩
theorem yg8 {S:Sto}{x y:D}{p q:PyData}{Q:D->Sto->Prop}(h1:zap S 60 x=some p) (h2:zap S 60 y=some q) (c1:p.canLay0=true) (c2:q.canLay0=true):Wo (zfj x y S) Q=Q (.bl (p.eqv q)) S:=by
 have:zfj x y S=some (.bl (p.eqv q),S):=by unfold zfj;rw [h1];show (zap S 60 y).bind _=_;rw [h2];show (if _ then _ else _)=_;rw [if_pos ⟨c1,c2⟩]
 rw [this];exact zbs
theorem zon {z:Str}(h:∀c∈z.cps.toList,c<128):PyData.strOk z=true:=by
 unfold PyData.strOk
 rw [Array.all_eq_true']
 intro c hc
 have:=h c (by simpa using hc)
 simp
 omega
theorem zvl {v:Nat}{ps:List Str}(h:ps.all (zbd v)=true):∀p∈ps,∀c∈p.cps.toList,c=48\/c=49\/c=45:=λp hp c hc=>by
 have:=List.all_eq_true.mp h p hp
 unfold zbd at this
 rw [Bool.and_eq_true] at this
 exact zoi (List.all_eq_true.mp this.2 c hc)
theorem zvm (S:Sto) (k:Nat) (ps:List Str):zap S (k+2) (.tup (ps.map D.str))=some (.tuple (ps.map PyData.str)):=by
 rw [zap,zhx ps λp _=>(by unfold zap;rfl)];rfl
theorem zvn {v:Nat}{ps:List Str}(h:ps.all (zbd v)=true):(PyData.tuple (ps.map PyData.str)).canLay0=true:=by
 unfold PyData.canLay0
 refine zjd ps λp hp=>?_
 unfold PyData.canLay0
 exact zon λc hc=>by have:=zvl h p hp c hc;omega
theorem yg9 {S:Sto}{xs:List D}{Q:D->Sto->Prop}:Wo (zg3 [.tup xs] S) Q=Q (.ref S.length) (S++[.lst xs]):=zbs
theorem zoo {v:Nat}{ps:List Str}{S:Sto}(h:ps.all (zbd v)=true) (hv:v<=5) (h40:ps.length<=40):Wo (zhb [.tup (ps.map D.str)] S) λv S'=>v=.str (nT ps)/\Gr S S':=by
 have sz0:0<=sizeLine:=by decide
 unfold zhb zs2
 dsimp! only [zbx]
 rw [zb6,zbw]
 have e0:(D.tup []:D)=.tup (([]:List Str).map D.str):=rfl
 simp only [zbu,zba,zay,zat,zar,qg0,zau,zcp,List.length_nil,sz0,true_and,e0]
 rw [yg8 (zvm S 58 ps) (zvm S 58 []) (zvn h) (zvn (v:=v) (ps:=[]) rfl)]
 simp only [zbo]
 cases ps with
 | nil =>
  have:PyData.eqv (.tuple (([]:List Str).map PyData.str)) (.tuple (([]:List Str).map PyData.str))=true:=by simp [PyData.eqv,PyData.eqvAll]
  rw [this,if_pos rfl]
  simp only [zb1,za1]
  exact ⟨rfl,Gr.refl S⟩
 | cons p r =>
  have:PyData.eqv (.tuple ((p :: r).map PyData.str)) (.tuple (([]:List Str).map PyData.str))=false:=by simp [PyData.eqv,PyData.eqvAll]
  rw [this,if_neg (by decide)]
  simp only [zbv]
  rw [zb1,zcc,za1]
  refine ⟨rfl,?_⟩
  simp only [zaw,zat,zay,zar,qg0,zau,yg9,zho,za9,zbe,zhp]
  exact ⟨Nat.le_trans (zl6 h hv h40) (by decide),by unfold nT;rw [if_neg (by simp)],_,rfl⟩
theorem zl9 {a n:Nat}{rs:List TR}{S:Sto}(hn:S[n]? = some (.lst (rs.map tD))) (ok:∀r∈rs,OkT a r) (ha:a<=8) (h24:rs.length<=24):Wo (zgx [.ref n] S) λv S'=>v=.str (st rs)/\Gr S S':=by
 have sz0:0<=sizeLine:=by decide
 unfold zgx zs4
 dsimp! only [zbx]
 rw [zb6,zbw]
 simp only [zbu,zba,zay,zat,zar,qg0,zau,zb7,List.length_nil,sz0,true_and]
 rw [zsc (Gr.get ⟨_,rfl⟩ hn) (zd5 _ _)]
 simp only [zbo]
 cases he:(rs.map tD).isEmpty with
 | true =>
  have e:rs=[]:=by simpa using he
  subst e
  rw [if_pos rfl]
  simp only [zb1,za1]
  exact ⟨rfl,_,rfl⟩
 | false =>
  have hne:rs≠[]:=λz=>by subst z;cases he
  rw [if_neg (by decide)]
  simp only [zbv]
  have g0:Gr S (S++[Ob.lst []]):=⟨_,rfl⟩
  generalize S++[Ob.lst []]=S0 at g0
  have hm:S.length<=S0.length:=g0.len
  rw [zb6]
  simp only [zbn,zay,zat,zb7,List.length_nil,sz0,true_and,za6,qs0,qs1]
  rw [zb6]
  refine ydk (n:=n) (rs.map tD) (λi l S'=>Gr S S'/\S'[S0.length]? = some (.lst (((rs.take i).map rt).map D.str))/\∃y2 y3,l=[~~~n,some (.ref S0.length),y2,y3]) (λ_ _=>False) rfl ⟨g0.push _,zd5 _ _,_,_,rfl⟩ (λi l S' q=>q.1.lst (zcf hn)) ?_ ?_ (λd l S' q=>q.elim)
  ·rintro i x l S1 hx ⟨g1,h1,y2,y3,rfl⟩
   rw [qgm] at hx
   obtain ⟨r,hr,rfl⟩:=Option.map_eq_some_iff.mp hx
   have okr:=ok r (qmg hr)
   have hi:i<rs.length:=(qme hr).1
   have l12:=okr.l12
   have ll:=okr.ll
   have lw:(wt r.1).length=r.1.length:=by unfold wt;rw [zhf,qlm]
   have lo:(ot r.2).length=r.1.length:=by unfold ot;rw [zhf,qlm,ll]
   simp only [tD,zc1,zc3,zc2,za6,qs0,qs1,List.length_cons,List.length_nil,Nat.reduceAdd,true_and]
   rw [zcn,zcm,zar]
   simp only [qg0,qg1,zau]
   refine ⟨⟨_,zcf h1⟩,?_⟩
   rw [zaw,zba,zba,zcc,za1]
   refine ⟨rfl,?_⟩
   rw [zaw]
   refine zlm r.1 nD (λk=>.str (nt k)) (λS'=>S' = S1) (λl=>∃y,l=[y]) (znq (xs:=r.1.map nD) rfl) rfl ⟨_,rfl⟩ (λi S _=>rfl) (zd4 (by omega)) ?_ ?_
   ·rintro k l S' hk ⟨y,rfl⟩ rfl
    simp only [za6,qs0]
    refine ⟨⟨_,rfl⟩,?_⟩
    simp only [zay,zaw,zat,zar,qg0,zau,nD,zc8,zom (okr.a8 ha k hk),true_and]
    first|exact ⟨rfl,rfl⟩|exact ⟨nofun,nofun⟩
   ·rintro S' rfl
    rw [zl7 nt]
    simp only [zat,zho,za9,zbe,zhp]
    refine ⟨zl8 (λk hk=>yg0 (okr.a8 ha k hk)) l12,?_⟩
    rw [ygo (okr.a8 ha),za1,zsg]
    refine ⟨zd4 (by rw [zje];omega),?_⟩
    rw [zay]
    simp only [zaw,zat,zar,qg0,qg1,zau]
    refine (yg1 okr.os (by omega)).mono ?_
    rintro v S2 ⟨rfl,g2⟩
    rw [zsg]
    refine ⟨zd4 (by rw [Str.length_append,zje];omega),?_⟩
    have g12:Gr S' S2:=((Gr.refl S').push _).trans g2
    have h2:=g12.get h1
    rw [zjz]
    refine ⟨_,h2,by rw [qlm,qlm,List.length_take];exact Nat.lt_of_le_of_lt (Nat.min_le_right _ _) (Nat.lt_of_le_of_lt h24 (by decide)),.inl ⟨(by first|exact .inl rfl|exact .inl trivial|trivial),(g1.trans g12).set hm _,?_,_,_,rfl⟩⟩
    rw [zie h2,List.take_add_one,hr]
    simp [rt]
  ·rintro l S1 ⟨g1,h1,y2,y3,rfl⟩
   rw [qlm,List.take_length] at h1
   rw [zb1,zcc,za1]
   refine ⟨rfl,?_⟩
   simp only [zaw,zat,zar,qg0,qg1,zau,zho,zcf h1,zbe,zhp]
   exact ⟨Nat.le_trans (zl5 ok h24) (by decide),by unfold st;rw [if_neg hne],g1⟩
theorem Fn.set' {n r:Nat}{A B:Sto}{o:Ob}(h:Fn n A B) (hr:A.length<=r):Fn n A (B.set r o):=λj o' hj e=>by
 have:=(qme e).1
 rw [List.getElem?_set_ne (by omega)];exact h j o' hj e
theorem PQ.set {n r:Nat}{S:Sto}{o:Ob}(h:PQ n S) (hr:r≠n):PQ n (S.set r o):=let ⟨x,y,z,e,q⟩:=h;⟨x,y,z,by rw [List.getElem?_set_ne hr];exact e,q⟩
theorem Fn.len {n:Nat}{A B:Sto}(h:Fn n A B) (p:PQ n B):A.length<=B.length:=by
 by_cases hA:A.length=0
 ·omega
 ·by_cases hn:A.length-1=n
  ·have:=p.lt;omega
  ·have h1:A[A.length-1]? = some A[A.length-1]:=qge (by omega)
   have:=(qme (h _ _ hn h1)).1
   omega
theorem yha {c:Nat}(h:c=48\/c=49\/c=45):sg c=true:=by
 unfold sg
 rw [zlv]
 have e:("01-":Str).cps.toList=[48,49,45]:=by decide +kernel
 rw [e]
 rcases h with rfl|rfl|rfl <;> decide
theorem zvo:∀(vs:List D),(∀v∈vs,∃c:Nat,v=.str ⟨#[c]⟩/\(c=48\/c=49\/c=45))->∃cs:List Nat,vs=(cs.map λc=>(⟨#[c]⟩:Str)).map D.str/\∀c∈cs,c=48\/c=49\/c=45
 | [],_=>⟨[],rfl,λt h=>by cases h⟩
 | v :: vs,h=>by
  obtain ⟨c,rfl,hc⟩:=h v List.mem_cons_self
  obtain ⟨cs,h1,h2⟩:=zvo vs λu hu=>h u (List.mem_cons_of_mem _ hu)
  refine ⟨c :: cs,by rw [h1];rfl,λt ht=>?_⟩
  rcases List.mem_cons.mp ht with rfl|ht
  ·exact hc
  ·exact h2 t ht
theorem yhb (d:Nat) (h:(d:Int)<3):∃c,L2.atI ("01-":Str).cps.toList (d:Int)=some c/\(c=48\/c=49\/c=45):=by
 have e:("01-":Str).cps.toList=[48,49,45]:=by decide +kernel
 rw [e]
 have:d=0\/d=1\/d=2:=by omega
 rcases this with rfl|rfl|rfl
 ·exact ⟨48,rfl,by decide⟩
 ·exact ⟨49,rfl,by decide⟩
 ·exact ⟨45,rfl,by decide⟩
theorem yhc {n v most:Nat}{S:Sto}(h:PQ n S) (hv:v<=5) (hm:most<=40):Wo (zkc [.ref n,.int (v:Int),.int (most:Int)] S) λd S'=>(∃ps:List Str,d=.tup (ps.map D.str)/\ps.all (zbd v)=true/\ps.length<=most)/\PQ n S'/\Fn n S S':=by
 have sz0:0<=sizeLine:=by decide
 unfold zkc ztb
 dsimp! only [zbx]
 have hn:=h.lt
 refine zb0 (λl S'=>S' = S++[.lst []]/\l=[~~~n,‹v›,‹most›,some (.ref S.length),none]) ?_ ?_
 ·simp only [zbx,zb6,zbw,zbu,zba,zar,za1,zbn,zb1,zcn,zbv,za6,zdd,zc1,zc2,zc3,zay,zcm,zcc,zaw,zat,zdc,zcz,zc0,zds,zck,zde,zcv,zdo,zdl,zdm,zdn,zd2,zdz,zdf,zb5,zc7,zdg,zdh,zd0,zco,zd1,zcp,zb7,zcu,zc4,zdk,zc5,zdt,zdu,zc8,List.map_cons,List.map_nil,List.length_cons,List.length_nil,Nat.reduceAdd,Nat.reduceSub,List.replicate,List.cons_append,List.nil_append,qg0,qg1,qs0,qs1,zau,zbe,zbo,zdj,zdx,zdy,zdv,zdw,za9,decide_eq_true_eq,sz0,true_and,and_self]
 rintro l S1 ⟨rfl,rfl⟩
 obtain ⟨d,S2,e2,hd,p2,f2⟩:=zik (n:=n) (m:=(most:Int)+1) (l:=[~~~n,‹v›,‹most›,some (.ref S.length),none]) (S:=S++[.lst []]) (h.gr ⟨_,rfl⟩) (by omega) (by omega) rfl (zko (e:=eVar 2) (f:=eC (.int 1)) (zaj rfl) rfl)
 have f02:Fn n S S2:=(Fn.gr ⟨_,rfl⟩).trans f2
 have h2:S2[S.length]? = some (.lst []):=f2 _ _ (by omega) (zd5 _ _)
 rw [zb6]
 refine zj3 (n:=d) (λi l S'=>PQ n S'/\Fn n S S'/\∃ps:List Str,ps.length=i/\ps.all (zbd v)=true/\S'[S.length]? = some (.lst (ps.map D.str))/\∃y,l=[~~~n,‹v›,‹most›,some (.ref S.length),y]) (λ_ _=>False) (zd3 e2) (by omega) ⟨p2,f02,[],rfl,rfl,h2,_,rfl⟩ ?_ ?_ (λd l S h=>h.elim)
 ·rintro i l S3 hi ⟨p3,f3,ps,hl,ok,h3,y,rfl⟩
  simp only [za6,qs0,qs1]
  rw [zcn,zcm,zar]
  simp only [qg0,qg1,zau]
  refine ⟨⟨_,zcf h3⟩,?_⟩
  rw [zaw,zcc,za1]
  refine ⟨rfl,?_⟩
  rw [zaw]
  refine zno (zda 0 v) (λx=>∃c:Nat,x=.str ⟨#[c]⟩/\(c=48\/c=49\/c=45)) (λ_ S'=>PQ n S'/\Fn n S3 S') (λl=>∃y0,l=[y0,~~~n]) (znp (as1 rfl) (by omega)) ⟨p3,Fn.refl n S3⟩ ⟨_,rfl⟩ (λi S _=>rfl) (by rw [zhh];exact zd4 (by omega)) ?_ ?_
  ·rintro j x l S4 hx ⟨y0,rfl⟩ ⟨p4,f4⟩
   simp only [za6,qs0]
   refine ⟨⟨_,rfl⟩,?_⟩
   simp only [zba,za1,zay,zaw,zat,zar,qg0,qg1,zau]
   refine (zen n 3 S4 p4 (by decide) (by decide)).mono ?_
   rintro w S5 ⟨⟨t,rfl,ht⟩,p5,f5⟩
   obtain ⟨c,hc,hc'⟩:=yhb t ht
   rw [zc7]
   exact ⟨by decide +kernel,c,hc,⟨c,rfl,hc'⟩,p5,f4.trans f5⟩
  ·rintro vs S4 hlen hvs ⟨p4,f4⟩
   obtain ⟨cs,rfl,hcs⟩:=zvo vs hvs
   rw [zhh,qlm,qlm] at hlen
   simp only [zat,zho,za9,zbe,zhp]
   have f5:Fn n S3 (S4++[.lst ((cs.map λc=>(⟨#[c]⟩:Str)).map D.str)]):=f4.trans (Fn.gr ⟨_,rfl⟩)
   have p5:PQ n (S4++[.lst ((cs.map λc=>(⟨#[c]⟩:Str)).map D.str)]):=p4.gr ⟨_,rfl⟩
   generalize S4++[Ob.lst ((cs.map λc=>(⟨#[c]⟩:Str)).map D.str)]=S5 at f5 p5
   have h5:=f5 _ _ (by omega) h3
   refine ⟨zl8 (λc _=>qlr 1) (by omega),?_⟩
   rw [zl3,zjz]
   refine ⟨_,h5,by rw [qlm,hl];exact Nat.lt_of_lt_of_le (show i<41 by omega) (by decide),.inl ⟨(by first|exact .inl rfl|exact .inl trivial|trivial),p5.set (by omega),(f3.trans f5).set' (qlr _),ps++[zil cs],by simp [hl],?_,?_,_,rfl⟩⟩
   ·rw [List.all_append,ok]
    simp only [List.all_cons,List.all_nil,Bool.and_true,Bool.true_and]
    unfold zbd
    rw [zhf,zim,hlen,decide_eq_true rfl,Bool.true_and]
    exact List.all_eq_true.mpr λc hc=>yha (hcs c hc)
   ·rw [zie h5,List.map_append];rfl
 ·rintro l S3 ⟨p3,f3,ps,hl,ok,h3,y,rfl⟩
  simp only [zb1,zay,zaw,zat,zar,qg0,qg1,zau,zcu,zcf h3,zbe]
  exact ⟨⟨ps,rfl,ok,by omega⟩,p3,f3⟩
theorem zop {m:Nat}:∀(vs:List D),(∀v∈vs,∃a:Nat,v=nD a/\a<m)->∃as:List Nat,vs=as.map nD/\∀a∈as,a<m
 | [],_=>⟨[],rfl,λt h=>by cases h⟩
 | v :: vs,h=>by
  obtain ⟨c,rfl,hc⟩:=h v List.mem_cons_self
  obtain ⟨cs,h1,h2⟩:=zop vs λu hu=>h u (List.mem_cons_of_mem _ hu)
  refine ⟨c :: cs,by rw [h1];rfl,λt ht=>?_⟩
  rcases List.mem_cons.mp ht with rfl|ht
  ·exact hc
  ·exact h2 t ht
theorem yhd {S:Sto}{q d:Nat}{xs:List D}{v:D}(h:S[q]? = some (.lst xs)) (hd:d<xs.length):zf6 (.ref q) (.int (d:Int)) v S=some (S.set q (.lst (xs.set d v))):=by
 unfold zf6
 simp only [h]
 have:L2.ixN xs.length (d:Int)=some d:=by unfold L2.ixN;simp;omega
 rw [this];rfl
theorem yhe (i:Nat) (hi:(i:Int)<3):∃m:Nat,L2.atI [D.int 0,.int 2,.int 8] (i:Int)=some (.int m):=by
 have:i=0\/i=1\/i=2:=by omega
 rcases this with rfl|rfl|rfl
 ·exact ⟨0,rfl⟩
 ·exact ⟨2,rfl⟩
 ·exact ⟨8,rfl⟩
theorem zma {x y:Nat}(i:Nat) (hi:(i:Int)<2):∃m:Nat,L2.atI [D.int (x:Int),.int (y:Int)] (i:Int)=some (.int m)/\(m=x\/m=y):=by
 have:i=0\/i=1:=by omega
 rcases this with rfl|rfl
 ·exact ⟨x,rfl,.inl rfl⟩
 ·exact ⟨y,rfl,.inr rfl⟩
theorem yhf {n long share q:Nat}{S:Sto}{os:List (Option Nat)}{y0 y1 y2 y3 y5 y7 y9:Option D}(e0:y0=some (.ref n)) (h:PQ n S) (hq:S[q]? = some (.lst (os.map oD))) (hqn:q≠n) (hl:os.length=long) (h12:long<=12) (h8:∀g∈os,∀j,g=some j->j<8) :
  Ws (zfi (zdb (zaa (eVar 6) (zab))) (gName3 9) (sIf (tE (eOp dLt (zac zbp (zaa (eVar 0) (zaa (eC (.int 8)) (zab)))) (eVar 4))) (zak (eC .non) (zh4 (eVar 8) (eVar 9))) (zaq))) [y0,y1,y2,y3,‹share›,y5,‹long›,y7,~~~q,y9] S λf l S'=>f=.nx/\PQ n S'/\(∃os:List (Option Nat),S'[q]? = some (.lst (os.map oD))/\os.length=long/\∀g∈os,∀j,g=some j->j<8)/\(∀j o,j≠n->j≠q->S[j]? = some o->S'[j]? = some o)/\∃y9,l=[y0,y1,y2,y3,‹share›,y5,‹long›,y7,~~~q,y9]:=by
 subst e0
 refine zj3 (n:=long) (λi l S'=>PQ n S'/\(∃os:List (Option Nat),S'[q]? = some (.lst (os.map oD))/\os.length=long/\∀g∈os,∀j,g=some j->j<8)/\(∀j o,j≠n->j≠q->S[j]? = some o->S'[j]? = some o)/\∃y9,l=[~~~n,y1,y2,y3,‹share›,y5,‹long›,y7,~~~q,y9]) (λ_ _=>False) (as1 rfl) (by omega) ⟨h,⟨os,hq,hl,h8⟩,λj o _ _ e=>e,_,rfl⟩ ?_ (λl S' q=>⟨rfl,q⟩) (λd l S h=>h.elim)
 rintro i l S1 hi ⟨p1,⟨os1,hq1,hl1,h81⟩,f1,y9,rfl⟩
 simp only [za6,qs0,qs1]
 rw [zbw]
 simp only [zbu,zba,zay,zaw,zat,zar,za1,qg0,qg1,zau]
 refine (zen n 8 S1 p1 (by decide) (by decide)).mono ?_
 rintro v S2 ⟨⟨d,rfl,hd⟩,p2,f2⟩
 have hq2:=f2 q _ hqn hq1
 have f12:∀j o,j≠n->j≠q->S[j]? = some o->S2[j]? = some o:=λj o a b e=>f2 j o a (f1 j o a b e)
 simp only [zck,zbo]
 by_cases hs:(d:Int)<(share:Int)
 ·simp only [hs,decide_true,if_true]
  rw [zbn,za1,zdd]
  simp only [zar,qg0,qg1,zau]
  refine ⟨_,yhd hq2 (by rw [qlm];omega),.inl ⟨(by first|exact .inl rfl|exact .inl trivial|trivial),p2.set hqn,⟨os1.set i none,by rw [zie hq2,List.map_set];rfl,by rw [List.length_set];exact hl1,λg hg j e=>?_⟩,λj o a b e=>?_,_,rfl⟩⟩
  ·rcases List.mem_or_eq_of_mem_set hg with z|z
   ·exact h81 g z j e
   ·rw [z] at e;cases e
  ·rw [List.getElem?_set_ne (Ne.symm b)];exact f12 j o a b e
 ·simp only [hs,decide_false,qbf,if_false,zbv]
  exact .inl ⟨(by first|exact .inl rfl|exact .inl trivial|trivial),p2,⟨os1,hq2,hl1,h81⟩,f12,_,rfl⟩
theorem yhg {n a most:Nat}{S:Sto}(h:PQ n S) (ha1:1<=a) (ha:a<=4) (hm:most<=24):Wo (zkd [.ref n,.int (a:Int),.int (most:Int)] S) λd S'=>(∃(m:Nat) (rs:List TR),d=.ref m/\m≠n/\S.length<=m/\S'[m]? = some (.lst (rs.map tD))/\(∀r∈rs,OkT a r)/\rs.length<=most)/\PQ n S'/\Fn n S S':=by
 have sz0:0<=sizeLine:=by decide
 have sz2:2<=sizeLine:=by decide
 have sz3:3<=sizeLine:=by decide
 have hn:=h.lt
 unfold zkd ztc
 dsimp! only [zbx]
 refine zb0 (λl S'=>S' = S++[.lst []]/\l=[~~~n,‹a›,‹most›,some (.ref S.length),none,none,none,none,none,none]) ?_ ?_
 ·simp only [zbx,zb6,zbw,zbu,zba,zar,za1,zbn,zb1,zcn,zbv,za6,zdd,zc1,zc2,zc3,zay,zcm,zcc,zaw,zat,zdc,zcz,zc0,zds,zck,zde,zcv,zdo,zdl,zdm,zdn,zd2,zdz,zdf,zb5,zc7,zdg,zdh,zd0,zco,zd1,zcp,zb7,zcu,zc4,zdk,zc5,zdt,zdu,zc8,List.map_cons,List.map_nil,List.length_cons,List.length_nil,Nat.reduceAdd,Nat.reduceSub,List.replicate,List.cons_append,List.nil_append,qg0,qg1,qs0,qs1,zau,zbe,zbo,zdj,zdx,zdy,zdv,zdw,za9,decide_eq_true_eq,sz0,true_and,and_self]
 rintro l S1 ⟨rfl,rfl⟩
 refine zb0 (λl S'=>PQ n S'/\Fn n S S'/\S'[S.length]? = some (.lst [])/\∃share:Nat,l=[~~~n,‹a›,‹most›,some (.ref S.length),‹share›,none,none,none,none,none]) ?_ ?_
 ·simp only [zbn,zba,zay,zaw,zat,zar,za1,qg0,qg1,zau,zb7,List.length_cons,List.length_nil,Nat.reduceAdd,sz3,true_and]
  refine (zen n 3 _ (h.gr ⟨_,List.append_assoc _ _ _⟩) (by decide) (by decide)).mono ?_
  rintro x S2 ⟨⟨d,rfl,hd⟩,p,f⟩
  obtain ⟨m,hm⟩:=yhe d hd
  have hl:=f.lst (by simp;omega) za9
  have h0:=f S.length (.lst []) (by omega) (Gr.get ⟨_,rfl⟩ (zd5 _ _))
  simp only [zb5,hl,zbe,hm,za6,qs0,qs1]
  exact ⟨p,(Fn.gr ⟨_,List.append_assoc _ _ _⟩).trans f,h0,m,rfl⟩
 rintro l S2 ⟨p2,f2,h2,share,rfl⟩
 obtain ⟨d,S3,e3,hd,p3,f3⟩:=zik (n:=n) (m:=(most:Int)+1) (l:=[~~~n,‹a›,‹most›,some (.ref S.length),‹share›,none,none,none,none,none]) (S:=S2) p2 (by omega) (by omega) rfl (zko (e:=eVar 2) (f:=eC (.int 1)) (zaj rfl) rfl)
 rw [zb6]
 refine zj3 (n:=d) (λi l S'=>PQ n S'/\Fn n S S'/\∃rs:List TR,rs.length<=2*i/\(∀r∈rs,OkT a r)/\S'[S.length]? = some (.lst (rs.map tD))/\∃y5 y6 y7 y8 y9,l=[~~~n,‹a›,‹most›,some (.ref S.length),‹share›,y5,y6,y7,y8,y9]) (λ_ _=>False) (zd3 e3) (by omega) ⟨p3,f2.trans f3,[],Nat.zero_le _,(λr z=>by cases z),f3 _ _ (by omega) h2,_,_,_,_,_,rfl⟩ ?_ ?_ (λd l S h=>h.elim)
 ·rintro i l S4 hi ⟨p4,f4,rs,hl4,ok4,h4,y5,y6,y7,y8,y9,rfl⟩
  simp only [za6,qs0,qs1]
  refine zb0 (λl S'=>PQ n S'/\Fn n S4 S'/\∃long:Nat,1<=long/\long<=12/\l=[~~~n,‹a›,‹most›,some (.ref S.length),‹share›,‹i›,‹long›,y7,y8,y9]) ?_ ?_
  ·simp only [zbn,zba,zay,zaw,zat,zar,za1,qg0,qg1,zau,zb7,List.length_cons,List.length_nil,Nat.reduceAdd,sz2,true_and]
   refine (zen n 2 _ (p4.gr ⟨_,rfl⟩) (by decide) (by decide)).mono ?_
   rintro x S5 ⟨⟨t,rfl,ht⟩,p5,f5⟩
   obtain ⟨m,hm,hm'⟩:=zma (x:=4) (y:=12) t ht
   have hl:=f5.lst (by have:=p4.lt;omega) za9
   have hm:L2.atI [D.int 4,.int 12] (t:Int)=some (.int m):=hm
   simp only [zb5,hl,zbe,hm]
   refine (zen n (m:Int) S5 p5 (by omega) (by omega)).mono ?_
   rintro x S6 ⟨⟨u,rfl,hu⟩,p6,f6⟩
   have e:(1:Int)+(u:Int)=((1+u:Nat):Int):=by push_cast;rfl
   simp only [zcv,e,za6,qs0,qs1]
   have f46:Fn n S4 S6:=(Fn.gr ⟨_,rfl⟩).trans (f5.trans f6)
   exact ⟨p6,f46,1+u,by omega,by omega,rfl⟩
  rintro l S5 ⟨p5,f5,long,l1,l12,rfl⟩
  refine zb0 (λl S'=>PQ n S'/\Fn n S4 S'/\∃as:List Nat,as.length=long/\(∀k∈as,k<a)/\l=[~~~n,‹a›,‹most›,some (.ref S.length),‹share›,‹i›,‹long›,some (wD as),y8,y9]) ?_ ?_
  ·rw [zbn,zay,zaw]
   refine zno (zda 0 long) (λv=>∃k:Nat,v=nD k/\k<a) (λ_ S'=>PQ n S'/\Fn n S4 S') (λl=>∃y0,l=[y0,~~~n,‹a›]) (znp (as1 rfl) (by omega)) ⟨p5,f5⟩ ⟨_,rfl⟩ (λi S _=>rfl) (by rw [zhh];exact zd4 (by omega)) ?_ ?_
   ·rintro j x l S6 hx ⟨y0,rfl⟩ ⟨p6,f6⟩
    simp only [za6,qs0]
    refine ⟨⟨_,rfl⟩,?_⟩
    simp only [zay,zaw,zat,zar,qg0,qg1,zau]
    refine (zen n (a:Int) S6 p6 (by omega) (by omega)).mono ?_
    rintro v S7 ⟨⟨k,rfl,hk⟩,p7,f7⟩
    exact ⟨⟨k,rfl,by omega⟩,p7,f6.trans f7⟩
   ·rintro vs S6 hlen hv ⟨p6,f6⟩
    obtain ⟨as,rfl,has⟩:=zop vs hv
    rw [zhh,qlm] at hlen
    simp only [zat,zcu,za9,zbe,za6,qs0,qs1]
    exact ⟨nofun,p6.gr ⟨_,rfl⟩,f6.trans (Fn.gr ⟨_,rfl⟩),as,hlen,has,rfl⟩
  rintro l S6 ⟨p6,f6,as,hla,has,rfl⟩
  refine zb0 (λl S'=>PQ n S'/\Fn n S4 S'/\∃(q:Nat) (os:List (Option Nat)),S4.length<=q/\q≠n/\S'[q]? = some (.lst (os.map oD))/\os.length=long/\(∀g∈os,∀j,g=some j->j<8)/\l=[~~~n,‹a›,‹most›,some (.ref S.length),‹share›,‹i›,‹long›,some (wD as),~~~q,y9]) ?_ ?_
  ·rw [zbn]
   refine zno (zda 0 long) (λv=>∃k:Nat,v=nD k/\k<8) (λ_ S'=>PQ n S'/\Fn n S4 S') (λl=>∃y0,l=[y0,~~~n]) (znp (as1 rfl) (by omega)) ⟨p6,f6⟩ ⟨_,rfl⟩ (λi S _=>rfl) (by rw [zhh];exact zd4 (by omega)) ?_ ?_
   ·rintro j x l S7 hx ⟨y0,rfl⟩ ⟨p7,f7⟩
    simp only [za6,qs0]
    refine ⟨⟨_,rfl⟩,?_⟩
    simp only [zay,zaw,zat,zar,za1,qg0,qg1,zau]
    refine (zen n 8 S7 p7 (by decide) (by decide)).mono ?_
    rintro v S8 ⟨⟨k,rfl,hk⟩,p8,f8⟩
    exact ⟨⟨k,rfl,by omega⟩,p8,f7.trans f8⟩
   ·rintro vs S7 hlen hv ⟨p7,f7⟩
    obtain ⟨ks,rfl,hks⟩:=zop vs hv
    rw [zhh,qlm] at hlen
    simp only [za6,qs0,qs1]
    refine ⟨nofun,p7.gr ⟨_,rfl⟩,f7.trans (Fn.gr ⟨_,rfl⟩),S7.length,ks.map some,f7.len p7,Ne.symm (Nat.ne_of_lt p7.lt),?_,by rw [qlm];exact hlen,λg hg j e=>?_,rfl⟩
    ·rw [zd5,List.map_map];rfl
    ·obtain ⟨k,hk,rfl⟩:=List.mem_map.mp hg
     cases e;exact hks _ hk
  rintro l S7 ⟨p7,f7,q,os,hq4,hqn,hq7,hlo,ho8,rfl⟩
  have hrq:S.length≠q:=by have:=(qme h4).1;omega
  rw [zb6]
  refine (yhf (long:=long) rfl p7 hq7 hqn hlo l12 ho8).mono ?_
  rintro f l S8 ⟨rfl,p8,⟨os8,hq8,hlo8,ho88⟩,f78,y9',rfl⟩
  have f48:Fn n S4 S8:=λj o hj e=>f78 j o hj (by have:=(qme e).1;omega) (f7 j o hj e)
  have h8:=f48 _ _ (by omega) h4
  have okr:OkT a (as,os8):=⟨by show 1<=as.length;omega,by show as.length<=12;omega,by show os8.length=as.length;omega,has,ho88⟩
  refine zb0 (λl S'=>PQ n S'/\Fn n S S'/\S'[S.length]? = some (.lst ((rs++[(as,os8)]).map tD))/\∃y5 y6 y7 y8 y9,l=[~~~n,‹a›,‹most›,some (.ref S.length),‹share›,y5,y6,y7,y8,y9]) ?_ ?_
  ·rw [zcn,zcm,zar]
   simp only [qg0,qg1,zau]
   refine ⟨⟨_,zcf h8⟩,?_⟩
   simp only [zaw,zat,zay,zar,qg0,qg1,zau,zcu,zcf hq8,zbe,zcp,List.length_cons,List.length_nil,Nat.reduceAdd,sz2,true_and,zjz]
   refine ⟨_,h8,by rw [qlm];exact Nat.lt_of_le_of_lt (show rs.length<=100 by omega) (by decide),?_⟩
   have g8:(S8.set S.length (.lst (rs.map tD++[.tup [wD as,.tup (os8.map oD)]])))[S.length]? = some (.lst ((rs++[(as,os8)]).map tD)):=by rw [zie h8,List.map_append];rfl
   exact ⟨p8.set (by omega),(f4.trans f48).set' (qlr _),g8,_,_,_,_,_,rfl⟩
  rintro l S9 ⟨p9,f9,h9,z5,z6,z7,z8,z9,rfl⟩
  have ok9:∀r∈rs++[(as,os8)],OkT a r:=λr hr=>by
   rcases List.mem_append.mp hr with z|z
   ·exact ok4 r z
   ·rw [List.mem_singleton.mp z];exact okr
  have l9:(rs++[(as,os8)]).length=rs.length+1:=by simp
  generalize rs++[(as,os8)]=rs9 at h9 ok9 l9
  rw [zbw]
  simp only [zdc,zbu,zba,zay,zaw,zat,zar,za1,qg0,qg1,zau]
  refine (zen n 6 S9 p9 (by decide) (by decide)).mono ?_
  rintro x S10 ⟨⟨t,rfl,ht⟩,p10,f10⟩
  have h10:=f10 _ _ (by omega) h9
  simp only [zc4,zbo]
  by_cases h0:(t:Int)=0
  ·simp only [h0,decide_true,if_true,zco,zcf h10,zbe,zck,zbo,qlm]
   by_cases hlt:(rs9.length:Int)<(most:Int)
   ·simp only [hlt,decide_true,if_true]
    rw [zcn,zcm,zar]
    simp only [qg0,qg1,zau]
    refine ⟨⟨_,zcf h10⟩,?_⟩
    simp only [zaw,zat,zba,zay,zar,qg0,qg1,zau,zco,zcf h10,zbe,qlm]
    refine (zen n (rs9.length:Int) S10 p10 (by omega) (by omega)).mono ?_
    rintro x S11 ⟨⟨u,rfl,hu⟩,p11,f11⟩
    have h11:=f11 _ _ (by omega) h10
    obtain ⟨r,hr⟩:∃r,rs9[u]? = some r:=⟨_,qge (by omega)⟩
    have hx:L2.atI (rs9.map tD) (u:Int)=some (tD r):=atI_get (by rw [qgm,hr];rfl)
    simp only [zb5,zcf h11,zbe,hx,zjz]
    refine ⟨_,h11,by rw [qlm];exact Nat.lt_of_le_of_lt (show rs9.length<=100 by omega) (by decide),.inl ⟨(by first|exact .inl rfl|exact .inl trivial|trivial),p11.set (by omega),(f9.trans (f10.trans f11)).set' (qlr _),rs9++[r],by simp;omega,λr' hr'=>?_,?_,_,_,_,_,_,rfl⟩⟩
    ·rcases List.mem_append.mp hr' with z|z
     ·exact ok9 r' z
     ·rw [List.mem_singleton.mp z];exact ok9 r (qmg hr)
    ·rw [zie h11,List.map_append];rfl
   ·simp only [hlt,decide_false,qbf,if_false,zbv]
    exact .inl ⟨(by first|exact .inl rfl|exact .inl trivial|trivial),p10,f9.trans f10,rs9,by omega,ok9,h10,_,_,_,_,_,rfl⟩
  ·simp only [h0,decide_false,qbf,if_false,zbv]
   exact .inl ⟨(by first|exact .inl rfl|exact .inl trivial|trivial),p10,f9.trans f10,rs9,by omega,ok9,h10,_,_,_,_,_,rfl⟩
 ·rintro l S4 ⟨p4,f4,rs,hl4,ok4,h4,y5,y6,y7,y8,y9,rfl⟩
  simp only [zb1,zdo,zar,qg0,qg1,zau,zdl,zdm,zdn]
  rw [ydg (zcf h4),ydh]
  refine ⟨⟨_,rs.take most,rfl,Ne.symm (Nat.ne_of_lt p4.lt),f4.len p4,?_,λr hr=>ok4 r (List.mem_of_mem_take hr),by rw [List.length_take];omega⟩,p4.gr ⟨_,rfl⟩,f4.trans (Fn.gr ⟨_,rfl⟩)⟩
  rw [zd5,List.map_take]
theorem zoq {S:Sto}{x y:D}{p:PyData}{Q:D->Sto->Prop}(h1:zap S 60 x=some p) (h2:zap S 60 y=some p) (c1:p.canLay0=true):Wo (zf8 x y S) Q=Q (.bl false) S:=by
 have:zf8 x y S=some (.bl false,S):=by
  unfold zf8;rw [h1];show (zap S 60 y).bind _=_;rw [h2];show (if _ then _ else _)=_;rw [if_pos ⟨c1,c1⟩,PySem.SeqAt.eqv_refl p c1];rfl
 rw [this];exact zbs
theorem ne_str {S:Sto}{z:Str}{Q:D->Sto->Prop}(h:PyData.strOk z=true):Wo (zf8 (.str z) (.str z) S) Q=Q (.bl false) S:=zoq (p:=.str z) (by unfold zap;rfl) (by unfold zap;rfl) (by unfold PyData.canLay0;exact h)
theorem zvp {a n:Nat}{rs:List TR}{S:Sto}(ok:∀r∈rs,OkT a r) (ha:a<=8) (h:lstOf S n=some (rs.map tD)):zap S 60 (.ref n)=some (.list (rs.map pT)):=by
 rw [zap,h]
 show (pyAll S 59 (rs.map tD)).bind _=_
 rw [zhx rs λr hr=>zoe (k:=56) ((ok r hr).sml (by omega))];rfl
theorem yhh (rs:List TR):(PyData.list (rs.map pT)).canLay0=true:=by
 unfold PyData.canLay0
 exact zjd rs λr _=>zuk r
theorem zvq:∀c∈("none":Str).cps.toList,c<128:=by decide +kernel
theorem yhi {a:Nat}{rs:List TR}(ok:∀r∈rs,OkT a r) (ha:a<=8):PyData.strOk (st rs)=true:=zon λc hc=>by
 unfold st at hc
 split at hc
 ·exact zvq c hc
 ·rcases TX.mem_join _ hc with m|⟨p,hp,m⟩
  ·have:∀c∈("; ":Str).cps.toList,c<128:=by decide +kernel
   exact this c m
  ·obtain ⟨r,hr,rfl⟩:=List.mem_map.mp hp
   have:=zol (ok r hr) ha m;omega
theorem yhj {v:Nat}{ps:List Str}(h:ps.all (zbd v)=true):PyData.strOk (nT ps)=true:=zon λc hc=>by
 unfold nT at hc
 split at hc
 ·exact zvq c hc
 ·rcases TX.mem_join _ hc with m|⟨p,hp,m⟩
  ·have:∀c∈(" + ":Str).cps.toList,c<128:=by decide +kernel
   exact this c m
  ·have:=zvl h p hp c m;omega
theorem yhk {S:Sto}{n:Nat}{xs:List D}{Q:D->Sto->Prop}(h:lstOf S n=some xs):Wo (zg3 [.ref n] S) Q=Q (.ref S.length) (S++[.lst xs]):=by
 have:zg3 [.ref n] S=some (.ref S.length,S++[.lst xs]):=by unfold zg3;dsimp only;rw [h];rfl
 rw [this];exact zbs
theorem zvr {a:Nat}{rs:List TR}{S:Sto}(ok:∀r∈rs,OkT a r) (ha:a<=8) (h24:rs.length<=24):Wo (ze1 [.int (a:Int),.str (st rs)] S) λd S'=>Gr S S'/\∃m,d=.ref m/\S.length<=m/\S'[m]? = some (.lst (rs.map tD)):=by
 obtain ⟨S',e,g,_⟩:=(zt8 (a:=a) (z:=st rs) (S:=S) ha (zd4 (by have:=zve ok h24;omega))).1 rs (ygw ok ha h24)
 exact ⟨_,_,e,g.push _,_,rfl,g.len,zd5 _ _⟩
theorem yhl {v:Nat}{ps:List Str}{S:Sto}(h:ps.all (zbd v)=true) (hv:v<=5) (h40:ps.length<=40):Wo (zfa [.int (v:Int),.str (nT ps)] S) λd S'=>d=.tup (ps.map D.str)/\Gr S S':=by
 have:=zud (v:=v) (z:=nT ps) (S:=S) (zd4 (by have:=zvf h hv h40;omega))
 rw [ygx h h40] at this
 obtain ⟨S',e,g,_⟩:=this
 exact ⟨_,_,e,rfl,g⟩
theorem yhm {a v n:Nat}{rs:List TR}{ps:List Str}{S:Sto}(hn:S[n]? = some (.lst (rs.map tD))) (ok:∀r∈rs,OkT a r) (ha:a<=8) (h24:rs.length<=24) (h:ps.all (zbd v)=true) (h1:1<=v) (hv:v<=5) (h40:ps.length<=40) :
  Wo (zja [.int (a:Int),.ref n,.int (v:Int),.tup (ps.map D.str)] S) λd S'=>d=.bl true/\Gr S S':=by
 have hlt:=(qme hn).1
 obtain ⟨zs,_,rs1⟩:=zuw ok ha h24
 obtain ⟨zn,_,rn1⟩:=zu3 h hv h40
 unfold zja zta
 dsimp! only [zbx]
 refine zb0 (λl S'=>S' = S++[.lst (rs.map tD)]/\l=[‹a›,~~~n,‹v›,some (.tup (ps.map D.str)),some (.ref S.length),none]) ?_ ?_
 ·simp only [zbn,zay,zaw,zat,zar,qg0,qg1,zau,yhk (zcf hn),za6,qs0,qs1,and_self]
 rintro l S1 ⟨rfl,rfl⟩
 have g1:Gr S (S++[.lst (rs.map tD)]):=⟨_,rfl⟩
 have hm:(S++[Ob.lst (rs.map tD)])[S.length]? = some (.lst (rs.map tD)):=zd5 _ _
 generalize S++[Ob.lst (rs.map tD)]=S1 at g1 hm
 refine zb0 (λl S'=>Gr S1 S'/\l=[‹a›,~~~n,‹v›,some (.tup (ps.map D.str)),some (.ref S.length),none]) ?_ ?_
 ·rw [zbw]
  simp only [zcz,zbu,zba,zay,zaw,zat,zar,qg0,qg1,zau]
  refine (yg6 (zcf hm) ok ha h24).mono ?_
  rintro x S2 ⟨rfl,g2⟩
  refine (zl9 (g2.get (g1.get hn)) ok ha h24).mono ?_
  rintro x S3 ⟨rfl,g3⟩
  rw [ne_str (yhi ok ha)]
  simp only [zbo,qbf,if_false]
  have g13:=g2.trans g3
  rw [zoq (zvp ok ha (zcf (g13.get hm))) (zvp ok ha (zcf (g13.get (g1.get hn)))) (yhh rs)]
  simp only [zbo,qbf,if_false,yg7 h h1 hv h40,zbs]
  refine (zoo h hv h40).mono ?_
  rintro x S4 ⟨rfl,g4⟩
  rw [ne_str (yhj h)]
  simp only [zbo,qbf,if_false,zbv]
  exact ⟨nofun,g13.trans g4,nofun⟩
 rintro l S2 ⟨g2,rfl⟩
 have g02:=g1.trans g2
 refine zb0 (λl S'=>Gr S2 S'/\∃m,S2.length<=m/\S'[m]? = some (.lst (rs.map tD))/\l=[‹a›,~~~n,‹v›,some (.tup (ps.map D.str)),some (.ref S.length),~~~m]) ?_ ?_
 ·simp only [zbn,zay,zaw,zat,zar,qg0,qg1,zau]
  refine (zl9 (g02.get hn) ok ha h24).mono ?_
  rintro x S3 ⟨rfl,g3⟩
  refine (zvr ok ha h24).mono ?_
  rintro x S4 ⟨g4,m,rfl,hml,hm4⟩
  simp only [za6,qs0,qs1]
  exact ⟨nofun,g3.trans g4,m,Nat.le_trans g3.len hml,hm4,rfl⟩
 rintro l S3 ⟨g3,m,hml,hm3,rfl⟩
 have g03:=g02.trans g3
 refine zb0 (λl S'=>Gr S3 S'/\l=[‹a›,~~~n,‹v›,some (.tup (ps.map D.str)),some (.ref S.length),~~~m]) ?_ ?_
 ·rw [zbw]
  simp only [zcz,zbu,zba,zay,zaw,zat,zar,qg0,qg1,zau,rs1 S3 m (zcf hm3),rs1 S3 n (zcf (g03.get hn)),zbs,zc5,decide_true,Bool.not_true,zbo,qbf,if_false]
  refine (zoo h hv h40).mono ?_
  rintro x S4 ⟨rfl,g4⟩
  refine (yhl h hv h40).mono ?_
  rintro x S5 ⟨rfl,g5⟩
  simp only [rn1,zbs,zc5,decide_true,Bool.not_true,zbo,qbf,if_false,zbv]
  exact ⟨nofun,g4.trans g5,nofun⟩
 rintro l S4 ⟨g4,rfl⟩
 have hm4:=g4.get hm3
 have g04:=g03.trans g4
 have hSm:S.length<=m:=Nat.le_trans g02.len hml
 refine zb0 (λl S'=>Gr S S'/\l=[‹a›,~~~n,‹v›,some (.tup (ps.map D.str)),some (.ref S.length),~~~m]) ?_ ?_
 ·rw [zcn,zcm,zar]
  simp only [qg0,qg1,zau]
  refine ⟨⟨_,zcf hm4⟩,?_⟩
  simp only [zaw,zat,za1,zjz]
  refine ⟨_,hm4,by rw [qlm];exact Nat.lt_of_le_of_lt h24 (by decide),?_⟩
  first|exact ⟨nofun,g04.set hSm _,nofun⟩|exact ⟨g04.set hSm _,nofun⟩|exact g04.set hSm _
 rintro l S5 ⟨g5,rfl⟩
 simp only [zb1,zba,zay,zaw,zat,zar,qg0,qg1,zau]
 refine (zl9 (g5.get hn) ok ha h24).mono ?_
 rintro x S6 ⟨rfl,g6⟩
 refine (zvr ok ha h24).mono ?_
 rintro x S7 ⟨g7,m7,rfl,hml7,hm7⟩
 have g57:=g6.trans g7
 simp only [rs1 S7 m7 (zcf hm7),rs1 S7 n (zcf (g57.get (g5.get hn))),zbs,zdk,decide_true]
 exact ⟨nofun,g5.trans g57⟩
theorem yhn {S:Sto}{n k:Nat}{xs:List D}{Q:D->Sto->Prop}(h:S[n]? = some (.lst xs)) (hk:k<=100) (hx:xs.length<=1):Wo (zf9 (.ref n) (.int (k:Int)) S) Q=Q (.ref S.length) (S++[.lst (List.replicate k xs).flatten]):=by
 have sz:1000<=sizeLine:=by decide
 have hm:xs.length*k<=1*100:=Nat.mul_le_mul hx hk
 have:zf9 (.ref n) (.int (k:Int)) S=some (.ref S.length,S++[.lst (List.replicate k xs).flatten]):=by
  unfold zf9;simp only [h]
  rw [if_pos ⟨by omega,by omega,by rw [Int.toNat_natCast];omega⟩,Int.toNat_natCast]
 rw [this];exact zbs
theorem yho {k:Nat}{z:Str}:(List.replicate k [D.str z]).flatten=(List.replicate k z).map D.str:=by
 induction k with
 | zero=>rfl
 | succ k ih=>rw [List.replicate_succ,List.flatten_cons,ih,List.replicate_succ,List.map_cons];rfl
theorem zvs {sep z:Str}{k:Nat}{l:Lo}{S:Sto}(hk:k<=50) (hz:z.length<=3) (hs:sep.length<=3) (h11:l[11]? = some (some (.int (k:Int)))) :
  We (zbt zes (eC (.str sep)) (zaa (eOp zf9 (zac za3 (zaa (eC (.str z)) (zab))) (eVar 11)) zab)) l S λv S'=>∃w:Str,v=.str w/\w.length<=1000:=by
 have sz1:1<=sizeLine:=by decide
 rw [zcc,za1]
 refine ⟨rfl,?_⟩
 simp only [zaw,zat,zba,zay,za1,zar,h11,zau,zb7,List.length_cons,List.length_nil,Nat.reduceAdd,sz1,true_and]
 rw [yhn (zd5 _ _) (by omega) (by simp),yho]
 simp only [zho,za9,zbe,zhp]
 have h1:=zkp (B:=3) (List.replicate k z) λt ht=>by rw [(List.mem_replicate.mp ht).2];exact hz
 rw [List.length_replicate] at h1
 have h2:k*sep.length<=k*3:=Nat.mul_le_mul (qlr _) hs
 have h3:((List.replicate k z).map (·.length)).sum+(List.replicate k z).length*sep.length<=1000:=by rw [List.length_replicate];omega
 exact ⟨Nat.le_trans h3 (by decide),_,rfl,Nat.le_trans (StrLaws.join_length_le _ _) h3⟩
theorem nr {way a:Int}{e:EM}{l:Lo}{S S0:Sto}{z:Str}(he:e l S=some (.str z,S0)) (hr:∀S,∃S',zcr [.int way,.int a,.str z] S=some (.bl true,S')/\Gr S S'):∃S',zbi (tE (zac zcr (zaa (eC (.int way)) (zaa (eC (.int a)) (zaa e (zab)))))) l S=some (false,S')/\Gr S0 S':=by
 obtain ⟨S',e1,g⟩:=hr S0
 refine ⟨S',?_,g⟩
 unfold zbi tE
 rw [zbg (zij (x:=.int way) (y:=.int a) (w:=.str z) (S1:=S) (S2:=S) rfl rfl he),e1]
 rfl
theorem zor {t:TM}{a:SM}{l:Lo}{S S':Sto}(h:t l S=some (false,S')):sIf t a (zaq) l S=some (.nx,l,S'):=by rw [zd9 h];rfl
theorem zos {b:SM}{p q:Int}(hb:∀m:Int,m=p\/m=q->∀(l:Lo) S,l[11]? = some (some (.int m))->∃S',b l S=some (.nx,l,S')) {l:Lo}{S:Sto}(hl:l.length=13):Ws (zfh (zac zbl (zaa (eC (.int p)) (zaa (eC (.int q)) (zab)))) (gName3 11) b) l S λf l' S'=>f=.nx/\l'.length=13:=by
 have e:zac zbl (zaa (eC (.int p)) (zaa (eC (.int q)) (zab))) l S=some (.tup [.int p,.int q],S):=by
  rw [zbg (zcs (x:=.int p) (y:=.int q) (S1:=S) (S2:=S) rfl rfl)]
  show (if 2<=sizeLine then _ else _)=_
  rw [if_pos (by decide)]
 refine ydj [.int p,.int q] (λ_ l _=>l.length=13) (λ_ _=>False) e hl ?_ (λl S h=>⟨rfl,h⟩) (λ_ _ _ h=>h.elim)
 rintro i x l S hx h
 obtain ⟨m,rfl,hm⟩:∃m,x=.int m/\(m=p\/m=q):=by
  rcases List.mem_cons.mp (qmg hx) with rfl|z
  ·exact ⟨p,rfl,.inl rfl⟩
  ·exact ⟨q,List.mem_singleton.mp z,.inr rfl⟩
 rw [za6]
 obtain ⟨S',e⟩:=hb m hm (l.set 11 (some (.int m))) S (by rw [List.getElem?_set_self (by omega)])
 exact ⟨_,_,_,e,.inl ⟨.inl rfl,by rw [List.length_set];exact h⟩⟩
theorem zin {n:Nat}(h:n<=20000):n+10<=sizeLine:=Nat.le_trans (Nat.add_le_add_right h 10) (by decide)
theorem yhp {l:Lo}{S:Sto}(hl:l.length=13):Ws (zfh (zac zbl (zaa (eC (.int 24)) (zaa (eC (.int 25)) (zab)))) (gName3 11) (sIf (zbi (tE (zac zcr (zaa (eC (.int 0)) (zaa (eC (.int 1)) (zaa (zbt zes (eC (.str "; ")) (zaa (eOp zf9 (zac za3 (zaa (eC (.str "0 -")) (zab))) (eVar 11)) zab)) (zab))))))) (sRet (eC (.bl false))) (zaq))) l S λf l' S'=>f=.nx/\l'.length=13:=by
 refine zos (λm hm l S h11=>?_) hl
 obtain ⟨v,S1,e1,w,rfl,hw⟩:=zvs (sep:="; ") (z:="0 -") (k:=m.toNat) (l:=l) (S:=S) (by omega) (by decide +kernel) (by decide +kernel) (by rw [Int.toNat_of_nonneg (by omega)];exact h11)
 obtain ⟨S2,e2,_⟩:=nr (way:=0) (a:=1) e1 λS=>zl0 (a:=1) (z:=w) (S:=S) (by decide) (zin (by omega))
 exact ⟨S2,zor e2⟩
theorem yhq {l:Lo}{S:Sto}(hl:l.length=13):Ws (zfh (zac zbl (zaa (eC (.int 40)) (zaa (eC (.int 41)) (zab)))) (gName3 11) (sIf (zbi (tE (zac zcr (zaa (eC (.int 1)) (zaa (eC (.int 1)) (zaa (zbt zes (eC (.str " + ")) (zaa (eOp zf9 (zac za3 (zaa (eC (.str "-")) (zab))) (eVar 11)) zab)) (zab))))))) (sRet (eC (.bl false))) (zaq))) l S λf l' S'=>f=.nx/\l'.length=13:=by
 refine zos (λm hm l S h11=>?_) hl
 obtain ⟨v,S1,e1,w,rfl,hw⟩:=zvs (sep:=" + ") (z:="-") (k:=m.toNat) (l:=l) (S:=S) (by omega) (by decide +kernel) (by decide +kernel) (by rw [Int.toNat_of_nonneg (by omega)];exact h11)
 obtain ⟨S2,e2,_⟩:=nr (way:=1) (a:=1) e1 λS=>zoj (v:=1) (z:=w) (S:=S) (by decide) (zin (by omega))
 exact ⟨S2,zor e2⟩
theorem zvt {z:Str}{m:Int}{l:Lo}{S:Sto}(h11:l[11]? = some (some (.int m))) (h0:0<=m) (h1:m<1000) (hz:z.length=1):∃w,eOp zgu (eC (.str z)) (eVar 11) l S=some (.str w,S)/\w.length<=m.toNat:=by
 obtain ⟨v,S',e,rfl,hS⟩:Wo (zgu (.str z) (.int m) S) λv S'=>v=.str (zeh z m.toNat)/\S' = S:=by
  rw [yc0];exact ⟨⟨h0,h1,by omega,by omega⟩,rfl,rfl⟩
 rw [hS] at e
 refine ⟨zeh z m.toNat,?_,?_⟩
 ·unfold eOp
  show Option.bind (some (D.str z,S)) _=_
  simp only [Option.bind_some]
  rw [zaj h11]
  exact e
 ·have:=yc1 z m.toNat
  have hs:z.cps.size=1:=hz
  rw [hs] at this
  show (zeh z m.toNat).cps.size<=_
  omega
theorem yhr {l:Lo}{S:Sto}(hl:l.length=13):Ws (zfh (zac zbl (zaa (eC (.int 12)) (zaa (eC (.int 13)) (zab)))) (gName3 11) (sIf (zbi (tE (zac zcr (zaa (eC (.int 0)) (zaa (eC (.int 2)) (zaa (eOp dPlusA (eOp dPlusA (eOp zgu (eC (.str "1")) (eVar 11)) (eC (.str " "))) (eOp zgu (eC (.str "7")) (eVar 11))) (zab))))))) (sRet (eC (.bl false))) (zaq))) l S λf l' S'=>f=.nx/\l'.length=13:=by
 have sz:1000<=sizeLine:=by decide
 have e1:(" ":Str).length=1:=zje
 refine zos (λm hm l S h11=>?_) hl
 obtain ⟨x,ex,hx⟩:=zvt (z:="1") (S:=S) h11 (by omega) (by omega) (by decide +kernel)
 obtain ⟨y,ey,hy⟩:=zvt (z:="7") (S:=S) h11 (by omega) (by omega) (by decide +kernel)
 have ez:=zl1 (zl1 (f:=eC (.str " ")) ex rfl (by omega)) ey (by rw [Str.length_append];omega)
 obtain ⟨S2,e2,_⟩:=nr (way:=0) (a:=2) ez λS=>zl0 (a:=2) (z:=x++" "++y) (S:=S) (by decide) (zin (by rw [Str.length_append,Str.length_append];omega))
 exact ⟨S2,zor e2⟩
noncomputable def edges:List Str:=[""," ","none ","0","0 "," 0","- -","0 8","1 0","00 0","0 0;0 0","0 0; ","0 0 0","none; 0 0"]
theorem yhs:∀z∈edges,z.length<=10:=by decide +kernel
theorem zvu:edges.length=14:=rfl
noncomputable def zvv:SM:=zah (zak (zac za3 (aTx [""," ","none ","0","0 "," 0","- -","0 8","1 0","00 0","0 0;0 0","0 0; ","0 0 0","none; 0 0"])) (gName3 12)) (sRet (eOp zhj (zbc (zb9 (eVar 12)) [none] (gName3 0) (zca (zbi (tE (zac zcr (zaa (eC (.int 0)) (zaa (eC (.int 1)) (zaa (eVar 0) (zab))))))) (zbi (tE (zac zcr (zaa (eC (.int 1)) (zaa (eC (.int 1)) (zaa (eVar 0) (zab)))))))) (eVar 0)) (zac za3 (zab))))
theorem yht {l:Lo}{S:Sto}(hl:l.length=13):Ws zvv l S λf l' S'=>f=.rt (.bl true):=by
 have sz0:0<=sizeLine:=by decide
 have ea:Wa (aTx edges) l S λxs S1=>xs=edges.map D.str/\S1=S:=by rw [yd0];exact ⟨rfl,rfl⟩
 obtain ⟨_,_,ea,rfl,rfl⟩:=ea
 rename_i S
 have el:zac za3 (aTx edges) l S=some (.ref S.length,S++[.lst (edges.map D.str)]):=by
  rw [zbg ea]
  show (if (edges.map D.str).length<=sizeLine then _ else _)=_
  rw [if_pos (by rw [qlm];exact zd4 (by rw [zvu];decide))]
 unfold zvv
 refine zb0 (λl' S'=>S' = S++[.lst (edges.map D.str)]/\l' = l.set 12 (some (.ref S.length))) ⟨.nx,_,_,zcg (i:=12) el,rfl,rfl,rfl⟩ ?_
 rintro l' S1 ⟨rfl,rfl⟩
 have hs:lstOf (S++[Ob.lst (edges.map D.str)]) S.length=some (edges.map D.str):=za9
 generalize S++[Ob.lst (edges.map D.str)]=S1 at hs
 have h12:(l.set 12 (some (.ref S.length)))[12]? = some (some (D.ref S.length)):=by rw [List.getElem?_set_self (by omega)]
 rw [zb1,zba]
 refine znn (edges.map D.str) (λ_=>none) (λS'=>Gr S1 S') (λl=>∃y,l=[y]) (zse (zaj h12) hs) (Gr.refl _) ⟨_,rfl⟩ (λi S g=>zsf (g.lst hs)) (zd4 (by rw [qlm,zvu];decide)) ?_ ?_
 ·rintro x l S2 hx ⟨y,rfl⟩ g2
  obtain ⟨z,hz,rfl⟩:=List.mem_map.mp hx
  have lz:=yhs z hz
  simp only [za6,qs0]
  refine ⟨⟨_,rfl⟩,?_⟩
  obtain ⟨S3,e3,g3⟩:=nr (way:=0) (a:=1) (e:=eVar 0) (l:=[some (.str z)]) (S:=S2) (S0:=S2) (z:=z) rfl λS=>zl0 (a:=1) (z:=z) (S:=S) (by decide) (zin (by omega))
  obtain ⟨S4,e4,g4⟩:=nr (way:=1) (a:=1) (e:=eVar 0) (l:=[some (.str z)]) (S:=S3) (S0:=S3) (z:=z) rfl λS=>zoj (v:=1) (z:=z) (S:=S) (by decide) (zin (by omega))
  have e5:zca (zbi (tE (zac zcr (zaa (eC (.int 0)) (zaa (eC (.int 1)) (zaa (eVar 0) (zab))))))) (zbi (tE (zac zcr (zaa (eC (.int 1)) (zaa (eC (.int 1)) (zaa (eVar 0) (zab))))))) [some (.str z)] S2=some (false,S4):=by
   unfold zca;rw [e3];exact e4
  exact ⟨false,S4,e5,g2.trans (g3.trans g4),λ_=>nofun,λh=>by cases h⟩
 ·intro S2 g2
  have e0:(edges.map D.str).filterMap (λ_=>(none:Option D))=[]:=by simp
  rw [e0]
  simp only [zay,zat,zb7,List.length_nil,sz0,true_and]
  rw [zsc (Gr.get ⟨_,rfl⟩ (zd5 _ _)) (zd5 _ _)]
  rfl
theorem yhu {l:Lo}{S:Sto}{Q:D->Sto->Prop}:We zlc l S Q=Q (.ref S.length) (S++[.dct []]):=zbs
def Bad (S:Sto) (x:D):Prop:=∃T,tyD S x=some T/\isI T "str" = false
theorem zvw {S:Sto}{n:Nat}{xs:List D}(h:S[n]? = some (.lst xs)):Bad S (.ref n):=⟨"list",by unfold tyD;simp only [h],by decide⟩
theorem yhv {S:Sto}{n:Nat}(h:S[n]? = some (.dct [])):Bad S (.ref n):=⟨"dict",by unfold tyD;simp only [h],by decide⟩
theorem yhw {way:Nat}{x:D}{S:Sto}(h:Bad S x):zex [.int (way:Int),.int 1,x] S=some (.tup [.str "refused",.bl true],S++[.exc "NoText"]):=by
 obtain ⟨T,h1,h2⟩:=h
 by_cases hw:way=0
 ·subst hw
  exact zoh (way:=0) (many:=.int 1) (zt9 h1 h2).1 (zt9 h1 h2).2
 ·have e1:rdM way=zfa:=by unfold rdM;rw [if_neg hw]
  have e2:rdZ way=zha:=by unfold rdZ;rw [if_neg hw]
  exact zoh (way:=way) (many:=.int 1) (by rw [e1];exact (zue h1 h2).1) (by rw [e2];exact (zue h1 h2).2)
theorem zvx (S:Sto):zap S 60 (.tup [.str "refused",.bl true])=some (.tuple [.str "refused",.bool true]):=by simp [zap,pyAll]
theorem yhx:(PyData.tuple [.str "refused",.bool true]).canLay0=true:=by
 unfold PyData.canLay0
 rw [PyData.canLayAll0,PyData.canLayAll0,PyData.canLayAll0]
 unfold PyData.canLay0
 rw [zuy];rfl
theorem yhy {x y:Str}(i:Nat) (hi:(i:Int)<2):∃z:Str,L2.atI [D.str x,.str y] (i:Int)=some (.str z)/\(z=x\/z=y):=by
 have:i=0\/i=1:=by omega
 rcases this with rfl|rfl
 ·exact ⟨x,rfl,.inl rfl⟩
 ·exact ⟨y,rfl,.inr rfl⟩
theorem yhz {g:GM}{b:SM}(P:Nat->Lo->Sto->Prop) (O:D->Sto->Prop) {as:AM}{l:Lo}{S:Sto}{QS:Fl->Lo->Sto->Prop}(h:Wa as l S λxs S1=>∃n:Nat,xs=[.int (n:Int)]/\n<1000/\P 0 l S1)
  (step:∀(i:Nat) l S,i<1000->P i l S->Wg (g (.int i) l S) λl1 S1=>Ws b l1 S1 λf l2 S2=>((f=.nx\/f=.ct)/\P (i+1) l2 S2)\/∃d,f=.rt d/\O d S2)
  (fin:∀i l' S',P i l' S'->QS .nx l' S') (out:∀d l' S',O d S'->QS (.rt d) l' S'):Ws (zfi (zdb as) g b) l S QS:=by
 obtain ⟨xs,S1,e,n,rfl,hn,p⟩:=h
 exact zj3 P O e (by omega) p (λi l S hi hp=>step i l S (by omega) hp) (λl S hp=>fin n l S hp) out
theorem yh0 {i j:Int}{S:Sto}{Q:D->Sto->Prop}:Wo (zjt [.int i,.int j] S) Q=Q (.int (if j<i then j else i)) S:=zbs
theorem yh1 {i j:Int}{S:Sto}{Q:D->Sto->Prop}:Wo (zju [.int i,.int j] S) Q=Q (.int (if j > i then j else i)) S:=zbs
structure Tn (ns:List Int) (n m a v:Nat) (rs:List TR) (ps:List Str) (S:Sto):Prop where
 h0:lstOf S 0=some (ns.map D.int)
 p:PQ n S
 hm:S[m]? = some (.lst (rs.map tD))
theorem Tn.gr {ns:List Int}{n m a v:Nat}{rs:List TR}{ps:List Str}{S S':Sto}(h:Tn ns n m a v rs ps S) (g:Gr S S'):Tn ns n m a v rs ps S':=⟨g.lst h.h0,h.p.gr g,g.get h.hm⟩
theorem Tn.fn {ns:List Int}{n m a v:Nat}{rs:List TR}{ps:List Str}{S S':Sto}(h:Tn ns n m a v rs ps S) (h0:0≠n) (hm:m≠n) (f:Fn n S S') (p:PQ n S'):Tn ns n m a v rs ps S':=⟨f.lst h0 h.h0,p,f m _ hm h.hm⟩
noncomputable def loc (k n way a v m:Nat) (most:D) (ps:List Str) (y9 y10 y11 y12:Option D):Lo:=[~~~0,‹k›,~~~n,‹way›,‹a›,‹v›,some most,~~~m,some (.tup (ps.map D.str)),y9,y10,y11,y12]
noncomputable def bT2:SM:=zah (sIf (zbi (tE (zac zja (zaa (eVar 4) (zaa (eVar 7) (zaa (eVar 5) (zaa (eVar 8) (zab)))))))) (sRet (eC (.bl false))) (zaq)) (zah (zak (zac zhr (zaa (eVar 2) (zaa (eOp zav (zac za3 (zaa (zac zgx (zaa (eVar 7) (zab))) (zaa (zac zhb (zaa (eVar 8) (zab))) (zab)))) (eVar 3)) (zab)))) (gName3 9)) (zah (sIf (tE (eOp dEq (zac zbp (zaa (eVar 2) (zaa (eC (.int 3)) (zab)))) (eC (.int 0)))) (zak (zac zhr (zaa (eVar 2) (zaa (eVar 9) (zab)))) (gName3 9)) (zaq)) (zah (sIf (zbi (tE (zac zcr (zaa (eVar 3) (zaa (eOp zav (zac za3 (zaa (eVar 4) (zaa (eVar 5) (zab)))) (eVar 3)) (zaa (eVar 9) (zab))))))) (sRet (eC (.bl false))) (zaq)) (zah (zak (eOp zav (zac za3 (zaa (eC .non) (zaa (eC (.bl true)) (zaa (eC (.int 0)) (zaa (zac zbl (zab)) (zaa (zac za3 (zaa (eVar 9) (zab))) (zaa (zac zbl (zaa (eVar 9) (zab))) (zaa (zlc) (zaa (eVar 7) (zab)))))))))) (zac zbp (zaa (eVar 2) (zaa (eC (.int 8)) (zab))))) (gName3 10)) (sIf (tE (eOp zf8 (zac zex (zaa (eVar 3) (zaa (eC (.int 1)) (zaa (eVar 10) (zab))))) (zac zbl (zaa (eC (.str "refused")) (zaa (eC (.bl true)) (zab)))))) (sRet (eC (.bl false))) (zaq))))))
theorem yh2 {ns:List Int}{k n way a v m:Nat}{most:D}{rs:List TR}{ps:List Str}{y9 y10 y11 y12:Option D}{S:Sto}(t:Tn ns n m a v rs ps S) (h0n:0≠n) (hmn:m≠n) (hw:way<2) (ok:∀r∈rs,OkT a r) (ha:a<=4) (h24:rs.length<=24) (h:ps.all (zbd v)=true) (h1:1<=v) (hv:v<=5) (h40:ps.length<=40) :
  Ws bT2 (loc k n way a v m most ps y9 y10 y11 y12) S λf l S'=>f=.nx/\l.length=13/\l[0]? = some (some (.ref 0))/\lstOf S' 0=some (ns.map D.int):=by
 have sz0:0<=sizeLine:=by decide
 have sz1:1<=sizeLine:=by decide
 have sz2:2<=sizeLine:=by decide
 have sz8:8<=sizeLine:=by decide
 unfold bT2
 refine zb0 (λl S'=>Tn ns n m a v rs ps S'/\l=loc k n way a v m most ps y9 y10 y11 y12) ?_ ?_
 ·rw [zbw]
  unfold loc
  simp only [zc0,zbu,zay,zaw,zat,zar,qg0,qg1,zau]
  refine (yhm t.hm ok (by omega) h24 h h1 hv h40).mono ?_
  rintro x S1 ⟨rfl,g1⟩
  simp only [zbo,Bool.not_true,qbf,if_false,zbv]
  exact ⟨nofun,t.gr g1,nofun⟩
 rintro l S1 ⟨t1,rfl⟩
 refine zb0 (λl S'=>Tn ns n m a v rs ps S'/\∃w:Str,w.length<=3000/\l=loc k n way a v m most ps (some (.str w)) y10 y11 y12) ?_ ?_
 ·unfold loc
  simp only [zbn,zba,zay,zaw,zat,zar,qg0,qg1,zau]
  refine (zl9 t1.hm ok (by omega) h24).mono ?_
  rintro x S2 ⟨rfl,g2⟩
  refine (zoo h hv h40).mono ?_
  rintro x S3 ⟨rfl,g3⟩
  have l1:=zve ok h24
  have l2:=zvf h hv h40
  obtain ⟨z,hz,hz'⟩:=yhy (x:=st rs) (y:=nT ps) way (by omega)
  have lz:z.length<=700:=by rcases hz' with rfl|rfl <;> assumption
  simp only [zb7,List.length_cons,List.length_nil,Nat.reduceAdd,sz2,true_and,zb5,za9,zbe,hz]
  have t3:=t1.gr ((g2.trans g3).push (.lst [.str (st rs),.str (nT ps)]))
  obtain ⟨w,S4,e4,hw4,p4,f4⟩:=zu6 (z:=z) t3.p (by omega)
  simp only [e4,zbs,za6,qs0,qs1]
  exact ⟨t3.fn h0n hmn f4 p4,w,by omega,rfl⟩
 rintro l S2 ⟨t2,w,hw2,rfl⟩
 refine zb0 (λl S'=>Tn ns n m a v rs ps S'/\∃w:Str,w.length<=15000/\l=loc k n way a v m most ps (some (.str w)) y10 y11 y12) ?_ ?_
 ·rw [zbw]
  unfold loc
  simp only [zbu,zba,zay,zaw,zat,zar,za1,qg0,qg1,zau]
  refine (zen n 3 S2 t2.p (by decide) (by decide)).mono ?_
  rintro x S3 ⟨⟨d,rfl,hd⟩,p3,f3⟩
  have t3:=t2.fn h0n hmn f3 p3
  simp only [zc4,zbo]
  by_cases d0:(d:Int)=0
  ·obtain ⟨w',S4,e4,hw4,p4,f4⟩:=zu6 (z:=w) t3.p (by omega)
   simp only [d0,decide_true,if_true,zbn,zay,zaw,zat,zar,qg0,qg1,zau,e4,zbs,za6,qs0,qs1]
   exact ⟨nofun,t3.fn h0n hmn f4 p4,w',by omega,rfl⟩
  ·simp only [d0,decide_false,qbf,if_false,zbv]
   exact ⟨nofun,t3,w,by omega,rfl⟩
 rintro l S3 ⟨t3,w,hw3,rfl⟩
 refine zb0 (λl S'=>Tn ns n m a v rs ps S'/\l=loc k n way a v m most ps (some (.str w)) y10 y11 y12) ?_ ?_
 ·rw [zbw]
  unfold loc
  obtain ⟨q,hq,hq'⟩:=zma (x:=a) (y:=v) way (by omega)
  simp only [zc0,zbu,zba,zay,zaw,zat,zar,qg0,qg1,zau,zb7,List.length_cons,List.length_nil,Nat.reduceAdd,sz2,true_and,zb5,za9,zbe,hq]
  have t4:=t3.gr ((Gr.refl S3).push (.lst [.int (a:Int),.int (v:Int)]))
  generalize S3++[Ob.lst [.int (a:Int),.int (v:Int)]]=S4 at t4
  have hr:∃S',zcr [.int (way:Int),.int (q:Int),.str w] S4=some (.bl true,S')/\Gr S4 S':=by
   have:way=0\/way=1:=by omega
   rcases this with rfl|rfl
   ·cases hq
    exact zl0 ha (zin (by omega))
   ·cases hq
    exact zoj hv (zin (by omega))
  obtain ⟨S5,e5,g5⟩:=hr
  simp only [e5,zbs,zbo,Bool.not_true,qbf,if_false,zbv]
  exact ⟨nofun,t4.gr g5,nofun⟩
 rintro l S4 ⟨t4,rfl⟩
 refine zb0 (λl S'=>Tn ns n m a v rs ps S'/\∃x,Bad S' x/\l=loc k n way a v m most ps (some (.str w)) (some x) y11 y12) ?_ ?_
 ·unfold loc
  simp only [zbn,zba,zay,zaw,zat,zar,za1,yhu,qg0,qg1,zau,zb7,zcp,List.length_cons,List.length_nil,Nat.reduceAdd,sz0,sz1,sz8,true_and]
  have g1:Gr S4 (S4++[.lst [.str w]]):=⟨_,rfl⟩
  have b1:(S4++[Ob.lst [.str w]])[S4.length]? = some (.lst [.str w]):=zd5 _ _
  generalize S4++[Ob.lst [.str w]]=S5 at g1 b1
  have g2:Gr S5 (S5++[.dct []]):=⟨_,rfl⟩
  have b2:(S5++[Ob.dct []])[S5.length]? = some (.dct []):=zd5 _ _
  generalize S5++[Ob.dct []]=S6 at g2 b2
  have g3:=(Gr.refl S6).push (.lst [.non,.bl true,.int 0,.tup [],.ref S4.length,.tup [.str w],.ref S5.length,.ref m])
  have b3:lstOf (S6++[Ob.lst [.non,.bl true,.int 0,.tup [],.ref S4.length,.tup [.str w],.ref S5.length,.ref m]]) S6.length=some [.non,.bl true,.int 0,.tup [],.ref S4.length,.tup [.str w],.ref S5.length,.ref m]:=za9
  generalize S6++[Ob.lst [.non,.bl true,.int 0,.tup [],.ref S4.length,.tup [.str w],.ref S5.length,.ref m]]=S7 at g3 b3
  have g47:Gr S4 S7:=g1.trans (g2.trans g3)
  have t7:=t4.gr g47
  have n4:=t4.p.lt
  have n5:=(t4.p.gr g1).lt
  have n6:=(t4.p.gr (g1.trans g2)).lt
  refine (zen n 8 S7 t7.p (by decide) (by decide)).mono ?_
  rintro x S8 ⟨⟨d,rfl,hd⟩,p8,f8⟩
  have t8:=t7.fn h0n hmn f8 p8
  have b18:=f8 _ _ (by omega) (g3.get (g2.get b1))
  have b28:=f8 _ _ (by omega) (g3.get b2)
  have b38:=f8.lst (by omega) b3
  obtain ⟨x,hx1,hx2⟩:=znk [D.non,.bl true,.int 0,.tup [],.ref S4.length,.tup [.str w],.ref S5.length,.ref m] (d:Int) (by omega) (by simp;omega)
  have bx:Bad S8 x:=by
   simp only [List.mem_cons,List.not_mem_nil,or_false] at hx2
   rcases hx2 with rfl|rfl|rfl|rfl|rfl|rfl|rfl|rfl
   ·exact ⟨"NoneType",rfl,by decide⟩
   ·exact ⟨"bool",rfl,by decide⟩
   ·exact ⟨"int",rfl,by decide⟩
   ·exact ⟨"tuple",rfl,by decide⟩
   ·exact zvw b18
   ·exact ⟨"tuple",rfl,by decide⟩
   ·exact yhv b28
   ·exact zvw t8.hm
  simp only [zb5,b38,zbe,hx1,za6,qs0,qs1]
  exact ⟨t8,x,bx,rfl⟩
 rintro l S5 ⟨t5,x,bx,rfl⟩
 rw [zbw]
 unfold loc
 simp only [zbu,zba,zay,zaw,zat,zar,za1,qg0,qg1,zau,yhw bx,zbs,zcp,List.length_cons,List.length_nil,Nat.reduceAdd,sz2,true_and]
 rw [zoq (zvx _) (zvx _) yhx]
 simp only [zbo,qbf,if_false,zbv]
 exact ⟨nofun,nofun,nofun,(t5.gr ⟨_,rfl⟩).h0⟩
theorem law_true (ns:List Int) (hl:ns.length<=63):∃S',zhs [.ref 0] [.flst (ns.map D.int)]=some (.bl true,S'):=by
 have sz2:2<=sizeLine:=by decide
 have key:Wo (zhs [.ref 0] [.flst (ns.map D.int)]) λv _=>v=.bl true:=by
  unfold zhs zte
  dsimp! only [zbx]
  rw [zb6]
  refine yhz (λ_ l S=>lstOf S 0=some (ns.map D.int)/\l.length=13/\l[0]? = some (some (.ref 0))) (λ_ _=>False) ?_ ?_ ?_ (λd l S h=>h.elim)
  ·have h0:lstOf [.flst (ns.map D.int)] 0=some (ns.map D.int):=rfl
   simp only [zaw,zat,zay,zar,za1,qg0,zau,zco,h0,zbe,qlm,yh0,yh1]
   refine ⟨(if (if (16:Int)<(ns.length:Int) then 16 else (ns.length:Int)) > 3 then (if (16:Int)<(ns.length:Int) then 16 else (ns.length:Int)) else 3).toNat,?_,?_,nofun,nofun,nofun⟩
   ·rw [Int.toNat_of_nonneg (by split <;> split <;> omega)]
   ·split <;> split <;> omega
  ·rintro k l S0 hk ⟨h0,hl13,hl0⟩
   obtain ⟨y1,y2,y3,y4,y5,y6,y7,y8,y9,y10,y11,y12,rfl⟩:∃y1 y2 y3 y4 y5 y6 y7 y8 y9 y10 y11 y12,l=[~~~0,y1,y2,y3,y4,y5,y6,y7,y8,y9,y10,y11,y12]:=by
    match l,hl13,hl0 with
    | [_,y1,y2,y3,y4,y5,y6,y7,y8,y9,y10,y11,y12],_,h=>cases h;exact ⟨y1,y2,y3,y4,y5,y6,y7,y8,y9,y10,y11,y12,rfl⟩
   simp only [za6,qs0,qs1]
   refine zb0 (λl S=>∃n,lstOf S 0=some (ns.map D.int)/\PQ n S/\0≠n/\l=[~~~0,‹k›,~~~n,y3,y4,y5,y6,y7,y8,y9,y10,y11,y12]) ?_ ?_
   ·simp only [zbn,zay,zaw,zat,zar,qg0,qg1,zau]
    refine (ye8 ns k S0 h0 (by omega)).mono ?_
    rintro v S1 ⟨rfl,p1,g1⟩
    simp only [za6,qs0,qs1]
    have hne:0≠S0.length:=by
     intro z
     have:S0=[]:=List.length_eq_zero_iff.mp z.symm
     rw [this] at h0;cases h0
    exact ⟨nofun,S0.length,g1.lst h0,p1,hne,rfl⟩
   rintro l S1 ⟨n,h1,p1,hn,rfl⟩
   refine zb0 (λl S=>lstOf S 0=some (ns.map D.int)/\PQ n S/\∃way:Nat,way<2/\l=[~~~0,‹k›,~~~n,‹way›,y4,y5,y6,y7,y8,y9,y10,y11,y12]) ?_ ?_
   ·simp only [zbn,zba,zay,zaw,zat,zar,za1,qg0,qg1,zau]
    refine (zen n 2 S1 p1 (by decide) (by decide)).mono ?_
    rintro x S2 ⟨⟨d,rfl,hd⟩,p2,f2⟩
    simp only [za6,qs0,qs1]
    exact ⟨nofun,f2.lst hn h1,p2,d,by omega,rfl⟩
   rintro l S2 ⟨h2,p2,way,hw,rfl⟩
   refine zb0 (λl S=>lstOf S 0=some (ns.map D.int)/\PQ n S/\∃a:Nat,1<=a/\a<=4/\l=[~~~0,‹k›,~~~n,‹way›,‹a›,y5,y6,y7,y8,y9,y10,y11,y12]) ?_ ?_
   ·simp only [zbn,zba,zay,zaw,zat,zar,za1,qg0,qg1,zau]
    refine (zen n 4 S2 p2 (by decide) (by decide)).mono ?_
    rintro x S3 ⟨⟨d,rfl,hd⟩,p3,f3⟩
    have e:(1:Int)+(d:Int)=((1+d:Nat):Int):=by push_cast;rfl
    simp only [zcv,e,za6,qs0,qs1]
    exact ⟨nofun,f3.lst hn h2,p3,1+d,by omega,by omega,rfl⟩
   rintro l S3 ⟨h3,p3,a,a1,a4,rfl⟩
   refine zb0 (λl S=>lstOf S 0=some (ns.map D.int)/\PQ n S/\∃v:Nat,1<=v/\v<=5/\l=[~~~0,‹k›,~~~n,‹way›,‹a›,‹v›,y6,y7,y8,y9,y10,y11,y12]) ?_ ?_
   ·simp only [zbn,zba,zay,zaw,zat,zar,za1,qg0,qg1,zau]
    refine (zen n 5 S3 p3 (by decide) (by decide)).mono ?_
    rintro x S4 ⟨⟨d,rfl,hd⟩,p4,f4⟩
    have e:(1:Int)+(d:Int)=((1+d:Nat):Int):=by push_cast;rfl
    simp only [zcv,e,za6,qs0,qs1]
    exact ⟨nofun,f4.lst hn h3,p4,1+d,by omega,by omega,rfl⟩
   rintro l S4 ⟨h4,p4,v,v1,v5,rfl⟩
   refine zb0 (λl S=>lstOf S 0=some (ns.map D.int)/\PQ n S/\∃most:Nat,most<=24/\l=[~~~0,‹k›,~~~n,‹way›,‹a›,‹v›,‹most›,y7,y8,y9,y10,y11,y12]) ?_ ?_
   ·simp only [zbn,zba,zay,zaw,zat,zar,za1,qg0,qg1,zau,zb7,List.length_cons,List.length_nil,Nat.reduceAdd,sz2,true_and]
    have g:Gr S4 (S4++[.lst [.int 3,.int 24]]):=⟨_,rfl⟩
    refine (zen n 2 _ (p4.gr g) (by decide) (by decide)).mono ?_
    rintro x S5 ⟨⟨d,rfl,hd⟩,p5,f5⟩
    obtain ⟨q,hq,hq'⟩:=zma (x:=3) (y:=24) d hd
    have hq:L2.atI [D.int 3,.int 24] (d:Int)=some (.int q):=hq
    have hl:=f5.lst (by have:=p4.lt;omega) za9
    simp only [zb5,hl,zbe,hq,za6,qs0,qs1]
    exact ⟨f5.lst hn (g.lst h4),p5,q,by omega,rfl⟩
   rintro l S5 ⟨h5,p5,most,hmost,rfl⟩
   refine zb0 (λl S=>lstOf S 0=some (ns.map D.int)/\PQ n S/\∃(m:Nat) (rs:List TR),m≠n/\S[m]? = some (.lst (rs.map tD))/\(∀r∈rs,OkT a r)/\rs.length<=most/\l=[~~~0,‹k›,~~~n,‹way›,‹a›,‹v›,‹most›,~~~m,y8,y9,y10,y11,y12]) ?_ ?_
   ·simp only [zbn,zay,zaw,zat,zar,qg0,qg1,zau]
    refine (yhg p5 a1 a4 hmost).mono ?_
    rintro x S6 ⟨⟨m,rs,rfl,hmn,hml,hm,ok,hlr⟩,p6,f6⟩
    simp only [za6,qs0,qs1]
    exact ⟨nofun,f6.lst hn h5,p6,m,rs,hmn,hm,ok,hlr,rfl⟩
   rintro l S6 ⟨h6,p6,m,rs,hmn,hm,ok,hlr,rfl⟩
   refine zb0 (λl S=>∃ps:List Str,Tn ns n m a v rs ps S/\ps.all (zbd v)=true/\ps.length<=40/\l=loc k n way a v m (.int (most:Int)) ps y9 y10 y11 y12) ?_ ?_
   ·simp only [zbn,zba,zay,zaw,zat,zar,za1,qg0,qg1,zau,zb7,List.length_cons,List.length_nil,Nat.reduceAdd,sz2,true_and]
    have g:Gr S6 (S6++[.lst [.int 3,.int 40]]):=⟨_,rfl⟩
    refine (zen n 2 _ (p6.gr g) (by decide) (by decide)).mono ?_
    rintro x S7 ⟨⟨d,rfl,hd⟩,p7,f7⟩
    obtain ⟨q,hq,hq'⟩:=zma (x:=3) (y:=40) d hd
    have hq:L2.atI [D.int 3,.int 40] (d:Int)=some (.int q):=hq
    have hl:=f7.lst (by have:=p6.lt;omega) za9
    simp only [zb5,hl,zbe,hq]
    have t7:Tn ns n m a v rs [] S7:=⟨f7.lst hn (g.lst h6),p7,f7 _ _ hmn (g.get hm)⟩
    refine (yhc p7 v5 (by omega)).mono ?_
    rintro x S8 ⟨⟨ps,rfl,hps,hlp⟩,p8,f8⟩
    have t8:=t7.fn hn hmn f8 p8
    simp only [za6,qs0,qs1]
    exact ⟨ps,⟨t8.h0,t8.p,t8.hm⟩,hps,by omega,rfl⟩
   rintro l S7 ⟨ps,t7,hps,hlp,rfl⟩
   refine (yh2 (k:=k) (way:=way) (most:=.int (most:Int)) (y9:=y9) (y10:=y10) (y11:=y11) (y12:=y12) t7 hn hmn hw ok a4 (by omega) hps v1 v5 hlp).mono ?_
   rintro f l S8 ⟨rfl,q1,q2,q3⟩
   exact .inl ⟨.inl rfl,q3,q1,q2⟩
  ·rintro i l S1 ⟨_,hl13,_⟩
   refine zb0 (λl _=>l.length=13) ((yhp hl13).mono λf l S h=>⟨h.1,h.2⟩) ?_
   rintro l S2 hl13
   refine zb0 (λl _=>l.length=13) ((yhr hl13).mono λf l S h=>⟨h.1,h.2⟩) ?_
   rintro l S3 hl13
   refine zb0 (λl _=>l.length=13) ((yhq hl13).mono λf l S h=>⟨h.1,h.2⟩) ?_
   rintro l S4 hl13
   refine (yht hl13).mono ?_
   rintro f l S5 rfl
   first|rfl|exact nofun
 obtain ⟨v,S',e,rfl⟩:=key
 exact ⟨S',e⟩
end M
end
namespace PySem.W.Fast
def tw5752185724423022050:Nat:=0
def tw2018743571162463930:Nat:=0
def tw15117036449083672813:Nat:=0
def tw3079561583084980895:Nat:=0
def tw8081387908619920514:Nat:=0
def tw17681409320040105293:Nat:=0
def tw11374332768217539254:Nat:=0
def tw14813319787253794268:Nat:=0
def tw1046864168641232698:Nat:=0
def tw8594772725110796642:Nat:=0
def tw6123087243553834165:Nat:=0
def tw15372485700882990916:Nat:=0
def tw13582329018823288718:Nat:=0
def tw5195823995317080655:Nat:=0
def tw2423181740441764893:Nat:=0
def tw16050070568501238479:Nat:=0
def tw6798435860978218968:Nat:=0
def tw11679714981536302620:Nat:=0
def tw5442999980259464463:Nat:=0
def tw5561063398352268091:Nat:=0
end PySem.W.Fast
open PySem PySem.W PyProof.Rows
theorem PySem.Challenge.cw_opencells_k63_sheets_and_nets_written_holds : PySem.Challenge.rw_opencells_k63_sheets_and_nets_written.Holds := by
 w_on;o_law;k_head;(case hw=>w_witness2)
 k_fill
 refine G.walk (l:=PySem.Challenge.rw_opencells_k63_sheets_and_nets_written) rfl rfl (λw h Y=>PySem.W.kIn_of Y) ?F (λns hl=>M.law_true ns hl)
 case F =>
  intro w mg fa h KX GN hmg
  refine' G.all_mk KX GN hmg ?_ ?_ ?_ ?_ ?_ ?_ ?_ ?_ ?_ ?_ ?_ ?_ ?_ ?_ ?_ ?_ ?_ ?_ ?_ ?_ ?_ ?_ ?_ ?_ ?_ ?_ ?_ ?_ ?_ ?_ ?_ ?_ ?_ ?_ ?_ ?_ ?_ ?_ ?_ ?_ ?_ ?_ ?_ ?_ ?_ ?_ ?_ ?_ ?_ ?_ ?_ ?_ ?_ ?_ ?_ ?_ ?_ ?_ ?_ ?_ ?_ ?_ ?_ ?_ ?_ ?_ ?_ ?_ ?_ ?_ ?_
  all_goals try first|(refine' G.FI.mk ?a ?l ?c ?k;(case a=>k_is);(case l=>k_is);(case c=>k_is);(case k=>k_is))|k_is|kernel_rfl
#print axioms PySem.Challenge.cw_opencells_k63_sheets_and_nets_written_holds