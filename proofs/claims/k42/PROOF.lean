import PyProof.Rows.All
import Wide.All
import OpenK.AllK
import Wide.FinOn
import Lean
import PyProof.EqAt
import PyProof.EqKinds
import PyProof.TupleCall
import PyProof.ReprLen
import PyProof.ReprRoads
import PyProof.P3Eq
import PyProof.SetRoads
import PyProof.IsRules
import PyProof.ListRange
import PyProof.ConsumeWalk
import PyProof.NeKinds
import PyProof.DictTable
import PyProof.Draws
import PyProof.EnumMake
import KE.BitLaws
import KE.KIntText
import KE.KRevIter
import PyProof.Rows.SumAny
import PyProof.StrLawsRepr
import PyProof.Rows.SortStrRead
import PyProof.DictCompW
import PyProof.StrOps2
import PyProof.DictWalks
import OpenK.KOwn
import PyProof.NsDelKeeps
import PyProof.RulesAs
import KE.KIsAll
import PyProof.ExcArgsOwn
import PyProof.ExcAttrAll.ValueError
import PyProof.TupleKey
import PyProof.DictRoadsH
import KE.KSortTup
import KE.KDictSum
import PyProof.Rows.TupDisplay
import PyProof.ZipIter
import PyProof.FactsAll.tuple_1
import PyProof.Dict
import PyProof.FactsAll.tuple_2
import PyProof.FactsAll.tuple_3
import PyProof.MeetsSeq
import PyProof.Rows.FStr
import PyProof.Rows.RuleM_int
import PyProof.Rows.SetFrom
import PyProof.Rows.StrItems
import PyProof.Rows.StrNews2
import PyProof.StrWalks
import PyProof.WalksMore
import KE.KLam
import KE.KNestM
import KE.KSortKey
import PySem.Challenge.RW_opencells_k42_words_of_bits
set_option Elab.async false
set_option maxHeartbeats 4000000
set_option maxRecDepth 100000
set_option linter.unusedSimpArgs false
set_option linter.unusedVariables false
noncomputable section
theorem qwb {α β:Type}{M:PySem.Model}{A:PySem.Around}{E:PySem.Value->PySem.Shared->Prop}{s:PySem.Shared}{m:PySem.Sem α}{f:α->PySem.Sem β}{Q:β->PySem.Shared->Prop}(h:PySem.wpAny M A m (λa s'=>PySem.wpAny M A (f a) Q E s') E s):PySem.wpAny M A (m >>= f) Q E s:=PySem.wpAny_bind h
theorem qwp {α:Type}{M:PySem.Model}{A:PySem.Around}{E:PySem.Value->PySem.Shared->Prop}{s:PySem.Shared}{a:α}{Q:α->PySem.Shared->Prop}(h:Q a s):PySem.wpAny M A (pure a) Q E s:=PySem.wpAny_pure h
theorem qbf:(false=true)=False:=Bool.false_eq_true
theorem qme {α:Type _}{l:List α}{i:Nat}{a:α}(h:l[i]? = some a):∃h:i<l.length,l[i]=a:=List.getElem?_eq_some_iff.mp h
theorem qge {α:Type _}{l:List α}{i:Nat}(h:i<l.length):l[i]? = some l[i]:=List.getElem?_eq_getElem h
abbrev QFg:=PySem.W.Frag
theorem qps {h:PySem.Heap}{a:PySem.Addr}{o1:PySem.Obj}(o:PySem.Obj) (e:h.get? a=some o1):(h.push o).get? a=some o1:=PySem.Heap.get?_push_of_some o e
theorem qlm {α β:Type _}{as:List α}(f:α->β):(as.map f).length=as.length:=List.length_map f
theorem qgm {α β:Type _}{f:α->β}{l:List α}{i:Nat}:(l.map f)[i]? = l[i]?.map f:=List.getElem?_map
theorem qoi {α:Type _}{a b:α}(h:some a=some b):a=b:=Option.some.inj h
theorem qmg {α:Type _}{l:List α}{i:Nat}{a:α}(e:l[i]? = some a):a∈l:=List.mem_of_getElem? e
theorem qlr (n:Nat):n<=n:=Nat.le_refl n
theorem qla {α:Type _}{as bs:List α}:(as++bs).length=as.length+bs.length:=List.length_append
namespace TS
open PySem PySem.SetTable
noncomputable def F:Nat->Nat->Nat
 | 0,x=>x
 | n+1,x=>5*F n x+1
noncomputable def adv (mask:Nat) (p:Probe):Probe :=
 if p.more > 0 then { p with j:=p.j+1,more:=p.more-1 } else
 let (i,perturb):=leap mask p.i p.perturb
 { p with j:=i,more:=runEnd mask i-i,i,perturb }
noncomputable def st0 (mask:Nat) (h:Int):Probe:={ j:=bits h % (mask+1),more:=runEnd mask (bits h % (mask+1))-bits h % (mask+1),i:=bits h % (mask+1),perturb:=bits h,dummy:=none }
noncomputable def pn (mask:Nat) (h:Int):Nat->Probe
 | 0=>st0 mask h
 | n+1=>adv mask (pn mask h n)
noncomputable def bl (mask:Nat) (h:Int):Nat->Nat × Nat
 | 0=>(bits h % (mask+1),bits h)
 | n+1=>leap mask (bl mask h n).1 (bl mask h n).2
def Ris (xs:Array Nat):Prop:=∀i j,i<j->j<xs.size->xs.getD i 0<xs.getD j 0
def In (t:SetTable) (j:Nat):Prop:=∃i:Nat,t.place[i]? = some j
structure TOk (t:SetTable) (es:Array (Int × Value)):Prop where
 dm:t.dummies = #[]
 sz:t.place.size=es.size
 pw:∃k,t.mask+1=2 ^ k/\3<=k
 ris:Ris t.place
 le:∀j,In t j->j<=t.mask
 ro:es.size*5<t.mask*3
 sm:t.mask<8192
 pr:∀(i:Nat) (h:Int) (v:Value),es[i]? = some (h,v)->∃n,t.place[i]? = some (pn t.mask h n).j/\∀m,m<n->In t (pn t.mask h m).j
def Occ (ow:Array (Option Nat)) (j:Nat):Prop:=∃i,ow[j]? = some (some i)
instance (ow:Array (Option Nat)):DecidablePred (Occ ow):=λj=>match h:ow[j]? with
 | some (some i)=>.isTrue ⟨i,h⟩
 | some none=>.isFalse λhx1_=>by obtain ⟨i,z⟩:=hx1_;rw [h] at z;cases z
 | none=>.isFalse λhx2_=>by obtain ⟨i,z⟩:=hx2_;rw [h] at z;cases z
noncomputable def zme (ks:List Int):Int:=reduceHash (Builtin.Tuple.tupleHashOf (ks.map hashInt))
section
variable {prog:Program}{w:World}{A:Around}{E:Value->Shared->Prop}{s:Shared}
structure Els (es:Array (Int × Value)) (xs:List (List Int × Addr)):Prop where
 sub:∀e∈es.toList,∃p∈xs,e=(zme p.1,.ref p.2)
 sup:∀p∈xs,(zme p.1,Value.ref p.2)∈es.toList
 len:es.size=xs.length
end
def zrs (o:Obj) (xs:List (List Int × Addr)):Prop:=o.ExactSet/\∃es ep t,o.data=.set es ep t/\TOk t es/\Els es xs
def TSet (a:Addr) (xs:List (List Int × Addr)) (h:Heap):Prop:=∃o,h.get? a=some o/\zrs o xs
section
variable {prog:Program}{w:World}{A:Around}{E:Value->Shared->Prop}{s:Shared}{a x:Addr}{k:List Int}{xs:List (List Int × Addr)}
end
end TS
namespace BF
def lx:List Nat->List Nat->Prop
 | a :: u,b :: v=>a<b\/(a=b/\lx u v)
 | _,_=>False
def sl (u v:List Nat):Prop:=u.length<v.length\/(u.length=v.length/\lx u v)
def le (u v:List Nat):Prop:=sl u v\/u=v
abbrev P:=Nat × Nat
section
variable (A:Nat) (step:P->Nat->Option P) (fail:P->Nat->Bool)
noncomputable def walk:P->List Nat->Option P
 | p,[]=>some p
 | p,a :: w=>(step p a).bind λq=>walk q w
end
section
variable {A:Nat}{step:P->Nat->Option P}{fail:P->Nat->Bool}
section
variable {p0 q q':P}{ps:List P}{ws:List (List Nat)}{w:List Nat}{i c:Nat}
end
end
end BF
namespace SP
open PySem PySem.W PyProof.Rows
inductive Ok (lt:Nat->Nat->Bool) (n:Nat) {α:Type} (G:α->Prop):KasT α->Prop where
 | ret {a:α} (h:G a):Ok lt n G (.ret a)
 | ask {i j:Nat} {k:Bool->KasT α} (hi:i<n) (hj:j<n) (h:Ok lt n G (k (lt i j))):Ok lt n G (.ask i j k)
section
variable {r:Nat->Int}{n:Nat}
noncomputable def lt (r:Nat->Int) (i j:Nat):Bool:=decide (r i<r j)
noncomputable def at' (r:Nat->Int) (p:Array Nat) (k:Nat):Int:=r (p.getD k 0)
end
open PySem.Calls
abbrev Pr:=Int × Int
noncomputable def plt (p q:Pr):Bool:=decide (p.1<q.1) || (decide (p.1=q.1) && decide (p.2<q.2))
section
variable {prog:Program}{w:World}{A:Around}{E:Value->Shared->Prop}{s:Shared}
end
noncomputable def rk (ps:List Pr) (i:Nat):Int:=(ps.countP (λq=>plt q (ps.getD i (0,0))):Nat)
section
variable {prog:Program}{w:World}{A:Around}{E:Value->Shared->Prop}{s:Shared}
end
end SP
namespace L2
open PySem PySem.Spec PyProof.Rows
abbrev Key:=Sum Int Str
noncomputable def zeo:Key->Value->Bool
 | .inl k,v=>Value.isInt k v
 | .inr x,v=>Value.isStrOf x v
noncomputable def zrt (w:World):Key->Int
 | .inl k=>hashInt k
 | .inr x=>hashStr w x
theorem zdj:∀{k:Key}{v:Value},zeo k v=true->(∃i t,k=Sum.inl i/\v=Value.int i t)\/(∃x t,k=Sum.inr x/\v=Value.str x t)
 | .inl i,v,h=>by
  obtain ⟨t,e⟩:=Value.isInt_shape (k:=i) (v:=v) h
  exact .inl ⟨i,t,rfl,e⟩
 | .inr x,v,h=>by
  obtain ⟨t,e⟩:=Value.isStrOf_shape (x:=x) (v:=v) h
  exact .inr ⟨x,t,rfl,e⟩
theorem zru (i:Int) (t:Tok):zeo (.inl i) (.int i t)=true:=by simp [zeo,Value.isInt]
theorem zrv (x:Str) (t:Tok):zeo (.inr x) (.str x t)=true:=by simp [zeo,Value.isStrOf]
theorem zrw (a b:Int):decide ((Sum.inl a:Key)=Sum.inl b)=(a == b):=by
 by_cases e:a=b
 ·subst e;simp
 ·have h:¬(Sum.inl a:Key)=Sum.inl b:=λq=>e (Sum.inl.inj q)
  rw [decide_eq_false h]
  exact (beq_eq_false_iff_ne.mpr e).symm
theorem zrx (a b:Str):decide ((Sum.inr a:Key)=Sum.inr b)=decide (a=b):=by
 by_cases e:a=b
 ·subst e;simp
 ·have h:¬(Sum.inr a:Key)=Sum.inr b:=λq=>e (Sum.inr.inj q)
  rw [decide_eq_false h,decide_eq_false e]
theorem zry (a:Int) (b:Str):decide ((Sum.inl a:Key)=Sum.inr b)=false:=decide_eq_false (λq=>nomatch q)
theorem zrz (a:Str) (b:Int):decide ((Sum.inr a:Key)=Sum.inl b)=false:=decide_eq_false (λq=>nomatch q)
noncomputable def zcg (prog:Program) (w:World):PySem.KeyKind prog w Key where
 is:=zeo
 hash:=zrt w
 inj:=λv a b ha hb=>by
  rcases zdj ha with ⟨i,t,rfl,rfl⟩|⟨x,t,rfl,rfl⟩
  ·rcases zdj hb with ⟨j,u,rfl,e⟩|⟨y,u,rfl,e⟩
   ·injection e with e1 _;rw [e1]
   ·exact nomatch e
  ·rcases zdj hb with ⟨j,u,rfl,e⟩|⟨y,u,rfl,e⟩
   ·exact nomatch e
   ·injection e with e1 _;rw [e1]
 byValue:=λk v h=>by
  rcases zdj h with ⟨i,t,rfl,rfl⟩|⟨x,t,rfl,rfl⟩ <;> rfl
 pyHash:=λhv h=>by
  rcases zdj hv with ⟨i,t,rfl,rfl⟩|⟨x,t,rfl,rfl⟩
  ·exact wpAny_pyHash_int h
  ·exact wpAny_pyHash_str h
 eqBool:=λhu hv h=>by
  rcases zdj hu with ⟨i,t,rfl,rfl⟩|⟨x,t,rfl,rfl⟩
  ·rcases zdj hv with ⟨j,u,rfl,rfl⟩|⟨y,u,rfl,rfl⟩
   ·rw [zrw] at h;exact wpAny_eqBool_int h
   ·rw [zry] at h;exact SeqAt.EqAt.int_str i t y u _ _ _ _ h
  ·rcases zdj hv with ⟨j,u,rfl,rfl⟩|⟨y,u,rfl,rfl⟩
   ·rw [zrz] at h;exact SeqAt.EqAt.str_int x t j u _ _ _ _ h
   ·rw [zrx] at h;exact wpAny_eqBool_str h
 «strs»:=λk x t v h=>by
  rcases zdj h with ⟨i,u,rfl,e⟩|⟨y,u,rfl,e⟩
  ·exact nomatch e
  ·injection e with e1 _
   subst e1
   cases v <;> rfl
theorem zmf (prog:Program) (w:World) (i:Int) (t:Tok):(zcg prog w).is (.inl i) (.int i t)=true:=zru i t
theorem zr0 (prog:Program) (w:World) (x:Str) (t:Tok):(zcg prog w).is (.inr x) (.str x t)=true:=zrv x t
inductive V where
 | non|bl (b:Bool)|int (i:Int)|str (x:Str)|byt (b:Array UInt8)|flt (b:UInt64)|ref (a:Addr)|ty (n:String)
 deriving DecidableEq
def RelV:V->Value->Prop
 | .non,u=>u=Value.none
 | .bl b,u=>u=Value.bool b
 | .int i,u=>∃t,u=Value.int i t
 | .str x,u=>∃t,u=Value.str x t
 | .byt b,u=>∃t,u=Value.bytes b t
 | .flt b,u=>∃t,u=Value.float b t
 | .ref a,u=>u=Value.ref a
 | .ty n,u=>u=Value.type n
abbrev Vals:List V->List Value->Prop:=Paired RelV
theorem Vals.length {xs:List V}{us:List Value}(r:Vals xs us):xs.length=us.length:=Paired.length r
theorem Vals.get:∀{xs:List V}{us:List Value}{i:Nat}{x:V},Vals xs us->xs[i]? = some x->∃u,us[i]? = some u/\RelV x u
 | _,_,_,_,.nil,e=>by simp at e
 | _,_,0,_,.cons r _,e=>by simp at e;subst e;exact ⟨_,rfl,r⟩
 | _,_,i+1,x,.cons _ t,e=>by
  obtain ⟨u,h1,h2⟩:=Vals.get (i:=i) (x:=x) t (by simpa using e)
  exact ⟨u,by simpa using h1,h2⟩
theorem Vals.set {x:V}{u:Value}(r:RelV x u):∀{xs:List V}{us:List Value}(i:Nat),Vals xs us->Vals (xs.set i x) (us.set i u)
 | _,_,_,.nil=>.nil
 | _,_,0,.cons _ t=>.cons r t
 | _,_,i+1,.cons q t=>.cons q (Vals.set r i t)
theorem Vals.append:∀{xs ys:List V}{us ws:List Value},Vals xs us->Vals ys ws->Vals (xs++ys) (us++ws)
 | _,_,_,_,.nil,s=>s
 | _,_,_,_,.cons r t,s=>.cons r (Vals.append t s)
theorem Vals.take:∀{xs:List V}{us:List Value}(n:Nat),Vals xs us->Vals (xs.take n) (us.take n)
 | _,_,0,_=>.nil
 | _,_,_+1,.nil=>.nil
 | _,_,n+1,.cons r t=>.cons r (Vals.take n t)
theorem Vals.drop:∀{xs:List V}{us:List Value}(n:Nat),Vals xs us->Vals (xs.drop n) (us.drop n)
 | _,_,0,r=>r
 | _,_,_+1,.nil=>.nil
 | _,_,n+1,.cons _ t=>Vals.drop n t
def RelO:Option V->Option Value->Prop
 | some v,some u=>RelV v u
 | none,none=>True
 | _,_=>False
def KV {κ:Type}:List (κ × V)->List (κ × Value)->Prop:=Paired λ(p:κ × V) (q:κ × Value)=>p.1=q.1/\RelV p.2 q.2
noncomputable def kV:Key->V
 | .inl i=>.int i
 | .inr x=>.str x
inductive HO where
 | lst (xs:List V)
 | tup (xs:List V)
 | dK (kvs:List (Key × V))|dT (kvs:List (List Key × V))
 | set (S:Int->Bool) (n:Nat)
 | ins (C dx:Addr) (fs:List (Str × V))
 | own (x:Addr)
 | xd (fs:List (Str × V))
 | met (f x:Addr)
 | rng (lo hi:Int)
 | frz (o:Obj) (u:HO)
 | tbl (ps:Array Value)
 | ext (φ:Heap->Prop)
abbrev Hp:=Addr->Option HO
noncomputable def upd (H:Hp) (a:Addr) (o:HO):Hp:=λb=>if b=a then some o else H b
theorem zbg {H:Hp}{a:Addr}{o:HO}:upd H a o a=some o:=by unfold upd;rw [if_pos rfl]
theorem zaj {H:Hp}{a b:Addr}{o:HO}(h:b≠a):upd H a o b=H b:=by unfold upd;rw [if_neg h]
theorem zmg {H:Hp}{a:Addr}{o u:HO}:upd (upd H a o) a u=upd H a u:=by
 funext b;unfold upd;split <;> rfl
theorem zcr {H:Hp}{a b:Addr}{o u:HO}(h:H a=some o) (h':H b=some u) (d:o≠u):a≠b:=by
 intro e;subst e;rw [h] at h';exact d (qoi h')
theorem zbd {H:Hp}{a b:Addr}{o:HO}(h:H a=some o) (h':H b=none):a≠b:=by
 intro e;subst e;rw [h] at h';cases h'
def IsTD (h:Heap) (a:Addr) (items:Array Value):Prop:=∃o,h.get? a=some o/\o.cls=.type "tuple"/\∃n,o.data=.seq items n/\o.dict=none
theorem IsTD.tup {h:Heap}{a:Addr}{items:Array Value}(x:IsTD h a items):IsTup h a items:=by
 obtain ⟨o,e,c,n,d,_⟩:=x
 exact ⟨o,e,c,n,d⟩
theorem IsTD.new (h:Heap) (items:Array Value):IsTD (h.push { cls:=.type "tuple",data:=.seq items }) h.objs.size items:=⟨_,Heap.get?_push_size _ rfl,rfl,_,rfl,rfl⟩
section
variable (P:Program) (w:World)
def ObjOk (H:Hp) (h:Heap) (a:Addr):HO->Prop
 | .lst xs=>xs.length<=sizeLine/\∃(its:List Value) (n:Nat),Vals xs its/\h.get? a=some { cls:=.type "list",data:=.seq its.toArray n }
 | .tup xs=>xs.length<=sizeLine/\∃its:List Value,Vals xs its/\IsTD h a its.toArray
 | .dK kvs=>kvs.length<=sizeLine/\(a == sysModules)=false/\∃vs,KV kvs vs/\h.DictOf (zcg P w) a vs
 | .dT kvs=>kvs.length<=sizeLine/\(a == sysModules)=false/\∃xs:List (List Key × Addr × Value),
   Paired (λ(p:List Key × V) (q:List Key × Addr × Value)=>p.1=q.1/\H q.2.1=some (.tup (p.1.map kV))/\RelV p.2 q.2.2) kvs xs /\
   ∃o es ep,h.get? a=some o/\o.ExactDict/\o.data=.dict es ep/\es.toList=xs.map (entryOfKey (tupleKind (zcg P w)))/\(xs.map (·.1)).Nodup
 | .set S n=>h.SetOf (intKind P w) a S n
 | .ins C dx fs=>H dx=some (.own a)/\fs.length<=1000/\dx≠a/\h.get? a=some (PySem.W.instObj C dx) /\
   ∃mA,h.Ns1 dx mA/\(∀f,RelO (fs.lookup f) (mA f))/\PySem.Within mA (fs.map (·.1))
 | .own _=>∃o,h.get? a=some o
 | .xd fs=>∃mA,h.Ns1 a mA/\∀f,RelO (fs.lookup f) (mA f)
 | .rng lo hi=>∃t u v,h.get? a=some { cls:=.type "range",data:=.fields #[.int lo t,.int hi u,.int 1 v] }
 | .frz o u=>h.get? a=some o/\ObjOk H h a u
 | .tbl ps=>h.get? a=some { cls:=.none,data:=.fields ps }
 | .met f x=>h.get? a=some (PySem.W.methodObj (.ref f) (.ref x))
 | .ext φ=>φ h/\(∃o,h.get? a=some o)/\∀h1 h2:Heap,φ h1->(∀o,h1.get? a=some o->h2.get? a=some o)->φ h2
def HOk (H:Hp) (h:Heap):Prop:=∀a o,H a=some o->ObjOk P w H h a o
end
section
variable {P:Program}{w:World}{H H':Hp}{h h':Heap}{a:Addr}{o:HO}
theorem ObjOk.lt (x:ObjOk P w H h a o):a<h.objs.size:=by
 cases o with
 | lst xs=>obtain ⟨_,_,_,_,e⟩:=x;exact Heap.lt_size e
 | tup xs=>obtain ⟨_,_,_,p⟩:=x;exact p.tup.lt
 | dK kvs=>obtain ⟨_,_,_,_,o,_,_,e,_⟩:=x;exact Heap.lt_size e
 | dT kvs=>obtain ⟨_,_,_,_,o,_,_,e,_⟩:=x;exact Heap.lt_size e
 | set S n=>obtain ⟨o,_,_,_,e,_⟩:=x;exact Heap.lt_size e
 | ins C dx fs=>obtain ⟨_,_,_,e,_⟩:=x;exact Heap.lt_size e
 | own y=>obtain ⟨_,e⟩:=x;exact Heap.lt_size e
 | xd fs=>obtain ⟨_,⟨_,_,_,e,_⟩,_⟩:=x;exact Heap.lt_size e
 | rng lo hi=>obtain ⟨_,_,_,e⟩:=x;exact Heap.lt_size e
 | frz ob u=>obtain ⟨e,_⟩:=x;exact Heap.lt_size e
 | tbl ps=>exact Heap.lt_size (show h.get? a=some _ from x)
 | met f y=>exact Heap.lt_size (show h.get? a=some _ from x)
 | ext φ=>obtain ⟨_,⟨_,e⟩,_⟩:=x;exact Heap.lt_size e
theorem Paired.mapP {α β:Type}{F G:α->β->Prop}:∀{l₁:List α}{l₂:List β},Paired F l₁ l₂->(∀a b,F a b->G a b)->Paired G l₁ l₂
 | _,_,.nil,_=>.nil
 | _,_,.cons r t,f=>.cons (f _ _ r) (Paired.mapP t f)
theorem ObjOk.stay (x:ObjOk P w H h a o) (k:∀b u,(b=a\/H b=some (.own a))->h.get? b=some u->h'.get? b=some u)
  (ho:∀b,H b=some (.own a)->H' b=some (.own a)) (ht:∀b xs,H b=some (.tup xs)->H' b=some (.tup xs)):ObjOk P w H' h' a o:=by
 induction o with
 | lst xs=>obtain ⟨z,its,n,r,e⟩:=x;exact ⟨z,its,n,r,k _ _ (.inl rfl) e⟩
 | tup xs=>obtain ⟨z,its,r,ob,e,c⟩:=x;exact ⟨z,its,r,ob,k _ _ (.inl rfl) e,c⟩
 | dK kvs=>obtain ⟨z,y,vs,r,ob,es,ep,e,c⟩:=x;exact ⟨z,y,vs,r,ob,es,ep,k _ _ (.inl rfl) e,c⟩
 | dT kvs =>
  obtain ⟨z,y,xs,r,ob,es,ep,e,c⟩:=x
  exact ⟨z,y,xs,Paired.mapP r λp q z=>⟨z.1,ht _ _ z.2.1,z.2.2⟩,ob,es,ep,k _ _ (.inl rfl) e,c⟩
 | set S n=>obtain ⟨ob,es,ep,t,e,c⟩:=x;exact ⟨ob,es,ep,t,k _ _ (.inl rfl) e,c⟩
 | ins C dx fs =>
  obtain ⟨d,z,ne,e,mA,⟨od,es,ep,e2,c⟩,r⟩:=x
  exact ⟨ho _ d,z,ne,k _ _ (.inl rfl) e,mA,⟨od,es,ep,k _ _ (.inr d) e2,c⟩,r⟩
 | own y=>obtain ⟨ob,e⟩:=x;exact ⟨ob,k _ _ (.inl rfl) e⟩
 | xd fs=>obtain ⟨mA,⟨od,es,ep,e,c⟩,r⟩:=x;exact ⟨mA,⟨od,es,ep,k _ _ (.inl rfl) e,c⟩,r⟩
 | rng lo hi=>obtain ⟨t,u,v,e⟩:=x;exact ⟨t,u,v,k _ _ (.inl rfl) e⟩
 | frz ob u ih=>obtain ⟨e,q⟩:=x;exact ⟨k _ _ (.inl rfl) e,ih q⟩
 | tbl ps =>
  have e:h.get? a=some { cls:=.none,data:=.fields ps }:=x
  show h'.get? a=some { cls:=.none,data:=.fields ps }
  exact k a _ (.inl rfl) e
 | met f y =>
  have e:h.get? a=some (PySem.W.methodObj (.ref f) (.ref y)):=x
  show h'.get? a=some (PySem.W.methodObj (.ref f) (.ref y))
  exact k a _ (.inl rfl) e
 | ext φ=>obtain ⟨p,⟨o,e⟩,st⟩:=x;exact ⟨st _ _ p λo q=>k _ _ (.inl rfl) q,⟨o,k _ _ (.inl rfl) e⟩,st⟩
theorem HOk.lt (x:HOk P w H h) (e:H a=some o):a<h.objs.size:=(x a o e).lt
theorem HOk.fresh (x:HOk P w H h) (e:h.objs.size<=a):H a=none:=by
 cases q:H a with
 | none=>rfl
 | some u=>exact absurd (Nat.lt_of_lt_of_le (x.lt q) e) (Nat.lt_irrefl _)
theorem HOk.kept (x:HOk P w H h) (k:∀b u,h.get? b=some u->h'.get? b=some u):HOk P w H h':=λa o e =>
 (x a o e).stay (λb u _ q=>k b u q) (λ_ q=>q) λ_ _ q=>q
theorem HOk.laid (x:HOk P w H h) (k:∀b u,h.get? b=some u->h'.get? b=some u) (hp:h.objs.size<=a) (new:ObjOk P w (upd H a o) h' a o):HOk P w (upd H a o) h':=λb u e=>by
 have hn:=x.fresh hp
 by_cases hb:b=a
 ·subst hb;rw [zbg] at e;cases e;exact new
 ·rw [zaj hb] at e
  exact (x b u e).stay (λc v _ q=>k c v q) (λc q=>by rw [zaj (zbd q hn)];exact q) λc xs q=>by rw [zaj (zbd q hn)];exact q
end
def Rd (H:Hp) (a:Addr) (u:HO):Prop:=H a=some u\/∃o,H a=some (.frz o u)
theorem Rd.ok {P:Program}{w:World}{H:Hp}{h:Heap}{a:Addr}{u:HO}(r:Rd H a u) (x:HOk P w H h):ObjOk P w H h a u:=by
 rcases r with r|⟨o,r⟩
 ·exact x a u r
 ·obtain ⟨_,q⟩:=x a _ r
  exact q
def Mut:Option HO->Prop
 | some (.lst _)=>True
 | some (.dK _)=>True
 | some (.dT _)=>True
 | some (.set _ _)=>True
 | some (.ins _ _ _)=>True
 | some (.ext _)=>True
 | _=>False
section
variable {P:Program}{w:World}{H:Hp}{h h':Heap}{x e:Addr}{o':HO}
theorem HOk.write (ok:HOk P w H h) (mu:Mut (H x)) (he:e=x\/H e=some (.own x)) (k:∀b u,b≠e->h.get? b=some u->h'.get? b=some u) (heo:∃u,h'.get? e=some u)
  (new:ObjOk P w (upd H x o') h' x o'):HOk P w (upd H x o') h':=λb u q=>by
 have nown:∀c y,H c=some (.own y)->c≠x:=λc y r z=>by subst z;rw [r] at mu;exact mu
 have ntup:∀c xs,H c=some (.tup xs)->c≠x:=λc xs r z=>by subst z;rw [r] at mu;exact mu
 by_cases hb:b=x
 ·subst hb;rw [zbg] at q;cases q;exact new
 ·rw [zaj hb] at q
  by_cases hbe:b=e
  ·have q':H b=some (.own x):=by
    rcases he with z|z
    ·exact absurd (hbe.trans z) hb
    ·rw [hbe];exact z
   rw [q] at q';cases q'
   obtain ⟨v,hv⟩:=heo
   exact ⟨v,by rw [hbe];exact hv⟩
  ·refine (ok b u q).stay (λc v hc r=>k c v ?_ r) (λc r=>by rw [zaj (nown c b r)];exact r) λc xs r=>by rw [zaj (ntup c xs r)];exact r
   rcases hc with rfl|hc
   ·exact hbe
   ·rintro rfl
    rcases he with z|z
    ·exact nown c b hc z
    ·rw [hc] at z;cases z;exact hb rfl
end
structure Un (fs ex:List Addr) (H H':Hp) (h h':Heap):Prop where
 keep:∀b o,h.get? b=some o->H b=none->b ∉ fs->b ∉ ex->h'.get? b=some o
 slot:∀b o,h.get? b=some o->H b=none->b∈fs->b ∉ ex->∃sl,h'.get? b=some { o with slots:=sl }
 free:∀b o,h.get? b=some o->H b=none->b ∉ ex->H' b=none
 there:∀b o,h.get? b=some o->b ∉ ex->∃o',h'.get? b=some o'
 tups:∀b xs,H b=some (.tup xs)->H' b=some (.tup xs)
 frzs:∀b o u,H b=some (.frz o u)->H' b=some (.frz o u)
 tbls:∀b ps,H b=some (.tbl ps)->∃more,H' b=some (.tbl (ps++more))
section
variable {fs fs' ex ex':List Addr}{H H1 H2:Hp}{h h1 h2 h':Heap}{a x e:Addr}{o:HO}
theorem Un.any (u:Un fs ex H H1 h h1) {b:Addr}{ob:Obj}(q:h.get? b=some ob) (n:H b=none) (hx:b ∉ ex):∃sl,h1.get? b=some { ob with slots:=sl }:=by
 by_cases hb:b∈fs
 ·exact u.slot b ob q n hb hx
 ·exact ⟨ob.slots,u.keep b ob q n hb hx⟩
theorem Un.kept (k:∀b u,h.get? b=some u->h'.get? b=some u):Un fs ex H H h h' :=
 ⟨λb ob q _ _ _=>k b ob q,λb ob q _ _ _=>⟨ob.slots,k b ob q⟩,λ_ _ _ n _=>n,λb ob q _=>⟨ob,k b ob q⟩,λ_ _ q=>q,λ_ _ _ q=>q,λ_ ps q=>⟨#[],by rw [q];simp⟩⟩
theorem Un.refl:Un fs ex H H h h:=Un.kept λ_ _ q=>q
theorem Un.laid (k:∀b u,h.get? b=some u->h'.get? b=some u) (hp:h.objs.size<=a) (hn:H a=none):Un fs ex H (upd H a o) h h' where
 keep:=λb u q _ _ _=>k b u q
 slot:=λb u q _ _ _=>⟨u.slots,k b u q⟩
 free:=λb u q n _=>by rw [zaj (Nat.ne_of_lt (Nat.lt_of_lt_of_le (Heap.lt_size q) hp))];exact n
 there:=λb u q _=>⟨u,k b u q⟩
 tups:=λb xs q=>by rw [zaj (zbd q hn)];exact q
 frzs:=λb u xs q=>by rw [zaj (zbd q hn)];exact q
 tbls:=λb ps q=>⟨#[],by rw [zaj (zbd q hn),q];simp⟩
theorem Un.write (mu:Mut (H x)) (he:e=x\/H e=some (.own x)) (k:∀b u,b≠e->h.get? b=some u->h'.get? b=some u) (heo:∃u,h'.get? e=some u):Un fs ex H (upd H x o) h h':=by
 have hx:∀b,H b=none->b≠x:=λb n z=>by subst z;rw [n] at mu;exact mu
 have hb:∀b,H b=none->b≠e:=λb n z=>by
  subst z
  rcases he with r|r
  ·exact hx b n r
  ·rw [n] at r;cases r
 have hm:∀b u,H b=some u->¬Mut (some u)->b≠x:=λb u q nm z=>by subst z;rw [q] at mu;exact nm mu
 refine ⟨λb u q n _ _=>k b u (hb b n) q,λb u q n _ _=>⟨u.slots,k b u (hb b n) q⟩,λb u q n _=>by rw [zaj (hx b n)];exact n,λb u q _=>?_,
  λb xs q=>by rw [zaj (hm b _ q λz=>z)];exact q,λb u xs q=>by rw [zaj (hm b _ q λz=>z)];exact q,λb ps q=>⟨#[],by rw [zaj (hm b _ q λz=>z),q];simp⟩⟩
 by_cases hbe:b=e
 ·subst hbe;exact heo
 ·exact ⟨u,k b u hbe q⟩
end
noncomputable def trk (h:Heap) (H:Hp):List Addr:=(List.range h.objs.size).filter λa=>(H a).isSome
noncomputable def zd7 (h:Heap) (H:Hp):Heap:=PySem.W.hideAll h (trk h H)
theorem zr1 (h:Heap) (H:Hp):(zd7 h H).objs.size=h.objs.size:=PySem.W.hideAll_size _ _
theorem zjj {h:Heap}{H:Hp}{b:Addr}{o:Obj}(e:h.get? b=some o) (n:H b=none):(zd7 h H).get? b=some o :=
 PySem.W.hideAll_get _ e λhm=>by
  have q:(H b).isSome=true:=(List.mem_filter.mp hm).2
  rw [n] at q;simp at q
theorem zr2 {h:Heap}{H:Hp}{b:Addr}{o:Obj}(e:(zd7 h H).get? b=some o):h.get? b=some o/\H b=none:=by
 have e':h.get? b=some o:=PySem.W.of_hideAll (trk h H) e
 refine ⟨e',?_⟩
 cases q:H b with
 | none=>rfl
 | some x =>
  have hm:b∈trk h H:=List.mem_filter.mpr ⟨List.mem_range.mpr (Heap.lt_size e'),by simp [q]⟩
  have z:(zd7 h H).get? b=none:=PySem.W.hideAll_none (trk h H) hm
  rw [z] at e;cases e
noncomputable def zr3 (g h:Heap) (L:Addr):List (Addr × Obj):=(List.range h.objs.size).filterMap λa=>if a=L\/(g.get? a).isSome=true then none else (h.get? a).map λo=>(a,o)
noncomputable def rest (g h:Heap) (L d:Addr):List (Addr × Obj):=(zr3 g h L).filter λp=>decide (p.1≠d)
def BMd (mg:Str->Option Value) (h:Heap):Prop:=∃bm ob,mg "__builtins__" = some (.ref bm)/\bm≠builtinsNs/\h.get? bm=some ob/\ob.cls=.type "module"/\ob.dict=some builtinsNs/\ob.data=.plain
structure Mod (K:QFg) (mg:Str->Option Value) (base:Heap):Prop where
 kin:K.In base
 glob:base.Ns mainGlobals mg
 blt:∃mb,base.Ns builtinsNs mb/\∀x:Str,x≠"__name__"->mb x=bootBuiltins x
 nolimit:base.NoLimit
 bm:BMd mg base
structure Cx where
 prog:Program
 w:World
 K:QFg
 mg:Str->Option Value
 base:Heap
 A:Around
 N:List Str
 s₀:Shared
 H₀:Hp
 env:Env
 outer:List Env
 stack:List Env
 ex:List Addr
 fn:Str->Bool
 calm:Bool
 pn:List (Addr × Obj)
 xe:Value->Shared->Prop
noncomputable def frs (l:List Env):List Addr:=l.filterMap (·.frame)
noncomputable abbrev Cx.fs (X:Cx):List Addr:=frs X.outer
def Vis (sc:Scope) (x:Str):Prop:=sc.names.lookup x=some .local\/sc.names.lookup x=some .cell\/sc.names.lookup x=some .free
def Loc (sc:Scope) (x:Str):Prop:=sc.names.lookup x=some .local\/sc.names.lookup x=some .cell
def zr4 (env:Env) (h:Heap) (m:Str->Option Value) (x:Str) (u:Value):Prop :=
 (env.kindOf x=some .local/\m x=some u)\/((env.kindOf x=some .cell\/env.kindOf x=some .free)/\∃c,env.cells.lookup x=some c/\h.IsCell c (some u))
structure Cx.Ok (X:Cx):Prop where
 mod:Mod X.K X.mg X.base
 kind:X.env.scope.kind=.function
 glob:X.env.globals=mainGlobals
 blt:X.env.builtins=builtinsNs
 above:X.s₀.heap.objs.size<=X.env.locals
 inj:∀x y c,X.env.cells.lookup x=some c->X.env.cells.lookup y=some c->x=y
 has:∀x,(X.env.kindOf x=some .cell\/X.env.kindOf x=some .free)->∃c,X.env.cells.lookup x=some c
 cab:∀x c,X.fn x=true->X.env.cells.lookup x=some c->X.s₀.heap.objs.size<=c
 hd:X.calm=true->X.A.handled=none
 frames:X.A.frames=some X.stack
 stk:X.stack=X.outer\/(X.stack=X.env :: X.outer/\X.env.frame=some X.env.locals)
 exf:∀b∈X.ex,b≠X.env.locals/\∀x c,X.env.cells.lookup x=some c->c≠b
 bs:∀b o,X.base.get? b=some o->X.s₀.heap.get? b=some o/\X.H₀ b=none
 bsz:X.base.objs.size<=X.s₀.heap.objs.size
 noex:∀b o,X.base.get? b=some o->b ∉ X.ex
 exfs:∀b∈X.ex,b ∉ X.fs
 funs:X.s₀.heap.FunFrames X.base X.outer
 frf:∀b∈X.fs,X.H₀ b=none
structure Inv (X:Cx) (pins:List (Addr × Obj)) (σ:List (Option V)) (H:Hp) (s:Shared):Prop where
 ok:X.Ok
 os:s.os=X.s₀.os
 bare:AllBare s.gens
 base:Un X.fs X.ex X.H₀ H X.s₀.heap s.heap
 loc:∃m,s.heap.Ns X.env.locals m/\∀(i:Nat) (x:Str) (v:V),X.N[i]? = some x->σ[i]? = some (some v)->Vis X.env.scope x->∃u,RelV v u/\zr4 X.env s.heap m x u
 cell:∀x c,X.env.cells.lookup x=some c->∃v,s.heap.IsCell c v
 free:H X.env.locals=none
 freeC:∀x c,X.env.cells.lookup x=some c->H c=none
 pin:∀p∈X.pn++pins,s.heap.get? p.1=some p.2/\H p.1=none/\p.1≠X.env.locals/\p.1 ∉ X.fs/\∀v,p.2.data≠.cell v
 hok:HOk X.prog X.w H s.heap
 len:σ.length=X.N.length
section
variable {X:Cx}{pins:List (Addr × Obj)}{σ:List (Option V)}{H H':Hp}{s:Shared}{h':Heap}
theorem Cx.Ok.nofr (ok:X.Ok) {b:Addr}{o:Obj}(e:X.base.get? b=some o):b ∉ X.fs:=λhb=>by
 have:=(ok.funs.mem hb).1
 rw [e] at this;cases this
theorem Inv.bs (I:Inv X pins σ H s):∀b o,X.base.get? b=some o->s.heap.get? b=some o/\H b=none:=λb o e =>
 ⟨I.base.keep b o (I.ok.bs b o e).1 (I.ok.bs b o e).2 (I.ok.nofr e) (I.ok.noex b o e),I.base.free b o (I.ok.bs b o e).1 (I.ok.bs b o e).2 (I.ok.noex b o e)⟩
theorem Inv.bk (I:Inv X pins σ H s):∀b o,X.base.get? b=some o->s.heap.get? b=some o:=λb o e=>(I.bs b o e).1
theorem Inv.mod (I:Inv X pins σ H s):Mod X.K X.mg X.base:=I.ok.mod
theorem Inv.kIn (I:Inv X pins σ H s):X.K.In s.heap:=I.ok.mod.kin.keeps I.bk
theorem Inv.nolimit (I:Inv X pins σ H s):s.heap.NoLimit:=I.ok.mod.nolimit.keeps I.bk
theorem Inv.lt (I:Inv X pins σ H s):X.env.locals<s.heap.objs.size:=let ⟨_,hn,_⟩:=I.loc;hn.lt
theorem Inv.sz (I:Inv X pins σ H s):X.s₀.heap.objs.size<=s.heap.objs.size:=Nat.le_trans I.ok.above (Nat.le_of_lt I.lt)
theorem Inv.nofs (I:Inv X pins σ H s) {a:Addr}(h:s.heap.objs.size<=a):a ∉ X.fs:=λhb=>by
 obtain ⟨_,o,ho,_⟩:=I.ok.funs.mem hb
 exact absurd (Nat.lt_of_lt_of_le (Heap.lt_size ho) (Nat.le_trans I.sz h)) (Nat.lt_irrefl _)
theorem Inv.cne (I:Inv X pins σ H s):∀x c,X.env.cells.lookup x=some c->c≠X.env.locals:=λx c e z=>by
 obtain ⟨v,o,ho,hd⟩:=I.cell x c e
 obtain ⟨m,⟨o',es,ep,ho',hd',_⟩,_⟩:=I.loc
 rw [z,ho'] at ho;cases ho;rw [hd'] at hd;cases hd
theorem Inv.funs (I:Inv X pins σ H s):s.heap.FunFrames X.base X.outer:=by
 have all:∀(l:List Env),(∀b∈frs l,b∈X.fs)->X.s₀.heap.FunFrames X.base l->s.heap.FunFrames X.base l:=by
  intro l
  induction l with
  | nil=>intro _ _;trivial
  | cons env r ih =>
   intro hs hl
   obtain ⟨hk,⟨L,o,hf,hn,ho,hd⟩,hr⟩:=hl
   have hL:L∈X.fs:=hs L (by unfold frs;rw [List.filterMap_cons,hf];exact List.mem_cons_self)
   obtain ⟨sl,e⟩:=I.base.slot L o ho (I.ok.frf L hL) hL λz=>I.ok.exfs L z hL
   exact ⟨hk,⟨L,_,hf,hn,e,hd⟩,ih (λb hb=>hs b (by unfold frs;rw [List.filterMap_cons,hf];exact List.mem_cons_of_mem _ hb)) hr⟩
 exact all X.outer (λ_ hb=>hb) I.ok.funs
theorem Inv.stack (I:Inv X pins σ H s):s.heap.FunFrames X.base X.stack:=by
 rcases I.ok.stk with e|⟨e,hf⟩
 ·rw [e];exact I.funs
 ·rw [e]
  obtain ⟨m,hn,_⟩:=I.loc
  refine .cons (by rw [I.ok.kind];decide) hf hn ?_ I.funs
  exact Heap.get?_none_of_le (Nat.le_trans I.ok.bsz I.ok.above)
theorem Inv.stkSub (I:Inv X pins σ H s):∀b∈frs X.stack,b∈X.env.locals :: X.fs:=λb hb=>by
 rcases I.ok.stk with e|⟨e,hf⟩
 ·rw [e] at hb;exact List.mem_cons_of_mem _ hb
 ·rw [e] at hb
  unfold frs at hb
  rw [List.filterMap_cons,hf] at hb
  exact hb
theorem Inv.stkFree (I:Inv X pins σ H s):∀b∈frs X.stack,H b=none:=λb hb=>by
 rcases List.mem_cons.mp (I.stkSub b hb) with e|hb
 ·rw [e];exact I.free
 ·obtain ⟨_,o,ho,_⟩:=I.ok.funs.mem hb
  exact I.base.free b o ho (I.ok.frf b hb) λz=>I.ok.exfs b z hb
theorem Inv.step {g':Array GenState}{t':Nat}{d':Drawn}{ch:List Addr}(I:Inv X pins σ H s)
  (hch:∀b∈ch,(b∈X.ex\/X.s₀.heap.objs.size<=b)/\b≠X.env.locals/\(∀x c,X.env.cells.lookup x=some c->c≠b)/\∀p∈X.pn++pins,p.1≠b)
  (keep:∀b o,b≠X.env.locals->b ∉ X.fs->b ∉ ch->s.heap.get? b=some o->H b=none->h'.get? b=some o)
  (slot:∀b o,b≠X.env.locals->b∈X.fs->b ∉ ch->s.heap.get? b=some o->H b=none->∃sl,h'.get? b=some { o with slots:=sl }) (free:∀b o,b ∉ ch->s.heap.get? b=some o->H b=none->H' b=none)
  (there:∀b o,b ∉ ch->s.heap.get? b=some o->∃o',h'.get? b=some o')
  (tups:∀b xs,H b=some (.tup xs)->H' b=some (.tup xs)) (frzs:∀b o u,H b=some (.frz o u)->H' b=some (.frz o u)) (tbls:∀b ps,H b=some (.tbl ps)->∃more,H' b=some (.tbl (ps++more)))
  (ns:∀m,s.heap.Ns X.env.locals m->h'.Ns X.env.locals m) (hok:HOk X.prog X.w H' h') (hg:AllBare g') :
  Inv X pins σ H' { s with heap:=h',gens:=g',drawn:=d',toks:=t' }:=by
 have neL:∀b o,X.s₀.heap.get? b=some o->b≠X.env.locals:=λb o e=>Nat.ne_of_lt (Nat.lt_of_lt_of_le (Heap.lt_size e) I.ok.above)
 have neC:∀b o,X.s₀.heap.get? b=some o->b ∉ X.ex->b ∉ ch:=λb o e hx hb=>by
  rcases (hch b hb).1 with z|z
  ·exact hx z
  ·exact absurd (Nat.lt_of_lt_of_le (Heap.lt_size e) z) (Nat.lt_irrefl _)
 have cellK:∀x c,X.env.cells.lookup x=some c->∀v,s.heap.IsCell c v->h'.IsCell c v:=λx c e v hx1_=>by
  obtain ⟨o,ho,hd⟩:=hx1_
  have nch:c ∉ ch:=λz=>(hch c z).2.2.1 x c e rfl
  by_cases hc:c∈X.fs
  ·obtain ⟨sl,q⟩:=slot c o (I.cne x c e) hc nch ho (I.freeC x c e)
   exact ⟨_,q,hd⟩
  ·exact ⟨o,keep c o (I.cne x c e) hc nch ho (I.freeC x c e),hd⟩
 refine ⟨I.ok,I.os,hg,⟨λb o e n hb hx=>?_,λb o e n hb hx=>?_,λb o e n hx=>?_,λb o e hx=>?_,λb xs e=>tups b xs (I.base.tups b xs e),λb o xs e=>frzs b o xs (I.base.frzs b o xs e),λb ps e=>?_⟩,?_,λx c e=>?_,?_,λx c e=>?_,λp hp=>?_,hok,I.len⟩
 ·exact keep b o (neL b o e) hb (neC b o e hx) (I.base.keep b o e n hb hx) (I.base.free b o e n hx)
 ·obtain ⟨sl,e1⟩:=I.base.slot b o e n hb hx
  obtain ⟨sl',e2⟩:=slot b _ (neL b o e) hb (neC b o e hx) e1 (I.base.free b o e n hx)
  exact ⟨sl',e2⟩
 ·obtain ⟨o',e1⟩:=I.base.there b o e hx
  exact free b o' (neC b o e hx) e1 (I.base.free b o e n hx)
 ·obtain ⟨o',e1⟩:=I.base.there b o e hx
  exact there b o' (neC b o e hx) e1
 ·obtain ⟨m1,e1⟩:=I.base.tbls b ps e
  obtain ⟨m2,e2⟩:=tbls b _ e1
  exact ⟨m1++m2,by rw [e2,Array.append_assoc]⟩
 ·obtain ⟨m,hn,hl⟩:=I.loc
  refine ⟨m,ns m hn,λi x v e1 e2 e3=>?_⟩
  obtain ⟨u,r,l⟩:=hl i x v e1 e2 e3
  refine ⟨u,r,?_⟩
  rcases l with l|⟨k,c,e,z⟩
  ·exact .inl l
  ·exact .inr ⟨k,c,e,cellK x c e _ z⟩
 ·obtain ⟨v,z⟩:=I.cell x c e
  exact ⟨v,cellK x c e v z⟩
 ·obtain ⟨m,⟨o,_,_,ho,_⟩,_⟩:=I.loc
  exact free _ o (λz=>(hch _ z).2.1 rfl) ho I.free
 ·obtain ⟨v,o,ho,hd⟩:=I.cell x c e
  exact free c o (λz=>(hch c z).2.2.1 x c e rfl) ho (I.freeC x c e)
 ·obtain ⟨e,n,ne,nf,d⟩:=I.pin p hp
  have nch:p.1 ∉ ch:=λz=>(hch p.1 z).2.2.2 p hp rfl
  exact ⟨keep p.1 p.2 ne nf nch e n,free p.1 p.2 nch e n,ne,nf,d⟩
theorem Inv.un {t':Nat}(I:Inv X pins σ H s) (u:Un X.fs [] H H' s.heap h') (hok:HOk X.prog X.w H' h'):Inv X pins σ H' { s with heap:=h',toks:=t' }:=by
 obtain ⟨m,⟨o,es,ep,ho,r⟩,_⟩:=id I.loc
 obtain ⟨sl,hL⟩:=u.any ho I.free (by simp)
 exact I.step (g':=s.gens) (d':=s.drawn) (ch:=[]) (λ_ z=>nomatch z) (λb o _ hb _ e n=>u.keep b o e n hb (by simp)) (λb o _ hb _ e n=>u.slot b o e n hb (by simp)) (λb o _ e n=>u.free b o e n (by simp)) (λb o _ e=>u.there b o e (by simp)) u.tups u.frzs u.tbls (λm' hm=>by
  obtain ⟨o',es',ep',ho',r'⟩:=hm
  rw [ho] at ho';cases ho'
  exact ⟨_,es',ep',hL,r'⟩) hok I.bare
theorem Inv.call {g':Array GenState}{t':Nat}{d':Drawn}{ch:List Addr}(I:Inv X pins σ H s) (u:Un (frs X.stack) ch H H' s.heap h') (hok:HOk X.prog X.w H' h') (hg:AllBare g')
  (hch:∀b∈ch,(b∈X.ex\/X.s₀.heap.objs.size<=b)/\b≠X.env.locals/\(∀x c,X.env.cells.lookup x=some c->c≠b)/\∀p∈X.pn++pins,p.1≠b) :
  Inv X pins σ H' { s with heap:=h',gens:=g',drawn:=d',toks:=t' }:=by
 obtain ⟨m,⟨o,es,ep,ho,r⟩,_⟩:=id I.loc
 obtain ⟨sl,hL⟩:=u.any ho I.free λz=>(hch _ z).2.1 rfl
 exact I.step (ch:=ch) hch (λb o hL hb hc e n=>u.keep b o e n (λz=>(List.mem_cons.mp (I.stkSub b z)).elim hL hb) hc) (λb o _ _ hc e n=>u.any e n hc) (λb o hc e n=>u.free b o e n hc) (λb o hc e=>u.there b o e hc) u.tups u.frzs u.tbls (λm' hm=>by
  obtain ⟨o',es',ep',ho',r'⟩:=hm
  rw [ho] at ho';cases ho'
  exact ⟨_,es',ep',hL,r'⟩) hok hg
theorem Inv.turned {t':Nat}{it:Addr}(I:Inv X pins σ H s) (k:∀b o,b≠it->s.heap.get? b=some o->h'.get? b=some o) (hn:H it=none) (hL:it≠X.env.locals)
  (h1:it∈X.ex\/X.s₀.heap.objs.size<=it) (h2:∀x c,X.env.cells.lookup x=some c->c≠it) (h3:∀p∈X.pn++pins,p.1≠it):Inv X pins σ H { s with heap:=h',toks:=t' }:=by
 have nit:∀b u,H b=some u->b≠it:=λb u e z=>by rw [z,hn] at e;cases e
 refine I.step (g':=s.gens) (d':=s.drawn) (ch:=[it]) (λb hb=>?_) (λb o _ _ hc e _=>k b o (λz=>hc (by simp [z])) e) (λb o _ _ hc e _=>⟨o.slots,k b o (λz=>hc (by simp [z])) e⟩) (λ_ _ _ _ n=>n)
  (λb o hc e=>⟨o,k b o (λz=>hc (by simp [z])) e⟩) (λ_ _ e=>e) (λ_ _ _ e=>e) (λb ps e=>⟨#[],by rw [e];simp⟩) (λm hm=>?_) (λb u e=>?_) I.bare
 ·have e:b=it:=by simpa using hb
  subst e
  exact ⟨h1,hL,h2,h3⟩
 ·obtain ⟨o,es,ep,ho,r⟩:=hm
  exact ⟨o,es,ep,k _ o (Ne.symm hL) ho,r⟩
 ·refine (I.hok b u e).stay (λc v hc q=>k c v ?_ q) (λ_ q=>q) λ_ _ q=>q
  rcases hc with z|z
  ·rw [z];exact nit b u e
  ·exact nit c _ z
theorem Inv.tok (I:Inv X pins σ H s) (t:Nat):Inv X pins σ H { s with toks:=t }:=I.un (h':=s.heap) (t':=t) Un.refl I.hok
theorem Inv.kept {t':Nat}(I:Inv X pins σ H s) (k:∀b u,s.heap.get? b=some u->h'.get? b=some u):Inv X pins σ H { s with heap:=h',toks:=t' }:=I.un (Un.kept k) (I.hok.kept k)
theorem Inv.laid {a:Addr}{o:HO}{t':Nat}(I:Inv X pins σ H s) (k:∀b u,s.heap.get? b=some u->h'.get? b=some u) (hp:s.heap.objs.size<=a) (new:ObjOk X.prog X.w (upd H a o) h' a o) :
  Inv X pins σ (upd H a o) { s with heap:=h',toks:=t' }:=I.un (Un.laid k hp (I.hok.fresh hp)) (I.hok.laid k hp new)
theorem Inv.write {x e:Addr}{o:HO}{t':Nat}(I:Inv X pins σ H s) (mu:Mut (H x)) (he:e=x\/H e=some (.own x)) (k:∀b u,b≠e->s.heap.get? b=some u->h'.get? b=some u) (heo:∃u,h'.get? e=some u)
  (new:ObjOk X.prog X.w (upd H x o) h' x o):Inv X pins σ (upd H x o) { s with heap:=h',toks:=t' }:=I.un (Un.write mu he k heo) (I.hok.write mu he k heo new)
theorem Inv.pins_of {pins':List (Addr × Obj)}(I:Inv X pins σ H s) (h:∀p∈pins',s.heap.get? p.1=some p.2/\H p.1=none/\p.1≠X.env.locals/\p.1 ∉ X.fs/\∀v,p.2.data≠.cell v):Inv X pins' σ H s :=
 ⟨I.ok,I.os,I.bare,I.base,I.loc,I.cell,I.free,I.freeC,λp hp=>(List.mem_append.mp hp).elim (λz=>I.pin p (List.mem_append_left _ z)) (h p),I.hok,I.len⟩
theorem zjk {N:List Str}(hN:N.Nodup) {i j:Nat}{x:Str}(a:N[i]? = some x) (b:N[j]? = some x):i=j:=by
 obtain ⟨h1,e1⟩:=qme a
 obtain ⟨h2,e2⟩:=qme b
 exact (List.getElem_inj hN).mp (e1.trans e2.symm)
theorem zr5 {M:Model}{A:Around}{E:Value->Shared->Prop}{i:Nat}{x:Str}{v:V}{u:Value}{Q:Unit->Shared->Prop}(I:Inv X pins σ H s) (hN:X.N.Nodup) (hi:X.N[i]? = some x) (hx:Loc X.env.scope x) (r:RelV v u)
  (h:∀s',Inv X pins (σ.set i (some v)) H s'->(∃a,Heap.SameBut a s.heap s'.heap/\(a=X.env.locals\/X.env.cells.lookup x=some a))->Q () s') (hf:X.fn x=true\/X.env.scope.names.lookup x=some .local:=by first|exact .inl rfl|exact .inr rfl|assumption):wpAny M A (storeName X.env x u) Q E s:=by
 obtain ⟨m,hn,hl⟩:=id I.loc
 have hcls:(X.env.scope.kind == .class || (X.env.scope.kind == .module && X.env.locals != X.env.globals))=false:=by rw [I.ok.kind];rfl
 have hiσ:i<σ.length:=by rw [I.len];exact (qme hi).1
 have cne:=I.cne
 have tracked:∀{a:Addr} {h':Heap},(∃o,s.heap.get? a=some o/\H a=none)->Heap.SameBut a s.heap h'->HOk X.prog X.w H h':=λ{a h'} ha hs b ob e=>by
  obtain ⟨_,_,hfree⟩:=ha
  refine (I.hok b ob e).stay (λc w' hc q=>(hs.2 c ?_).trans q) (λ_ q=>q) λ_ _ q=>q
  rintro rfl
  rcases hc with rfl|hc
  ·rw [hfree] at e;cases e
  ·rw [hfree] at hc;cases hc
 rcases hx with hk|hk
 ·refine wpAny_storeName_local hk hn (λh' hn' hs=>?_) hcls
  obtain ⟨oL,_,_,hoL,_⟩:=id hn
  refine h _ ⟨I.ok,I.os,I.bare,⟨λb o e n hb hx=>?_,λb o e n hb hx=>?_,I.base.free,λb o e hx=>?_,I.base.tups,I.base.frzs,I.base.tbls⟩,⟨_,hn',λj y v' e1 e2 e3=>?_⟩,λy c e=>?_,I.free,I.freeC,λp hp=>?_,tracked ⟨oL,hoL,I.free⟩ hs,by simpa using I.len⟩ ⟨_,hs,.inl rfl⟩
  ·exact (hs.2 b (Nat.ne_of_lt (Nat.lt_of_lt_of_le (Heap.lt_size e) I.ok.above))).trans (I.base.keep b o e n hb hx)
  ·obtain ⟨sl,e1⟩:=I.base.slot b o e n hb hx
   exact ⟨sl,(hs.2 b (Nat.ne_of_lt (Nat.lt_of_lt_of_le (Heap.lt_size e) I.ok.above))).trans e1⟩
  ·obtain ⟨o',e1⟩:=I.base.there b o e hx
   exact ⟨o',(hs.2 b (Nat.ne_of_lt (Nat.lt_of_lt_of_le (Heap.lt_size e) I.ok.above))).trans e1⟩
  ·by_cases hj:j=i
   ·subst hj
    rw [hi] at e1;cases e1
    rw [List.getElem?_set_self hiσ] at e2
    cases e2
    exact ⟨u,r,.inl ⟨hk,by simp⟩⟩
   ·rw [List.getElem?_set_ne (Ne.symm hj)] at e2
    obtain ⟨u',r',q⟩:=hl j y v' e1 e2 e3
    refine ⟨u',r',?_⟩
    rcases q with ⟨k,e⟩|⟨k,c,e,z⟩
    ·refine .inl ⟨k,?_⟩
     have:y≠x:=λe=>hj (zjk hN e1 (e ▸ hi))
     simp [this,e]
    ·exact .inr ⟨k,c,e,z.sameBut hs (cne y c e)⟩
  ·obtain ⟨w',z⟩:=I.cell y c e
   exact ⟨w',z.sameBut hs (cne y c e)⟩
  ·obtain ⟨e,n,ne,nf,d⟩:=I.pin p hp
   exact ⟨(hs.2 p.1 ne).trans e,n,ne,nf,d⟩
 ·have hfn:X.fn x=true:=by
   rcases hf with z|z
   ·exact z
   ·rw [z] at hk;cases hk
  obtain ⟨c,hc⟩:=I.ok.has x (.inl hk)
  obtain ⟨w',z⟩:=I.cell x c hc
  refine wpAny_storeName_cell I.ok.kind hk hc z (λh' hc' hs=>?_)
  obtain ⟨oc,hoc,hocd⟩:=id z
  refine h { s with heap:=h' } ⟨I.ok,I.os,I.bare,⟨λb o e n hb hx=>?_,λb o e n hb hx=>?_,I.base.free,λb o e hx=>?_,I.base.tups,I.base.frzs,I.base.tbls⟩,⟨m,hn.sameBut hs (Ne.symm (cne x c hc)),λj y v' e1 e2 e3=>?_⟩,λy c' e=>?_,I.free,I.freeC,λp hp=>?_,tracked ⟨oc,hoc,I.freeC x c hc⟩ hs,by simpa using I.len⟩ ⟨c,hs,.inr hc⟩
  ·exact (hs.2 b (Nat.ne_of_lt (Nat.lt_of_lt_of_le (Heap.lt_size e) (I.ok.cab x c hfn hc)))).trans (I.base.keep b o e n hb hx)
  ·obtain ⟨sl,e1⟩:=I.base.slot b o e n hb hx
   exact ⟨sl,(hs.2 b (Nat.ne_of_lt (Nat.lt_of_lt_of_le (Heap.lt_size e) (I.ok.cab x c hfn hc)))).trans e1⟩
  ·obtain ⟨o',e1⟩:=I.base.there b o e hx
   exact ⟨o',(hs.2 b (Nat.ne_of_lt (Nat.lt_of_lt_of_le (Heap.lt_size e) (I.ok.cab x c hfn hc)))).trans e1⟩
  ·by_cases hj:j=i
   ·subst hj
    rw [hi] at e1;cases e1
    rw [List.getElem?_set_self hiσ] at e2
    cases e2
    exact ⟨u,r,.inr ⟨.inl hk,c,hc,hc'⟩⟩
   ·rw [List.getElem?_set_ne (Ne.symm hj)] at e2
    obtain ⟨u',r',q⟩:=hl j y v' e1 e2 e3
    refine ⟨u',r',?_⟩
    rcases q with q|⟨k,c',e,z'⟩
    ·exact .inl q
    ·refine .inr ⟨k,c',e,z'.sameBut hs ?_⟩
     rintro rfl
     exact hj (zjk hN e1 (I.ok.inj _ _ _ e hc ▸ hi))
  ·by_cases hcc:c' = c
   ·subst hcc;exact ⟨_,hc'⟩
   ·obtain ⟨w2,z2⟩:=I.cell y c' e
    exact ⟨w2,z2.sameBut hs hcc⟩
  ·obtain ⟨e,n,ne,nf,d⟩:=I.pin p hp
   refine ⟨(hs.2 p.1 ?_).trans e,n,ne,nf,d⟩
   intro q
   rw [q,hoc] at e
   have q':oc=p.2:=qoi e
   exact d w' (by rw [<-q'];exact hocd)
theorem zjl {M:Model}{A:Around}{E:Value->Shared->Prop}{i:Nat}{x:Str}{v:V}{u:Value}{Q:Unit->Shared->Prop}(I:Inv X pins σ H s) (hN:X.N.Nodup) (hi:X.N[i]? = some x) (hx:Loc X.env.scope x) (r:RelV v u)
  (h:∀s',Inv X pins (σ.set i (some v)) H s'->Q () s') (hf:X.fn x=true\/X.env.scope.names.lookup x=some .local:=by first|exact .inl rfl|exact .inr rfl|assumption):wpAny M A (storeName X.env x u) Q E s :=
 zr5 I hN hi hx r (λs' I' _=>h s' I') hf
theorem Inv.call' {s':Shared}{ch:List Addr}(I:Inv X pins σ H s) (ho:s'.os=s.os) (u:Un (frs X.stack) ch H H' s.heap s'.heap) (hok:HOk X.prog X.w H' s'.heap) (hg:AllBare s'.gens)
  (hch:∀b∈ch,(b∈X.ex\/X.s₀.heap.objs.size<=b)/\b≠X.env.locals/\(∀x c,X.env.cells.lookup x=some c->c≠b)/\∀p∈X.pn++pins,p.1≠b):Inv X pins σ H' s':=by
 obtain ⟨h',g',d',t',o'⟩:=s'
 have e:o' = s.os:=ho
 subst e
 exact I.call (g':=g') (t':=t') (d':=d') u hok hg hch
end
abbrev XK:=Value->Option Addr->Hp->Prop
abbrev St:=List (Option V)
abbrev VK:=V->Hp->Prop
abbrev TE:=St->Hp->VK->Prop
abbrev TT:=St->Hp->(Bool->Hp->Prop)->Prop
abbrev TA:=St->Hp->(List V->Hp->Prop)->Prop
structure Ends where
 nx:St->Hp->Prop
 rt:VK
 bk:St->Hp->Prop:=λ_ _=>False
 ct:St->Hp->Prop:=λ_ _=>False
abbrev TS:=Ends->St->Hp->Prop
def EP (X:Cx) (pins:List (Addr × Obj)) (σ:St) (Q:VK) (u:Value) (s':Shared):Prop:=∃v H',Inv X pins σ H' s'/\RelV v u/\Q v H'
def TP (X:Cx) (pins:List (Addr × Obj)) (σ:St) (Q:Bool->Hp->Prop) (b:Bool) (s':Shared):Prop:=∃H',Inv X pins σ H' s'/\Q b H'
def AP (X:Cx) (pins:List (Addr × Obj)) (σ:St) (Q:List V->Hp->Prop) (us:List Value) (s':Shared):Prop:=∃vs H',Inv X pins σ H' s'/\Vals vs us/\Q vs H'
def SP (X:Cx) (pins:List (Addr × Obj)) (D:Ends) (f:Flow) (s':Shared):Prop :=
 match f with
 | .next=>∃σ' H',Inv X pins σ' H' s'/\D.nx σ' H'
 | .brk=>∃σ' H',Inv X pins σ' H' s'/\D.bk σ' H'
 | .cont=>∃σ' H',Inv X pins σ' H' s'/\D.ct σ' H'
 | .ret u=>∃v σ' H',Inv X pins σ' H' s'/\RelV v u/\D.rt v H'
def PE (X:Cx) (e:Expr) (t:TE):Prop :=
 ∀(pins:List (Addr × Obj)) (s:Shared) (σ:St) (H:Hp) (Q:VK),Inv X pins σ H s->t σ H Q->wpAny (model X.prog X.w) X.A (eval e X.env) (EP X pins σ Q) X.xe s
def PT (X:Cx) (e:Expr) (t:TT):Prop :=
 ∀(pins:List (Addr × Obj)) (s:Shared) (σ:St) (H:Hp) (Q:Bool->Hp->Prop),Inv X pins σ H s->t σ H Q->wpAny (model X.prog X.w) X.A (isTrue e X.env (eval e X.env)) (TP X pins σ Q) X.xe s
def PW (X:Cx) (e:Expr) (t:TT):Prop :=
 ∀(whole:Sem Value) (pins:List (Addr × Obj)) (s:Shared) (σ:St) (H:Hp) (Q:Bool->Hp->Prop),Inv X pins σ H s->t σ H Q->wpAny (model X.prog X.w) X.A (isTrue e X.env whole) (TP X pins σ Q) X.xe s
theorem PW.pt {X:Cx}{e:Expr}{t:TT}(h:PW X e t):PT X e t:=h _
def PA (X:Cx) (es:List Expr) (t:TA):Prop :=
 ∀(pos:Pos) (pins:List (Addr × Obj)) (s:Shared) (σ:St) (H:Hp) (Q:List V->Hp->Prop),Inv X pins σ H s->t σ H Q->wpAny (model X.prog X.w) X.A (spliced (backTo pos (starEach es X.env))) (AP X pins σ Q) X.xe s
def PS (X:Cx) (st:Stmt) (t:TS):Prop :=
 ∀(pins:List (Addr × Obj)) (s:Shared) (σ:St) (H:Hp) (D:Ends),Inv X pins σ H s->t D σ H->wpAny (model X.prog X.w) X.A (exec st X.env) (SP X pins D) X.xe s
def PSs (X:Cx) (st:List Stmt) (t:TS):Prop :=
 ∀(pins:List (Addr × Obj)) (s:Shared) (σ:St) (H:Hp) (D:Ends),Inv X pins σ H s->t D σ H->wpAny (model X.prog X.w) X.A (execs st X.env) (SP X pins D) X.xe s
theorem thn {α:Type}{t:Sem α}{Q Q':α->Shared->Prop}{M:Model}{A:Around}{E:Value->Shared->Prop}{s:Shared}(h:wpAny M A t Q E s) (hQ:∀a s,Q a s->Q' a s):wpAny M A t Q' E s:=wpAny_mono h hQ λ_ _ x=>x
section
variable {X:Cx}
def zr6 (i:Nat):TE:=λσ H Q=>∃v,σ[i]? = some (some v)/\Q v H
def tC (v:V):TE:=λ_ H Q=>Q v H
theorem zh3 {i:Nat}{x:Str}{pos:Pos}(hN:X.N[i]? = some x) (hv:Vis X.env.scope x) (hd:(x == ("__debug__":Str))=false:=by decide) (hcd:(x == ("__classdict__":Str))=false:=by decide):PE X (.Name x pos) (zr6 i):=by
 intro pins s σ H Q I h
 obtain ⟨v,e,h⟩:=h
 obtain ⟨m,hn,hl⟩:=I.loc
 obtain ⟨u,r,l⟩:=hl i x v hN e hv
 have fin:EP X pins σ Q u s:=⟨v,H,I,r,h⟩
 rcases l with ⟨hk,hm⟩|⟨hk,c,hc,hcell⟩
 ·exact wpAny_Name (wpAny_loadName_local I.ok.kind hk hn hm fin) hd
 ·rcases hk with hk|hk
  ·exact wpAny_Name (wpAny_loadName_cell I.ok.kind hk hc hcell fin) hd
  ·exact wpAny_Name (wpAny_loadName_free I.ok.kind hk hc hcell fin hcd) hd
theorem zjm {i j pos}:PE X (.Constant (.int i) j pos) (tC (.int i)):=λ_ _ _ H _ I h=>wpAny_Constant_int ⟨.int i,H,I.tok _,⟨_,rfl⟩,h⟩
theorem zr7 {b j pos}:PE X (.Constant (.bool b) j pos) (tC (.bl b)):=λ_ _ _ H _ I h=>Constant_bool ⟨.bl b,H,I,rfl,h⟩
theorem zr8 {j pos}:PE X (.Constant .none j pos) (tC .non):=λ_ _ _ H _ I h=>Constant_none ⟨.non,H,I,rfl,h⟩
theorem zgs {x j pos}:PE X (.Constant (.str x) j pos) (tC (.str x)):=λ_ _ _ H _ I h=>Calls.Constant_str ⟨.str x,H,I.tok _,⟨_,rfl⟩,h⟩
def Gl (X:Cx) (x:Str):Prop:=X.env.kindOf x=some .globalImplicit
theorem zgt {E:Value->Shared->Prop}{pins:List (Addr × Obj)}{s:Shared}{σ:St}{H:Hp}{x:Str}{u:Value}{pos:Pos}{Q:Value->Shared->Prop}(I:Inv X pins σ H s) (hg:Gl X x) (hm:X.mg x=some u) (h:Q u s)
  (hd:(x == ("__debug__":Str))=false:=by decide):wpAny (model X.prog X.w) X.A (eval (.Name x pos) X.env) Q E s :=
 Calls.Name_function_global I.ok.kind hg (Calls.loadGlobal_global (by rw [I.ok.glob];exact I.mod.glob.keeps I.bk) hm h) hd
theorem zh4 {E:Value->Shared->Prop}{pins:List (Addr × Obj)}{s:Shared}{σ:St}{H:Hp}{x:Str}{u:Value}{pos:Pos}{Q:Value->Shared->Prop}(I:Inv X pins σ H s) (hg:Gl X x) (hm:X.mg x=none) (hv:bootBuiltins x=some u) (h:Q u s)
  (hn:x≠"__name__":=by decide) (hd:(x == ("__debug__":Str))=false:=by decide):wpAny (model X.prog X.w) X.A (eval (.Name x pos) X.env) Q E s:=by
 obtain ⟨mb,h1,h2⟩:=I.mod.blt
 exact Calls.Name_function_global I.ok.kind hg (Calls.loadGlobal_builtin (by rw [I.ok.glob];exact I.mod.glob.keeps I.bk) hm (by rw [I.ok.blt];exact h1.keeps I.bk) ((h2 x hn).trans hv) h) hd
theorem zr9 {x:Str}{v:V}{u:Value}{pos:Pos}(hg:Gl X x) (hm:X.mg x=some u) (r:RelV v u) (hd:(x == ("__debug__":Str))=false:=by decide):PE X (.Name x pos) (tC v) :=
 λ_ _ _ H _ I h=>zgt I hg hm ⟨v,H,I,r,h⟩ hd
theorem zmh {x:Str}{v:V}{u:Value}{pos:Pos}(hg:Gl X x) (hm:X.mg x=none) (hv:bootBuiltins x=some u) (r:RelV v u) (hn:x≠"__name__":=by decide) (hd:(x == ("__debug__":Str))=false:=by decide):PE X (.Name x pos) (tC v) :=
 λ_ _ _ H _ I h=>zh4 I hg hm hv ⟨v,H,I,r,h⟩ hn hd
variable {a b:Expr}{ta tb:TE}{pos:Pos}
def tB (t:TE):TT:=λσ H Q=>t σ H λx H1=>∃c,x=.bl c/\Q c H1
theorem zsa {e:Expr}{t:TE}(h:PE X e t) (he:∀whole,isTrue e X.env whole=(do let v <-whole;standAt e.pos;holding [v] (truthy v)):=by intro _;rfl):PT X e (tB t):=by
 intro pins s σ H Q I hw
 refine isTrue_plain (thn (h pins s σ H _ I hw) λv s1 ⟨x,H1,I1,r1,q1⟩=>?_) (he _)
 obtain ⟨d,rfl,q⟩:=q1
 cases r1
 exact wpAny_truthy_bool ⟨H1,I1,q⟩
variable {tA tB':TT}{rest:List Expr}
def tAnd (t u:TT):TT:=λσ H Q=>t σ H λc H1=>if c=true then u σ H1 Q else Q false H1
def tOr (t u:TT):TT:=λσ H Q=>t σ H λc H1=>if c=true then Q true H1 else u σ H1 Q
def zsb (t:TT):TT:=λσ H Q=>t σ H λc H1=>Q (!c) H1
theorem zsc (ha:PT X a tA):PW X (.BoolOp .And [a] pos) tA:=by
 intro wh pins s σ H Q I h
 refine isTrue_and (thn (ha pins s σ H Q I h) λc s1 e=>?_)
 cases c with
 | true=>exact isTrue_and_nil e
 | false=>exact e
theorem zsd (ha:PT X a tA):PW X (.BoolOp .Or [a] pos) tA:=by
 intro wh pins s σ H Q I h
 refine isTrue_or (thn (ha pins s σ H Q I h) λc s1 e=>?_)
 cases c with
 | false=>exact isTrue_or_nil e
 | true=>exact e
theorem zse (ha:PT X a tA) (hb:PW X (.BoolOp .And (b :: rest) pos) tB'):PW X (.BoolOp .And (a :: b :: rest) pos) (tAnd tA tB'):=by
 intro wh pins s σ H Q I h
 refine isTrue_and (thn (ha pins s σ H _ I h) λc s1 ⟨H1,I1,q1⟩=>?_)
 cases c with
 | true=>exact hb wh pins s1 σ H1 Q I1 q1
 | false=>exact ⟨H1,I1,q1⟩
theorem zsf (ha:PT X a tA) (hb:PW X (.BoolOp .Or (b :: rest) pos) tB'):PW X (.BoolOp .Or (a :: b :: rest) pos) (tOr tA tB'):=by
 intro wh pins s σ H Q I h
 refine isTrue_or (thn (ha pins s σ H _ I h) λc s1 ⟨H1,I1,q1⟩=>?_)
 cases c with
 | true=>exact ⟨H1,I1,q1⟩
 | false=>exact hb wh pins s1 σ H1 Q I1 q1
theorem zsg (ha:PT X a tA):PT X (.UnaryOp .Not a pos) (zsb tA):=by
 intro pins s σ H Q I h
 exact isTrue_not (ha pins s σ H (λc H1=>Q (!c) H1) I h)
def zsh (ta tb:TE):TE:=λσ H Q=>ta σ H λx H1=>∃c,x=.bl c/\if c=true then tb σ H1 Q else Q (.bl false) H1
def zsi (ta:TE):TE:=λσ H Q=>ta σ H λx H1=>∃c,x=.bl c/\Q (.bl (!c)) H1
theorem zsj {op}{t:TE}(h:PE X a t):PE X (.BoolOp op [a] pos) t:=λpins s σ H Q I hw=>BoolOp_one (h pins s σ H Q I hw)
theorem zsk (ha:PE X a ta) (hb:PE X (.BoolOp .And (b :: rest) pos) tb):PE X (.BoolOp .And (a :: b :: rest) pos) (zsh ta tb):=by
 intro pins s σ H Q I h
 refine BoolOp_and (thn (ha pins s σ H _ I h) λv s1 ⟨x,H1,I1,r1,q1⟩=>?_)
 obtain ⟨c,rfl,q1⟩:=q1
 cases r1
 refine wpAny_truthy_bool ?_
 cases c with
 | true=>exact hb pins s1 σ H1 Q I1 q1
 | false=>exact ⟨.bl false,H1,I1,rfl,q1⟩
theorem zsl (ha:PE X a ta):PE X (.UnaryOp .Not a pos) (zsi ta):=by
 intro pins s σ H Q I h
 refine UnaryOp_ (thn (ha pins s σ H _ I h) λv s1 ⟨x,H1,I1,r1,q1⟩=>?_)
 obtain ⟨c,rfl,q1⟩:=q1
 cases r1
 exact not_of (wpAny_truthy_bool ⟨.bl (!c),H1,I1,rfl,q1⟩)
end
def SqL (K:QFg) (H:Hp) (a:Addr) (xs:List V):Prop :=
 Rd H a (.lst xs) \/
  ∃(o:Obj) (its:Array Value) (n:Nat),K.lookup a=some o/\o.cls=.type "list"/\o.dict=none/\o.data=.seq its n/\its.size<=sizeLine/\Vals xs its.toList
def SqT (K:QFg) (H:Hp) (a:Addr) (xs:List V):Prop :=
 Rd H a (.tup xs) \/
  ∃(o:Obj) (its:Array Value) (n:Nat),K.lookup a=some o/\o.cls=.type "tuple"/\o.data=.seq its n/\its.size<=sizeLine/\Vals xs its.toList
noncomputable def zsm:Value->Option V
 | .none=>some .non
 | .bool b=>some (.bl b)
 | .int i _=>some (.int i)
 | .str x _=>some (.str x)
 | .bytes b _=>some (.byt b)
 | .float b _=>some (.flt b)
 | .ref a=>some (.ref a)
 | .type n=>some (.ty n)
 | _=>none
theorem RelV.abs {x:V}{u:Value}(r:RelV x u):zsm u=some x:=by
 cases x with
 | non=>cases r;rfl
 | bl _=>cases r;rfl
 | int _=>obtain ⟨t,rfl⟩:=r;rfl
 | str _=>obtain ⟨t,rfl⟩:=r;rfl
 | byt _=>obtain ⟨t,rfl⟩:=r;rfl
 | flt _=>obtain ⟨t,rfl⟩:=r;rfl
 | ref _=>cases r;rfl
 | ty _=>cases r;rfl
theorem RelV.inj {x y:V}{u:Value}(r:RelV x u) (q:RelV y u):x=y:=qoi (r.abs.symm.trans q.abs)
theorem Vals.inj:∀{xs ys:List V}{us:List Value},Vals xs us->Vals ys us->xs=ys
 | _,_,_,.nil,.nil=>rfl
 | _,_,_,.cons r t,.cons r' t'=>by rw [r.inj r',Vals.inj t t']
section
variable {X:Cx}{pins:List (Addr × Obj)}{σ:St}{H:Hp}{s:Shared}{a:Addr}{xs ys:List V}
theorem SqT.of {K:QFg}(h:H a=some (.tup xs)):SqT K H a xs:=.inl (.inl h)
theorem Inv.list (I:Inv X pins σ H s) (h:SqL X.K H a xs):∃its:List Value,Vals xs its/\PlainL s.heap a its.toArray/\xs.length<=sizeLine:=by
 rcases h with h|⟨o,its,n,hk,hc,hd,hs,hz,r⟩
 ·obtain ⟨z,its,n,r,e⟩:=h.ok I.hok
  exact ⟨its,r,⟨_,n,e,rfl,rfl,rfl⟩,z⟩
 ·refine ⟨its.toList,r,⟨o,n,I.kIn a o hk,hc,hd,by simpa using hs⟩,?_⟩
  have e:=r.length
  simp only [Array.length_toList] at e
  omega
theorem Inv.tuple (I:Inv X pins σ H s) (h:SqT X.K H a xs):∃its:List Value,Vals xs its/\IsTup s.heap a its.toArray/\xs.length<=sizeLine:=by
 rcases h with h|⟨o,its,n,hk,hc,hs,hz,r⟩
 ·obtain ⟨z,its,r,p⟩:=h.ok I.hok
  exact ⟨its,r,p.tup,z⟩
 ·refine ⟨its.toList,r,⟨o,I.kIn a o hk,hc,n,by simpa using hs⟩,?_⟩
  have e:=r.length
  simp only [Array.length_toList] at e
  omega
theorem Inv.list_inj (I:Inv X pins σ H s) (h:SqL X.K H a xs) (h':SqL X.K H a ys):xs=ys:=by
 obtain ⟨its,r,⟨o,n,e,_,_,d⟩,_⟩:=I.list h
 obtain ⟨its',r',⟨o',n',e',_,_,d'⟩,_⟩:=I.list h'
 rw [e] at e';cases e'
 rw [d] at d'
 injection d' with d1 _
 have:its=its':=by simpa using congrArg Array.toList d1
 subst this
 exact r.inj r'
theorem Inv.tuple_inj (I:Inv X pins σ H s) (h:SqT X.K H a xs) (h':SqT X.K H a ys):xs=ys:=by
 obtain ⟨its,r,⟨o,e,_,n,d⟩,_⟩:=I.tuple h
 obtain ⟨its',r',⟨o',e',_,n',d'⟩,_⟩:=I.tuple h'
 rw [e] at e';cases e'
 rw [d] at d'
 injection d' with d1 _
 have:its=its':=by simpa using congrArg Array.toList d1
 subst this
 exact r.inj r'
end
noncomputable abbrev Cx.wish (X:Cx) (E:Value->Shared->Prop):Cx:={ X with xe:=E }
noncomputable abbrev Cx.nox (X:Cx):Cx:=X.wish λ_ _=>False
theorem Cx.Ok.wish {X:Cx}(ok:X.Ok) (E:Value->Shared->Prop):(X.wish E).Ok :=
 ⟨ok.mod,ok.kind,ok.glob,ok.blt,ok.above,ok.inj,ok.has,ok.cab,ok.hd,ok.frames,ok.stk,ok.exf,ok.bs,ok.bsz,ok.noex,ok.exfs,ok.funs,ok.frf⟩
theorem Cx.Ok.unwish {X:Cx}{E:Value->Shared->Prop}(ok:(X.wish E).Ok):X.Ok :=
 ⟨ok.mod,ok.kind,ok.glob,ok.blt,ok.above,ok.inj,ok.has,ok.cab,ok.hd,ok.frames,ok.stk,ok.exf,ok.bs,ok.bsz,ok.noex,ok.exfs,ok.funs,ok.frf⟩
section
variable {X:Cx}{pins:List (Addr × Obj)}{σ:St}{H:Hp}{s:Shared}{E:Value->Shared->Prop}
theorem Inv.wish (I:Inv X pins σ H s) (E:Value->Shared->Prop):Inv (X.wish E) pins σ H s:=⟨I.ok.wish E,I.os,I.bare,I.base,I.loc,I.cell,I.free,I.freeC,I.pin,I.hok,I.len⟩
theorem Inv.unwish (I:Inv (X.wish E) pins σ H s):Inv X pins σ H s:=⟨I.ok.unwish,I.os,I.bare,I.base,I.loc,I.cell,I.free,I.freeC,I.pin,I.hok,I.len⟩
theorem SP.unwish {D:Ends}{f:Flow}{s':Shared}(h:SP (X.wish E) pins D f s'):SP X pins D f s':=by
 cases f with
 | next=>obtain ⟨σ',H',I,q⟩:=h;exact ⟨σ',H',I.unwish,q⟩
 | brk=>obtain ⟨σ',H',I,q⟩:=h;exact ⟨σ',H',I.unwish,q⟩
 | cont=>obtain ⟨σ',H',I,q⟩:=h;exact ⟨σ',H',I.unwish,q⟩
 | ret u=>obtain ⟨v,σ',H',I,r,q⟩:=h;exact ⟨v,σ',H',I.unwish,r,q⟩
theorem PSs.nox {st:List Stmt}{t:TS}(h:PSs X.nox st t):PSs X st t:=λpins s σ H D I hw =>
 wpAny_mono (h pins s σ H D (I.wish _) hw) (λ_ _ q=>q.unwish) λ_ _ z=>False.elim z
end
section
variable {X:Cx}{st:Stmt}{rest:List Stmt}{t u:TS}{e:Expr}{te:TE}{pos:Pos}
def zsn:TS:=λD σ H=>D.nx σ H
def zso (t u:TS):TS:=λD σ H=>t { D with nx:=u D } σ H
theorem zsp:PSs X [] zsn:=λ_ _ σ H _ I h=>wpAny_execs_nil ⟨σ,H,I,h⟩
theorem zjn (h1:PS X st t) (h2:PSs X rest u):PSs X (st :: rest) (zso t u):=by
 intro pins s σ H D I h
 refine wpAny_execs_cons (thn (h1 pins s σ H { D with nx:=u D } I h) λf s1 q=>?_)
 cases f with
 | next =>
  obtain ⟨σ',H',I',q⟩:=q
  exact h2 pins s1 σ' H' D I' q
 | ret v=>exact q
 | brk=>exact q
 | cont=>exact q
theorem zsq (h1:PS X st t):PSs X [st] t:=by
 intro pins s σ H D I h
 refine wpAny_execs_cons (thn (h1 pins s σ H D I h) λf s1 q=>?_)
 cases f with
 | next=>exact wpAny_execs_nil q
 | ret v=>exact q
 | brk=>exact q
 | cont=>exact q
theorem Inv.quiet {pins:List (Addr × Obj)}{σ:St}{H:Hp}{s:Shared}(I:Inv X pins σ H s):interactive X.env=false:=by simp [interactive,I.ok.kind]
def zsr (te:TE):TS:=λD σ H=>te σ H λ_ H1=>D.nx σ H1
theorem zss (he:PE X e te) (hs:swapsWith e none pos.line X.env=pure false:=by rfl):PS X (.Expr e pos) (zsr te):=by
 intro pins s σ H D I h
 exact wpAny_Expr_any (thn (he pins s σ H _ I h) λv s1 ⟨x,H1,I1,r1,q1⟩=>⟨σ,H1,I1,q1⟩) I.quiet hs
def zst (te:TE):TS:=λD σ H=>te σ H D.rt
theorem zmi (he:PE X e te):PS X (.Return (some e) pos) (zst te):=by
 intro pins s σ H D I h
 exact wpAny_Return_some (thn (he pins s σ H _ I h) λv s1 ⟨x,H1,I1,r1,q1⟩=>⟨x,σ,H1,I1,r1,q1⟩)
def zsu (c:TT) (t u:TS):TS:=λD σ H=>c σ H λb H1=>if b=true then t D σ H1 else u D σ H1
theorem zmj {c:Expr}{a b:List Stmt}{tc:TT}(hc:PT X c tc) (ha:PSs X a t) (hb:PSs X b u):PS X (.If c a b pos) (zsu tc t u):=by
 intro pins s σ H D I h
 refine wpAny_If (thn (hc pins s σ H _ I h) λd s1 ⟨H1,I1,q1⟩=>?_)
 cases d with
 | true=>exact ha pins s1 σ H1 D I1 q1
 | false=>exact hb pins s1 σ H1 D I1 q1
def zsv:TS:=λ_ _ _=>False
theorem zsw:PS X st zsv:=λ_ _ _ _ _ _ h=>h.elim
end
abbrev TG:=V->St->Hp->(St->Hp->Prop)->Prop
abbrev TGs:=List V->St->Hp->(St->Hp->Prop)->Prop
def PG (X:Cx) (target:Expr) (t:TG):Prop :=
 ∀(pins:List (Addr × Obj)) (s:Shared) (σ:St) (H:Hp) (v:V) (u:Value) (Q:St->Hp->Prop),Inv X pins σ H s->RelV v u->t v σ H Q ->
  wpAny (model X.prog X.w) X.A (assign target X.env u) (λ_ s'=>∃σ' H',Inv X pins σ' H' s'/\Q σ' H') X.xe s
def PGs (X:Cx) (ts:List Expr) (t:TGs):Prop :=
 ∀(pins:List (Addr × Obj)) (s:Shared) (σ:St) (H:Hp) (vs:List V) (us:List Value) (Q:St->Hp->Prop),Inv X pins σ H s->Vals vs us->t vs σ H Q ->
  wpAny (model X.prog X.w) X.A (assignInOrder ((assignEach ts X.env).map (·.2)) us) (λ_ s'=>∃σ' H',Inv X pins σ' H' s'/\Q σ' H') X.xe s
abbrev TSet:=V->V->V->Hp->(Hp->Prop)->Prop
section
variable {X:Cx}{pos:Pos}
def zmk (i:Nat):TG:=λv σ H Q=>Q (σ.set i (some v)) H
theorem zsx {i:Nat}{x:Str}(hN:X.N.Nodup) (hi:X.N[i]? = some x) (hx:Loc X.env.scope x) (hf:X.fn x=true\/X.env.scope.names.lookup x=some .local:=by first|exact .inl rfl|exact .inr rfl|assumption):PG X (.Name x pos) (zmk i):=by
 intro pins s σ H v u Q I r h
 exact wpAny_assign_Name (zjl I hN hi hx r (λs' I'=>⟨_,H,I',h⟩) hf)
def zsy:TGs:=λvs σ H Q=>vs=[]/\Q σ H
def zsz (t:TG) (u:TGs):TGs:=λvs σ H Q=>∃v r,vs=v :: r/\t v σ H λσ' H'=>u r σ' H' Q
theorem zs0:PGs X [] zsy:=by
 intro pins s σ H vs us Q I r h
 obtain ⟨e,h⟩:=h
 subst e
 cases r
 exact assignInOrder_nil ⟨σ,H,I,h⟩
theorem zs1 {e:Expr}{es:List Expr}{t:TG}{u:TGs}(h1:PG X e t) (h2:PGs X es u)
  (hs:(assignEach (e :: es) X.env).map (·.2)=assign e X.env :: (assignEach es X.env).map (·.2):=by rfl):PGs X (e :: es) (zsz t u):=by
 intro pins s σ H vs us Q I r h
 obtain ⟨v,vr,e1,h⟩:=h
 subst e1
 cases r with
 | cons r rr =>
  rw [hs]
  refine assignInOrder_cons (thn (h1 pins s σ H _ _ _ I r h) λ_ s1 ⟨σ1,H1,I1,q1⟩=>?_)
  exact h2 pins s1 σ1 H1 _ _ Q I1 rr q1
def zs2 (K:QFg) (n:Nat) (t:TGs):TG:=λv σ H Q=>∃a xs,v=.ref a/\SqT K H a xs/\xs.length=n/\t xs σ H Q
theorem zs3 {es:List Expr}{k:Nat}{t:TGs}{n:Nat}(hc:X.calm=true) (h:PGs X es t)
  (hn:(assignEach es X.env).length=n:=by rfl) (hst:(assignEach es X.env).findIdx? (·.1)=none:=by rfl):PG X (.Tuple es k pos) (zs2 X.K n t):=by
 intro pins s σ H v u Q I r hw
 obtain ⟨a,xs,e1,hq,hl,hw⟩:=hw
 subst e1
 cases r
 obtain ⟨its,rv,ht,hz⟩:=I.tuple hq
 refine assign_Tuple_tuple (I.ok.hd hc) ht (by simp [hn,<-hl,rv.length]) hst λh' hx=>?_
 have I1:Inv X pins σ H { s with heap:=h' }:=I.kept (t':=s.toks) λb o e=>hx b o (Nat.ne_of_lt (Heap.lt_size e)) e
 exact h pins _ σ H xs _ Q I1 (by simpa using rv) hw
def zml (te:TE) (g:TG):TS:=λD σ H=>te σ H λx H1=>g x σ H1 D.nx
theorem zs4 {tg e:Expr}{te:TE}{g:TG}(he:PE X e te) (hg:PG X tg g) (hs:swapsWithSole [tg] e pos.line X.env=pure false:=by rfl) (hw:swappedStores [tg] e X.env=pure none:=by rfl)
  (h1:(assignEach [tg] X.env).map (·.2)=[assign tg X.env]:=by rfl):PS X (.Assign [tg] e pos) (zml te g):=by
 intro pins s σ H D I h
 refine wpAny_Assign_stores (thn (he pins s σ H _ I h) λv s1 ⟨x,H1,I1,r1,q1⟩=>?_) hs hw
 rw [h1]
 exact thn (hg pins s1 σ H1 x v _ I1 r1 q1) λ_ s2 q=>q
theorem zs5 {i:Nat}{x:Str}{e:Expr}{te:TE}{pos':Pos}(hN:X.N.Nodup) (hi:X.N[i]? = some x) (hx:Loc X.env.scope x) (he:PE X e te) (hs:swapsWith e (some (.Name x pos')) pos.line X.env=pure false:=by rfl) (hf:X.fn x=true\/X.env.scope.names.lookup x=some .local:=by first|exact .inl rfl|exact .inr rfl|assumption) :
  PS X (.Assign [.Name x pos'] e pos) (zml te (zmk i)):=by
 intro pins s σ H D I h
 refine wpAny_Assign_Name (thn (he pins s σ H _ I h) λv s1 ⟨y,H1,I1,r1,q1⟩=>?_) hs
 exact zjl I1 hN hi hx r1 (λs2 I2=>⟨_,H1,I2,q1⟩) hf
end
section
variable {X:Cx}{pos:Pos}
end
structure It where
 go:Nat->Hp->Prop
 yld:Nat->Hp->V->Hp->Prop
 stop:Nat->Hp->Prop
def zdu (X:Cx) (pins:List (Addr × Obj)) (H:Hp) (b:Addr):Prop :=
 H b=none/\b≠X.env.locals/\b ∉ X.fs/\(b∈X.ex\/X.s₀.heap.objs.size<=b)/\(∀x c,X.env.cells.lookup x=some c->c≠b)/\∀p∈X.pn++pins,p.1≠b
theorem Inv.fpOk {X:Cx}{pins:List (Addr × Obj)}{σ:St}{H H':Hp}{s:Shared}{b:Addr}(I:Inv X pins σ H s) (hb:s.heap.objs.size<=b) (hn:H' b=none):zdu X pins H' b:=by
 refine ⟨hn,Nat.ne_of_gt (Nat.lt_of_lt_of_le I.lt hb),I.nofs hb,.inr (Nat.le_trans I.sz hb),λx c e z=>?_,λp hp z=>?_⟩
 ·obtain ⟨v,q⟩:=I.cell x c e
  exact absurd (Nat.lt_of_lt_of_le q.lt (by rw [z];exact hb)) (Nat.lt_irrefl _)
 ·exact absurd (Nat.lt_of_lt_of_le (Heap.lt_size (I.pin p hp).1) (by rw [z];exact hb)) (Nat.lt_irrefl _)
structure Turn (P:Program) (w:World) (K:QFg) (tg:Expr) (J:It) (fp:List Addr) (it:Addr) (tn:Nat->Heap->Prop):Prop where
 mem:it∈fp
 obj:∀i h,tn i h->∀b∈fp,∃o,h.get? b=some o/\∀v,o.data≠.cell v
 keep:∀i h h',tn i h->(∀b∈fp,∀o,h.get? b=some o->h'.get? b=some o)->tn i h'
 item:∀(X:Cx),X.prog=P->X.w=w->X.K=K->X.calm=true->∀(i:Nat) (pins:List (Addr × Obj)) (s:Shared) (σ:St) (H:Hp) (E:Value->Shared->Prop),Inv X pins σ H s->(∀b∈fp,zdu X pins H b)->tn i s.heap->J.go i H ->
  wpAny (model P w) X.A (pyNext (.ref it)) (λr s1=>∃u,r=some u /\
   wpAny (model P w) X.A (letOwnedTupleGo tg (.ref it) u) (λ_ s2=>∃x H',Inv X pins σ H' s2/\RelV x u/\J.yld i H x H'/\tn (i+1) s2.heap/\∀b∈fp,H' b=none) E s1) E s
 done:∀(X:Cx),X.prog=P->X.w=w->X.K=K->X.calm=true->∀(i:Nat) (pins:List (Addr × Obj)) (s:Shared) (σ:St) (H:Hp) (E:Value->Shared->Prop),Inv X pins σ H s->(∀b∈fp,zdu X pins H b)->tn i s.heap->J.stop i H ->
  wpAny (model P w) X.A (pyNext (.ref it)) (λr s1=>r=none/\Inv X pins σ H s1) E s
 self:∀(A:Around) (i:Nat) (s:Shared) (Q:Value->Shared->Prop) (E:Value->Shared->Prop),tn i s.heap->Q (.ref it) s->wpAny (model P w) A (pyIter (.ref it)) Q E s
abbrev TI:=St->Hp->(It->Hp->Prop)->Prop
def PIE (X:Cx) (pins:List (Addr × Obj)) (σ:St) (tg:Expr) (R:It->Hp->Prop) (itv:Value) (s2:Shared):Prop :=
 ∃(it:Addr) (fp:List Addr) (tn:Nat->Heap->Prop) (J:It) (H':Hp),itv=.ref it/\Inv X pins σ H' s2/\Turn X.prog X.w X.K tg J fp it tn/\tn 0 s2.heap/\(∀b∈fp,zdu X pins H' b)/\R J H'
def PI (X:Cx) (tg iter:Expr) (wi:TI):Prop :=
 ∀(pins:List (Addr × Obj)) (s:Shared) (σ:St) (H:Hp) (R:It->Hp->Prop),Inv X pins σ H s->wi σ H R ->
  wpAny (model X.prog X.w) X.A (eval iter X.env) (λv s1=>wpAny (model X.prog X.w) X.A (pyIter v) (PIE X pins σ tg R) X.xe s1) X.xe s
theorem zjo {M:Model}{A:Around}{E:Value->Shared->Prop}{s:Shared}{tg:Expr}{it:Addr}{u:Value}{o:Obj}{n:String}{vs:Array Value}{Q:Unit->Shared->Prop}(ho:s.heap.get? it=some o) (hc:o.cls=.type n) (hd:o.data=.fields vs)
  (hn:["enumerate","zip","dict_itemiterator","dict_reverseitemiterator","odict_iterator","itertools.zip_longest","itertools.pairwise"].contains n=false) (hQ:Q () s):wpAny M A (letOwnedTupleGo tg (.ref it) u) Q E s:=by
 unfold letOwnedTupleGo
 cases tg <;> first
  | exact qwp hQ
  | (cases u <;> first
    | exact qwp hQ
    | (refine qwb (wpAny_load ho ?_)
       rw [hc,hd]
       show wpAny M A (if (["enumerate","zip","dict_itemiterator","dict_reverseitemiterator","odict_iterator","itertools.zip_longest","itertools.pairwise"].contains n && vs[0]? == some (rawInt _))=true then _ else _) Q E s
       rw [if_neg (by intro h;rw [hn,Bool.false_and] at h;cases h)]
       exact qwp hQ))
noncomputable def Itl (K:QFg) (a:Addr):It :=
 ⟨λi H=>∃xs x,SqL K H a xs/\xs[i]? = some x,λi H x H'=>H' = H/\∀xs,SqL K H a xs->xs[i]? = some x,λi H=>∃xs,SqL K H a xs/\xs.length<=i⟩
noncomputable def Itt (K:QFg) (a:Addr):It :=
 ⟨λi H=>∃xs x,SqT K H a xs/\xs[i]? = some x,λi H x H'=>H' = H/\∀xs,SqT K H a xs->xs[i]? = some x,λi H=>∃xs,SqT K H a xs/\xs.length<=i⟩
noncomputable def Itr (lo:Int) (n:Nat):It:=⟨λi _=>i<n,λi H x H'=>H' = H/\x=.int (lo+i),λi _=>n<=i⟩
theorem zs6 {P:Program}{w:World}{K:QFg}{tg:Expr}(a it:Addr):Turn P w K tg (Itl K a) [it] it (λi h=>h.IsListIter it a i) where
 mem:=by simp
 obj:=λi h st b hb=>by
  have e:b=it:=by simpa using hb
  subst e
  obtain ⟨o,e,c,d⟩:=st
  exact ⟨o,e,λv z=>by rw [d] at z;cases z⟩
 keep:=λi h h' st k=>st.at λo e=>k it (by simp) o e
 item:=by
  intro X hP hw hK hc i pins s σ H E I hf st hg
  subst hP hw hK
  obtain ⟨xs,x,hq,hx⟩:=hg
  obtain ⟨its,rv,p,hz⟩:=I.list hq
  obtain ⟨u,hu,ru⟩:=rv.get hx
  obtain ⟨f0,f1,f2,f3,f4,f5⟩:=hf it (by simp)
  refine wpAny_pyNext_list_item st p.isList (x:=u) (by simpa using hu) λh' st' sb=>?_
  have I1:Inv X pins σ H { s with heap:=h' }:=I.turned (t':=s.toks) (λb o hb e=>(sb.2 b hb).trans e) f0 f1 f3 f4 f5
  obtain ⟨o,e,c,d⟩:=id st'
  exact ⟨u,rfl,zjo (s:={ s with heap:=h' }) e c d (by decide) ⟨x,H,I1,ru,⟨rfl,λys hy=>by rw [I.list_inj hy hq];exact hx⟩,st',λb hb=>(hf b hb).1⟩⟩
 done:=by
  intro X hP hw hK hc i pins s σ H E I hf st hg
  subst hP hw hK
  obtain ⟨xs,hq,hx⟩:=hg
  obtain ⟨its,rv,p,hz⟩:=I.list hq
  obtain ⟨f0,f1,f2,f3,f4,f5⟩:=hf it (by simp)
  have hl:=rv.length
  exact wpAny_pyNext_list_end (I.ok.hd hc) st p.isList (by simp;omega) λh' eb=>⟨rfl,I.turned (t':=s.toks) (λb o hb e=>eb b o hb e) f0 f1 f3 f4 f5⟩
 self:=λ_ _ _ _ _ st h=>wpAny_pyIter_listiter st h
theorem zs7 {P:Program}{w:World}{K:QFg}{tg:Expr}(a it:Addr):Turn P w K tg (Itt K a) [it] it (λi h=>h.IsTupleIter it a i) where
 mem:=by simp
 obj:=λi h st b hb=>by
  have e:b=it:=by simpa using hb
  subst e
  obtain ⟨o,e,c,d⟩:=st
  exact ⟨o,e,λv z=>by rw [d] at z;cases z⟩
 keep:=λi h h' st k=>st.at λo e=>k it (by simp) o e
 item:=by
  intro X hP hw hK hc i pins s σ H E I hf st hg
  subst hP hw hK
  obtain ⟨xs,x,hq,hx⟩:=hg
  obtain ⟨its,rv,p,hz⟩:=I.tuple hq
  obtain ⟨u,hu,ru⟩:=rv.get hx
  obtain ⟨f0,f1,f2,f3,f4,f5⟩:=hf it (by simp)
  refine wpAny_pyNext_tuple_item st (show s.heap.IsTuple a its.toArray from p) (x:=u) (by simpa using hu) λh' st' sb=>?_
  have I1:Inv X pins σ H { s with heap:=h' }:=I.turned (t':=s.toks) (λb o hb e=>(sb.2 b hb).trans e) f0 f1 f3 f4 f5
  obtain ⟨o,e,c,d⟩:=id st'
  exact ⟨u,rfl,zjo (s:={ s with heap:=h' }) e c d (by decide) ⟨x,H,I1,ru,⟨rfl,λys hy=>by rw [I.tuple_inj hy hq];exact hx⟩,st',λb hb=>(hf b hb).1⟩⟩
 done:=by
  intro X hP hw hK hc i pins s σ H E I hf st hg
  subst hP hw hK
  obtain ⟨xs,hq,hx⟩:=hg
  obtain ⟨its,rv,p,hz⟩:=I.tuple hq
  obtain ⟨f0,f1,f2,f3,f4,f5⟩:=hf it (by simp)
  have hl:=rv.length
  exact wpAny_pyNext_tuple_end (I.ok.hd hc) st (show s.heap.IsTuple a its.toArray from p) (by simp;omega) λh' eb=>⟨rfl,I.turned (t':=s.toks) (λb o hb e=>eb b o hb e) f0 f1 f3 f4 f5⟩
 self:=λ_ _ _ _ _ st h=>wpAny_pyIter_tupleiter st h
theorem zs8 {P:Program}{w:World}{K:QFg}{tg:Expr}(it:Addr) (lo:Int) (n:Nat):Turn P w K tg (Itr lo n) [it] it (λi h=>IsRangeIter h it (lo+(i:Nat)*1) ((n:Int)-(i:Nat)) 1) where
 mem:=by simp
 obj:=λi h st b hb=>by
  have e:b=it:=by simpa using hb
  subst e
  exact ⟨_,st,λv z=>by
   have z':Data.fields _=Data.cell v:=z
   cases z'⟩
 keep:=λi h h' st k=>k it (by simp) _ st
 item:=by
  intro X hP hw hK hc i pins s σ H E I hf st hg
  subst hP hw hK
  obtain ⟨f0,f1,f2,f3,f4,f5⟩:=hf it (by simp)
  have W:=Walks.range (prog:=X.prog) (w:=X.w) (I.ok.hd hc) it lo 1 n
  refine W.item i s _ _ hg st λv h' tk hv st' kk=>?_
  obtain ⟨t,rfl⟩:=hv
  have I1:Inv X pins σ H { s with heap:=h',toks:=tk }:=I.turned (λb o hb e=>kk b o (by simpa using hb) e) f0 f1 f3 f4 f5
  refine ⟨_,rfl,zjo (s:={ s with heap:=h',toks:=tk }) (n:="range_iterator") st' rfl rfl (by decide) ⟨.int (lo+i),H,I1,⟨t,?_⟩,⟨rfl,rfl⟩,st',λb hb=>(hf b hb).1⟩⟩
  rw [Int.mul_one]
 done:=by
  intro X hP hw hK hc i pins s σ H E I hf st hg
  subst hP hw hK
  obtain ⟨f0,f1,f2,f3,f4,f5⟩:=hf it (by simp)
  exact wpAny_pyNext_range_end (I.ok.hd hc) st (by have:n<=i:=hg;omega) λh' eb=>⟨rfl,I.turned (t':=s.toks) (λb o hb e=>eb b o hb e) f0 f1 f3 f4 f5⟩
 self:=λ_ _ _ _ _ st h=>wpAny_pyIter_rangeiter st h
section
variable {X:Cx}{tg:Expr}
def zs9 (K:QFg) (tl:TE):TI:=λσ H R=>tl σ H λx H1=>∃a,x=.ref a/\(∃xs,SqL K H1 a xs)/\R (Itl K a) H1
def zta (K:QFg) (tl:TE):TI:=λσ H R=>tl σ H λx H1=>∃a,x=.ref a/\(∃xs,SqT K H1 a xs)/\R (Itt K a) H1
theorem zmm {l:Expr}{tl:TE}(hl:PE X l tl):PI X tg l (zs9 X.K tl):=by
 intro pins s σ H R I h
 refine thn (hl pins s σ H _ I h) λv s1 ⟨x,H1,I1,r1,q1⟩=>?_
 obtain ⟨a,e,⟨xs,hq⟩,q⟩:=q1
 subst e
 cases r1
 obtain ⟨its,rv,p,hz⟩:=I1.list hq
 refine wpAny_pyIter_list p.isList ?_
 refine ⟨s1.heap.objs.size,[s1.heap.objs.size],_,_,H1,rfl,I1.kept (t':=s1.toks) λb o e=>qps _ e,zs6 a _,⟨_,Heap.get?_push_size _ rfl,rfl,rfl⟩,λb hb=>?_,q⟩
 have e:b=s1.heap.objs.size:=by simpa using hb
 subst e
 exact I1.fpOk (qlr _) (I1.hok.fresh (qlr _))
theorem zmn {l:Expr}{tl:TE}(hl:PE X l tl):PI X tg l (zta X.K tl):=by
 intro pins s σ H R I h
 refine thn (hl pins s σ H _ I h) λv s1 ⟨x,H1,I1,r1,q1⟩=>?_
 obtain ⟨a,e,⟨xs,hq⟩,q⟩:=q1
 subst e
 cases r1
 obtain ⟨its,rv,p,hz⟩:=I1.tuple hq
 refine wpAny_pyIter_tuple (show s1.heap.IsTuple a its.toArray from p) ?_
 refine ⟨s1.heap.objs.size,[s1.heap.objs.size],_,_,H1,rfl,I1.kept (t':=s1.toks) λb o e=>qps _ e,zs7 a _,⟨_,Heap.get?_push_size _ rfl,rfl,rfl⟩,λb hb=>?_,q⟩
 have e:b=s1.heap.objs.size:=by simpa using hb
 subst e
 exact I1.fpOk (qlr _) (I1.hok.fresh (qlr _))
theorem ztb {pins:List (Addr × Obj)}{σ:St}{H:Hp}{s:Shared}{R:It->Hp->Prop}{E:Value->Shared->Prop}{lo hi:Int}{t u v:Tok}{tk:Nat}(I:Inv X pins σ H s) (h1:-(2 ^ 62)<=lo) (h2:lo<2 ^ 62) (h3:-(2 ^ 62)<=hi) (h4:hi<2 ^ 62)
  (q:R (Itr lo (hi-lo).toNat) H):wpAny (model X.prog X.w) X.A (pyIter (.ref s.heap.objs.size)) (PIE X pins σ tg R) E { s with heap:=s.heap.push { cls:=.type "range",data:=.fields #[.int lo t,.int hi u,.int 1 v] },toks:=tk }:=by
 refine wpAny_pyIter_range (IsRange.new ..) (small_one h1 h2 h3 h4) ?_
 have I1:Inv X pins σ H { s with heap:=s.heap.push { cls:=.type "range",data:=.fields #[.int lo t,.int hi u,.int 1 v] },toks:=tk }:=I.kept λb o e=>qps _ e
 refine ⟨(s.heap.push { cls:=.type "range",data:=.fields #[.int lo t,.int hi u,.int 1 v] }).objs.size,[(s.heap.push { cls:=.type "range",data:=.fields #[.int lo t,.int hi u,.int 1 v] }).objs.size],_,_,H,rfl,
  I1.kept (t':=tk) λb o e=>qps _ e,zs8 _ lo (hi-lo).toNat,?_,λb hb=>?_,q⟩
 ·have e1:lo+((0:Nat):Int)*1=lo:=by simp
  have e2:(((hi-lo).toNat:Nat):Int)-((0:Nat):Int)=Builtin.Range.rangeSize lo hi 1:=by rw [rangeSize_one];split <;> omega
  show IsRangeIter _ _ (lo+((0:Nat):Int)*1) ((((hi-lo).toNat:Nat):Int)-((0:Nat):Int)) 1
  rw [e1,e2]
  exact Heap.get?_push_size _ rfl
 ·have e:b=(s.heap.push { cls:=.type "range",data:=.fields #[.int lo t,.int hi u,.int 1 v] }).objs.size:=by simpa using hb
  subst e
  exact I1.fpOk (qlr _) (I1.hok.fresh (qlr _))
def ztc (ta:TA):TI:=λσ H R=>ta σ H λvs H1=>∃j:Int,vs=[.int j]/\-(2 ^ 62)<=j/\j<2 ^ 62/\R (Itr 0 j.toNat) H1
theorem zmo {a:Expr}{ta:TA}{p pos:Pos}(hg:Gl X "range") (hm:X.mg "range" = none) (ha:PA X [a] ta) (hs:starEach [a] X.env=[(false,eval a X.env)]:=by rfl):PI X tg (.Call (.Name "range" p) [a] [] pos) (ztc ta):=by
 intro pins s σ H R I h
 refine Call_ (zh4 I hg hm boot_range (PyProof.Rows.callWith_type1 (thn (ha pos pins s σ H _ I h) λus s1 ⟨vs,H1,I1,r1,q1⟩=>?_) hs rfl))
 obtain ⟨j,e,q1,q2,q⟩:=q1
 subst e
 cases r1 with
 | cons r rr =>
  cases rr
  obtain ⟨t,rfl⟩:=r
  exact call_range_1 (ztb I1 (by omega) (by omega) q1 q2 (by simpa using q))
def ztd (wi:TI) (g:TG) (tb:TS):TS:=λD σ H=>wi σ H λJ H1=>∃W:Nat->Nat->St->Hp->Prop,(∃m,W 0 m σ H1)/\∀i m σ H,W i m σ H ->
 (J.stop i H/\D.nx σ H)\/(J.go i H/\∃N:St->Hp->Prop,(∀σ' H',N σ' H'->∃m',m' < m/\W (i+1) m' σ' H')/\∀x H',J.yld i H x H'->g x σ H' λσ2 H2=>tb { D with nx:=N,ct:=N,bk:=D.nx } σ2 H2)
noncomputable def zgu (fp:List Addr) (h:Heap):List (Addr × Obj):=fp.filterMap λb=>(h.get? b).map λo=>(b,o)
theorem zh5 {fp:List Addr}{h:Heap}{b:Addr}{o:Obj}(hb:b∈fp) (e:h.get? b=some o):(b,o)∈zgu fp h:=List.mem_filterMap.mpr ⟨b,hb,by rw [e];rfl⟩
theorem zte {fp:List Addr}{h:Heap}{p:Addr × Obj}(hp:p∈zgu fp h):p.1∈fp/\h.get? p.1=some p.2:=by
 obtain ⟨b,hb,e⟩:=List.mem_filterMap.mp hp
 cases q:h.get? b with
 | none=>rw [q] at e;cases e
 | some o =>
  rw [q] at e
  have e':(b,o)=p:=qoi e
  subst e'
  exact ⟨hb,q⟩
theorem Inv.pinned {pins:List (Addr × Obj)}{σ:St}{H:Hp}{s:Shared}{fp:List Addr}(I:Inv X pins σ H s) (hf:∀b∈fp,zdu X pins H b) (ho:∀b∈fp,∃o,s.heap.get? b=some o/\∀v,o.data≠.cell v):Inv X (pins++zgu fp s.heap) σ H s :=
 I.pins_of λp hp=>(List.mem_append.mp hp).elim (λz=>I.pin p (List.mem_append_right _ z)) λz=>by
  obtain ⟨hb,e⟩:=zte z
  obtain ⟨f0,f1,f2,_⟩:=hf p.1 hb
  obtain ⟨o,e',d⟩:=ho p.1 hb
  rw [e] at e';cases e'
  exact ⟨e,f0,f1,f2,d⟩
theorem Inv.unpinned {pins pl:List (Addr × Obj)}{σ:St}{H:Hp}{s:Shared}(I:Inv X (pins++pl) σ H s):Inv X pins σ H s:=I.pins_of λp hp=>I.pin p (List.mem_append_right _ (List.mem_append_left _ hp))
theorem zmp {iter:Expr}{body:List Stmt}{wi:TI}{g:TG}{tb:TS}{pos:Pos}(hp:PassesOwn (model X.prog X.w) X.A X.env X.xe) (hc:X.calm=true) (hi:PI X tg iter wi) (hg:PG X tg g) (hb:PSs X body tb)
  (hs:∀x,foldedSetIterable iter X.env x=pure x:=by intro _;rfl):PS X (.For tg iter body [] pos) (ztd wi g tb):=by
 intro pins s σ H D I h
 refine wpAny_For (thn (hi pins s σ H _ I h) λv s1 h1=>thn h1 λitv s2 h2=>?_) hs
 obtain ⟨it,fp,tn,J,H2,e,I2,T,st2,f2,W,⟨m0,w0⟩,turn⟩:=h2
 subst e
 have stat:∀{H':Hp},(∀b∈fp,H' b=none)->∀b∈fp,zdu X pins H' b:=λhn b hb=>⟨hn b hb,(f2 b hb).2⟩
 refine codeAny_forLoop_any (λn s'=>∃i σ' H',Inv X pins σ' H' s'/\tn i s'.heap/\(∀b∈fp,H' b=none)/\W i n σ' H') ?_ m0 ⟨0,σ,H2,I2,st2,λb hb=>(f2 b hb).1,w0⟩
 rintro n s3 ⟨i,σ3,H3,I3,st3,fr3,w3⟩
 rcases turn i n σ3 H3 w3 with ⟨stop,qn⟩|⟨go,N,hN,step⟩
 ·refine wpAny_passesOwn hp (thn (T.done X rfl rfl rfl hc i pins s3 σ3 H3 X.xe I3 (stat fr3) st3 stop) λr s4 ⟨hr,I4⟩=>?_)
  subst hr
  exact wpAny_execs_nil ⟨σ3,H3,I4,qn⟩
 ·refine wpAny_passesOwn hp (thn (T.item X rfl rfl rfl hc i pins s3 σ3 H3 X.xe I3 (stat fr3) st3 go) λr s4 ⟨u,hr,h4⟩=>?_)
  subst hr
  refine wpAny_passesOwn hp (thn h4 λ_ s5 ⟨x,H5,I5,r5,y5,st5,fr5⟩=>?_)
  have I5':=I5.pinned (stat fr5) (T.obj _ _ st5)
  refine wpAny_passesOwn hp (thn (hg _ s5 σ3 H5 x u _ I5' r5 (step x H5 y5)) λ_ s6 ⟨σ6,H6,I6,q6⟩=>?_)
  refine wpAny_passesOwn hp (thn (hb _ s6 σ6 H6 _ I6 q6) λf s7 q7=>?_)
  have again:∀{σ7:St} {H7:Hp},Inv X (pins++zgu fp s5.heap) σ7 H7 s7->N σ7 H7->∃m,m<n/\∃i σ' H',Inv X pins σ' H' s7/\tn i s7.heap/\(∀b∈fp,H' b=none)/\W i m σ' H':=λ{σ7 H7} I7 n7=>by
   obtain ⟨m',hm,w7⟩:=hN σ7 H7 n7
   refine ⟨m',hm,i+1,σ7,H7,I7.unpinned,T.keep _ _ _ st5 λb hb o e=>(I7.pin (b,o) (List.mem_append_right _ (List.mem_append_right _ (zh5 hb e)))).1,λb hb=>?_,w7⟩
   obtain ⟨o,e,d⟩:=T.obj _ _ st5 b hb
   exact (I7.pin (b,o) (List.mem_append_right _ (List.mem_append_right _ (zh5 hb e)))).2.1
  cases f with
  | next=>obtain ⟨σ7,H7,I7,n7⟩:=q7;exact again I7 n7
  | cont=>obtain ⟨σ7,H7,I7,n7⟩:=q7;exact again I7 n7
  | brk=>obtain ⟨σ7,H7,I7,q7⟩:=q7;exact ⟨σ7,H7,I7.unpinned,q7⟩
  | ret v=>obtain ⟨x7,σ7,H7,I7,r7,q7⟩:=q7;exact ⟨x7,σ7,H7,I7.unpinned,r7,q7⟩
end
abbrev R2:=V->V->Hp->VK->Prop
def OpR (X:Cx) (f:Value->Value->Sem Value) (r:R2):Prop :=
 ∀(pins:List (Addr × Obj)) (s:Shared) (σ:St) (H:Hp) (x y:V) (v u:Value) (Q:VK),Inv X pins σ H s->RelV x v->RelV y u->r x y H Q ->
  wpAny (model X.prog X.w) X.A (f v u) (EP X pins σ Q) X.xe s
def UnR (X:Cx) (f:Value->Sem Value) (r:V->Hp->VK->Prop):Prop :=
 ∀(pins:List (Addr × Obj)) (s:Shared) (σ:St) (H:Hp) (x:V) (v:Value) (Q:VK),Inv X pins σ H s->RelV x v->r x H Q ->
  wpAny (model X.prog X.w) X.A (f v) (EP X pins σ Q) X.xe s
def CallR (X:Cx) (f:Value) (r:List V->Hp->VK->Prop):Prop :=
 ∀(pins:List (Addr × Obj)) (s:Shared) (σ:St) (H:Hp) (xs:List V) (us:List Value) (Q:VK),Inv X pins σ H s->Vals xs us->r xs H Q ->
  wpAny (model X.prog X.w) X.A (call f us) (EP X pins σ Q) X.xe s
def tOp (r:R2) (ta tb:TE):TE:=λσ H Q=>ta σ H λx H1=>tb σ H1 λy H2=>r x y H2 Q
def tUn (r:V->Hp->VK->Prop) (ta:TE):TE:=λσ H Q=>ta σ H λx H1=>r x H1 Q
def rI (C:Int->Int->Prop) (g:Int->Int->V):R2:=λx y H Q=>∃i j,x=.int i/\y=.int j/\C i j/\Q (g i j) H
def rI0 (g:Int->Int->V):R2:=λx y H Q=>∃i j,x=.int i/\y=.int j/\Q (g i j) H
def rU (g:Int->V):V->Hp->VK->Prop:=λx H Q=>∃i,x=.int i/\Q (g i) H
section
variable {X:Cx}{a b c:Expr}{ta tb tc:TE}{pos:Pos}
theorem zjp (ha:PE X a ta) (hb:PE X b tb) {pins:List (Addr × Obj)}{s:Shared}{σ:St}{H:Hp}{R:V->V->Hp->Prop}(I:Inv X pins σ H s)
  (h:ta σ H λx H1=>tb σ H1 λy H2=>R x y H2) {Q:Value->Shared->Prop} {f:Value->Value->Sem Value}
  (hf:∀v u s2 x y H2,Inv X pins σ H2 s2->RelV x v->RelV y u->R x y H2->wpAny (model X.prog X.w) X.A (f v u) Q X.xe s2) :
  wpAny (model X.prog X.w) X.A (eval a X.env) (λv s₁=>wpAny (model X.prog X.w) X.A (eval b X.env) (λu s₂=>wpAny (model X.prog X.w) X.A (f v u) Q X.xe s₂) X.xe s₁) X.xe s:=by
 refine thn (ha pins s σ H _ I h) λv s1 ⟨x,H1,I1,r1,q1⟩=>?_
 refine thn (hb pins s1 σ H1 _ I1 q1) λu s2 ⟨y,H2,I2,r2,q2⟩=>?_
 exact hf v u s2 x y H2 I2 r1 r2 q2
theorem zmq {op:Operator}{r:R2}(ho:OpR X (binaryOp op) r) (ha:PE X a ta) (hb:PE X b tb):PE X (.BinOp a op b pos) (tOp r ta tb):=by
 intro pins s σ H Q I h
 exact wpAny_BinOp (zjp ha hb I h λv u s2 x y H2 I2 rx ry q=>ho pins s2 σ H2 x y v u Q I2 rx ry q)
theorem ztf {op:UnaryOp}{r:V->Hp->VK->Prop}(ho:UnR X (unaryOp op) r) (ha:PE X a ta):PE X (.UnaryOp op a pos) (tUn r ta):=by
 intro pins s σ H Q I h
 exact UnaryOp_ (thn (ha pins s σ H _ I h) λv s1 ⟨x,H1,I1,r1,q1⟩=>ho pins s1 σ H1 x v Q I1 r1 q1)
theorem opI {f:Value->Value->Sem Value}{C:Int->Int->Prop}{g:Int->Int->Int}
  (rule:∀(i j:Int) (t u:Tok) (s:Shared) (Q:Value->Shared->Prop) (E:Value->Shared->Prop),C i j->Q (.int (g i j) s.toks) { s with toks:=s.toks+1 }->wpAny (model X.prog X.w) X.A (f (.int i t) (.int j u)) Q E s) :
  OpR X f (rI C λi j=>.int (g i j)):=by
 intro pins s σ H x y v u Q I rx ry h
 obtain ⟨i,j,rfl,rfl,hc,q⟩:=h
 obtain ⟨t,rfl⟩:=rx
 obtain ⟨t',rfl⟩:=ry
 exact rule i j t t' s _ _ hc ⟨.int (g i j),H,I.tok _,⟨_,rfl⟩,q⟩
theorem zmr {f:Value->Value->Sem Value}{g:Int->Int->Int}
  (rule:∀(i j:Int) (t u:Tok) (s:Shared) (Q:Value->Shared->Prop) (E:Value->Shared->Prop),Q (.int (g i j) s.toks) { s with toks:=s.toks+1 }->wpAny (model X.prog X.w) X.A (f (.int i t) (.int j u)) Q E s) :
  OpR X f (rI0 λi j=>.int (g i j)):=by
 intro pins s σ H x y v u Q I rx ry h
 obtain ⟨i,j,rfl,rfl,q⟩:=h
 obtain ⟨t,rfl⟩:=rx
 obtain ⟨t',rfl⟩:=ry
 exact rule i j t t' s _ _ ⟨.int (g i j),H,I.tok _,⟨_,rfl⟩,q⟩
theorem zh6 {f:Value->Value->Sem Value}{g:Int->Int->Bool}
  (rule:∀(i j:Int) (t u:Tok) (s:Shared) (Q:Value->Shared->Prop) (E:Value->Shared->Prop),Q (.bool (g i j)) s->wpAny (model X.prog X.w) X.A (f (.int i t) (.int j u)) Q E s) :
  OpR X f (rI0 λi j=>.bl (g i j)):=by
 intro pins s σ H x y v u Q I rx ry h
 obtain ⟨i,j,rfl,rfl,q⟩:=h
 obtain ⟨t,rfl⟩:=rx
 obtain ⟨t',rfl⟩:=ry
 exact rule i j t t' s _ _ ⟨.bl (g i j),H,I,rfl,q⟩
def zh7 (i j:Int):Prop:=0<j/\j<1073741824
def zfg (i j:Int):Prop:=0<=j/\j<=1000000/\i.natAbs<2 ^ 64
def CMul (i j:Int):Prop:=(-(2 ^ 64)<i/\i<2 ^ 64)\/(-(2 ^ 64)<j/\j<2 ^ 64)
theorem CMul.ok {i j:Int}(h:CMul i j):IntMulOk i j:=by
 rcases h with ⟨h1,h2⟩|⟨h1,h2⟩
 ·exact .of_left (intBits_le_64 h1 h2)
 ·exact .of_right (intBits_le_64 h1 h2)
theorem op_add:OpR X (binaryOp .Add) (rI0 λi j=>.int (i+j)):=zmr λ_ _ _ _ _ _ _ q=>add_int q
theorem ztg:OpR X (binaryOp .Sub) (rI0 λi j=>.int (i-j)):=zmr λ_ _ _ _ _ _ _ q=>sub_int q
theorem op_mul:OpR X (binaryOp .Mult) (rI CMul λi j=>.int (i*j)):=opI λ_ _ _ _ _ _ _ hc q=>mul_int q hc.ok
theorem zth:OpR X (binaryOp .FloorDiv) (rI zh7 λi j=>.int (i / j)):=opI λi j _ _ _ _ _ hc q=>by
 have h1:(0:Int)<j:=hc.1
 have h2:j<1073741824:=hc.2
 exact floordiv_int (by omega) (by rw [Int.fdiv_eq_ediv_of_nonneg i (by omega)];exact q) (.inl (PyProof.noPylong_small (by omega)))
theorem zti:OpR X (binaryOp .Mod) (rI (λ_ j=>0<j) λi j=>.int (i % j)):=opI λi j _ _ _ _ _ hc q=>by
 have h1:(0:Int)<j:=hc
 exact mod_int' (by omega) (by rw [Int.fmod_eq_emod_of_nonneg i (by omega)];exact q)
theorem ztj:OpR X (binaryOp .Pow) (rI zfg λi j=>.int (i ^ j.toNat)):=opI λ_ _ _ _ _ _ _ hc q=>pow_int_small hc.1 hc.2.1 hc.2.2 q
theorem zms:OpR X (binaryOp .LShift) (rI zfg λi j=>.int (i*2 ^ j.toNat)):=opI λ_ _ _ _ _ _ _ hc q=>lshift_int_small hc.1 hc.2.1 hc.2.2 q
theorem unI {f:Value->Sem Value}{g:Int->Int}
  (rule:∀(i:Int) (t:Tok) (s:Shared) (Q:Value->Shared->Prop) (E:Value->Shared->Prop),Q (.int (g i) s.toks) { s with toks:=s.toks+1 }->wpAny (model X.prog X.w) X.A (f (.int i t)) Q E s) :
  UnR X f (rU λi=>.int (g i)):=by
 intro pins s σ H x v Q I rx h
 obtain ⟨i,rfl,q⟩:=h
 obtain ⟨t,rfl⟩:=rx
 exact rule i t s _ _ ⟨.int (g i),H,I.tok _,⟨_,rfl⟩,q⟩
theorem ztk:UnR X (unaryOp .USub) (rU λi=>.int (-i)):=unI λ_ _ _ _ _ q=>neg_int q
end
noncomputable def zjq:V->V->Bool
 | .non,.non=>true | .non,.int _=>true | .int _,.non=>true | .non,.bl _=>true | .bl _,.non=>true | .non,.str _=>true | .str _,.non=>true
 | .int _,.int _=>true | .bl _,.bl _=>true | .str _,.str _=>true | .byt _,.byt _=>true
 | .int _,.str _=>true | .str _,.int _=>true | .bl _,.str _=>true | .str _,.bl _=>true
 | _,_=>false
def rEq:R2:=λx y H Q=>zjq x y=true/\Q (.bl (decide (x=y))) H
def rNe:R2:=λx y H Q=>zjq x y=true/\Q (.bl (!decide (x=y))) H
theorem zmt {i j:Int}:decide (V.int i=V.int j)=(i == j):=by
 rw [Bool.eq_iff_iff]
 simp
theorem zmu {i j:Bool}:decide (V.bl i=V.bl j)=(i == j):=by
 rw [Bool.eq_iff_iff]
 simp
theorem zmv {i j:Str}:decide (V.str i=V.str j)=(i == j):=by
 rw [Bool.eq_iff_iff]
 simp
theorem zmw {i j:Array UInt8}:decide (V.byt i=V.byt j)=(i.toList == j.toList):=by
 rw [Bool.eq_iff_iff]
 cases i
 cases j
 simp
section
variable {X:Cx}{a b c:Expr}{ta tb tc:TE}{pos:Pos}
theorem zbc {pins:List (Addr × Obj)}{σ:St}{H:Hp}{s:Shared}{Q:VK}{k k':Bool}(I:Inv X pins σ H s) (q:Q (.bl k) H) (e:k=k'):EP X pins σ Q (.bool k') s:=by
 subst e
 exact ⟨.bl k,H,I,rfl,q⟩
theorem zmx:OpR X (compareOp .Eq) rEq:=by
 intro pins s σ H x y v u Q I rx ry h
 obtain ⟨hs,q⟩:=h
 cases x with
 | non =>
  cases rx
  cases y with
  | non=>cases ry;exact PySem.EqNone.eq_none_none (zbc I q (by simp))
  | bl j=>cases ry;exact PySem.EqNone.eq_none_bool (zbc I q (by simp))
  | int j=>obtain ⟨t',rfl⟩:=ry;exact PySem.EqNone.eq_none_int (zbc I q (by simp))
  | str j=>obtain ⟨t',rfl⟩:=ry;exact PySem.EqNone.eq_none_str (zbc I q (by simp))
  | _=>exact absurd (show false=true from hs) Bool.false_ne_true
 | bl i =>
  cases rx
  cases y with
  | non=>cases ry;exact PySem.EqNone.eq_bool_none (zbc I q (by simp))
  | bl j=>cases ry;exact eq_bool (zbc I q zmu)
  | str j=>obtain ⟨t',rfl⟩:=ry;exact PySem.EqMixed.eq_bool_str (zbc I q (by simp))
  | _=>exact absurd (show false=true from hs) Bool.false_ne_true
 | int i =>
  obtain ⟨t,rfl⟩:=rx
  cases y with
  | non=>cases ry;exact PySem.EqNone.eq_int_none (zbc I q (by simp))
  | int j=>obtain ⟨t',rfl⟩:=ry;exact eq_int (zbc I q zmt)
  | str j=>obtain ⟨t',rfl⟩:=ry;exact PySem.EqMixed.eq_int_str (zbc I q (by simp))
  | _=>exact absurd (show false=true from hs) Bool.false_ne_true
 | str i =>
  obtain ⟨t,rfl⟩:=rx
  cases y with
  | non=>cases ry;exact PySem.EqNone.eq_str_none (zbc I q (by simp))
  | bl j=>cases ry;exact PySem.EqMixed.eq_str_bool (zbc I q (by simp))
  | int j=>obtain ⟨t',rfl⟩:=ry;exact PySem.EqMixed.eq_str_int (zbc I q (by simp))
  | str j=>obtain ⟨t',rfl⟩:=ry;exact eq_str (zbc I q zmv)
  | _=>exact absurd (show false=true from hs) Bool.false_ne_true
 | byt i =>
  obtain ⟨t,rfl⟩:=rx
  cases y with
  | byt j=>obtain ⟨t',rfl⟩:=ry;exact PySem.W.eq_bytes (zbc I q zmw)
  | _=>exact absurd (show false=true from hs) Bool.false_ne_true
 | _=>cases y <;> exact absurd (show false=true from hs) Bool.false_ne_true
theorem ztl:OpR X (compareOp .NotEq) rNe:=by
 intro pins s σ H x y v u Q I rx ry h
 obtain ⟨hs,q⟩:=h
 cases x with
 | non =>
  cases rx
  cases y with
  | non=>cases ry;exact PySem.EqNone.ne_none_none (zbc I q (by simp))
  | bl j=>cases ry;exact PySem.EqNone.ne_none_bool (zbc I q (by simp))
  | int j=>obtain ⟨t',rfl⟩:=ry;exact PySem.EqNone.ne_none_int (zbc I q (by simp))
  | str j=>obtain ⟨t',rfl⟩:=ry;exact PySem.EqNone.ne_none_str (zbc I q (by simp))
  | _=>exact absurd (show false=true from hs) Bool.false_ne_true
 | bl i =>
  cases rx
  cases y with
  | non=>cases ry;exact PySem.EqNone.ne_bool_none (zbc I q (by simp))
  | bl j=>cases ry;exact ne_bool (zbc I q (congrArg not zmu))
  | str j=>obtain ⟨t',rfl⟩:=ry;exact PySem.EqMixed.ne_bool_str (zbc I q (by simp))
  | _=>exact absurd (show false=true from hs) Bool.false_ne_true
 | int i =>
  obtain ⟨t,rfl⟩:=rx
  cases y with
  | non=>cases ry;exact PySem.EqNone.ne_int_none (zbc I q (by simp))
  | int j=>obtain ⟨t',rfl⟩:=ry;exact ne_int (zbc I q (congrArg not zmt))
  | str j=>obtain ⟨t',rfl⟩:=ry;exact PySem.EqMixed.ne_int_str (zbc I q (by simp))
  | _=>exact absurd (show false=true from hs) Bool.false_ne_true
 | str i =>
  obtain ⟨t,rfl⟩:=rx
  cases y with
  | non=>cases ry;exact PySem.EqNone.ne_str_none (zbc I q (by simp))
  | bl j=>cases ry;exact PySem.EqMixed.ne_str_bool (zbc I q (by simp))
  | int j=>obtain ⟨t',rfl⟩:=ry;exact PySem.EqMixed.ne_str_int (zbc I q (by simp))
  | str j=>obtain ⟨t',rfl⟩:=ry;exact ne_str (zbc I q (congrArg not zmv))
  | _=>exact absurd (show false=true from hs) Bool.false_ne_true
 | byt i =>
  obtain ⟨t,rfl⟩:=rx
  cases y with
  | byt j=>obtain ⟨t',rfl⟩:=ry;exact PySem.W.ne_bytes (zbc I q (congrArg not zmw))
  | _=>exact absurd (show false=true from hs) Bool.false_ne_true
 | _=>cases y <;> exact absurd (show false=true from hs) Bool.false_ne_true
theorem zmy:OpR X (compareOp .Lt) (rI0 λi j=>.bl (decide (i<j))):=zh6 λ_ _ _ _ _ _ _ q=>lt_int q
theorem ztm:OpR X (compareOp .LtE) (rI0 λi j=>.bl (decide (i<=j))):=zh6 λ_ _ _ _ _ _ _ q=>le_int q
theorem ztn:OpR X (compareOp .Gt) (rI0 λi j=>.bl (decide (j<i))):=zh6 λ_ _ _ _ _ _ _ q=>gt_int q
theorem zto:OpR X (compareOp .GtE) (rI0 λi j=>.bl (decide (j<=i))):=zh6 λ_ _ _ _ _ _ _ q=>ge_int q
theorem ztp:OpR X (compareOp .Is) (λx y H Q=>y=.non/\Q (.bl (decide (x=.non))) H):=by
 intro pins s σ H x y v u Q I rx ry h
 obtain ⟨rfl,q⟩:=h
 cases ry
 refine is_none_gen (zbc I q ?_)
 cases x <;> first
  | (cases rx;rfl)
  | (obtain ⟨t,rfl⟩:=rx;rfl)
theorem OpR.or {f:Value->Value->Sem Value}{r r':R2}(h:OpR X f r) (h':OpR X f r'):OpR X f (λx y H Q=>r x y H Q\/r' x y H Q):=by
 intro pins s σ H x y v u Q I rx ry q
 rcases q with q|q
 ·exact h pins s σ H x y v u Q I rx ry q
 ·exact h' pins s σ H x y v u Q I rx ry q
theorem zdv (b:Expr) {op:CmpOp}(h:op≠.In:=by decide) (h2:op≠.NotIn:=by decide):behindInMarks op b=false:=by
 have e1:(op == CmpOp.In)=false:=by cases op <;> first|rfl|exact absurd rfl h
 have e2:(op == CmpOp.NotIn)=false:=by cases op <;> first|rfl|exact absurd rfl h2
 cases b <;> simp [behindInMarks,e1,e2]
theorem ztq {op:CmpOp}{r:R2}(ho:OpR X (compareOp op) r) (ha:PE X a ta) (hb:PE X b tb) (hm:behindInMarks op b=false):PE X (.Compare a [op] [b] pos) (tOp r ta tb):=by
 intro pins s σ H Q I h
 exact wpAny_Compare1 (zjp ha hb I h λv u s2 x y H2 I2 rx ry q=>ho pins s2 σ H2 x y v u Q I2 rx ry q) hm
def ztr (t:TE):TT:=λσ H Q=>t σ H λx H'=>∃k,x=.bl k/\Q k H'
theorem zts {op:CmpOp}{r:R2}(ho:OpR X (compareOp op) r) (ha:PE X a ta) (hb:PE X b tb) (hm:behindInMarks op b=false):PT X (.Compare a [op] [b] pos) (ztr (tOp r ta tb)):=by
 intro pins s σ H Q I h
 refine wpAny_isTrue_Compare1 (thn (ha pins s σ H _ I h) λv s1 ⟨x,H1,I1,r1,q1⟩=>thn (hb pins s1 σ H1 _ I1 q1) λu s2 ⟨y,H2,I2,r2,q2⟩ =>
  thn (ho pins s2 σ H2 x y v u _ I2 r1 r2 q2) λc s3 ⟨z,H3,I3,r3,k,e,q3⟩=>?_) hm
 subst e
 cases r3
 exact wpAny_truthy_bool ⟨H3,I3,q3⟩
def zmz (r r':R2) (ta tb tc:TE):TE:=λσ H Q=>ta σ H λx H1=>tb σ H1 λy H2=>r x y H2 λz H3=>∃k,z=.bl k /\
 (if k=true then tc σ H3 λw' H4=>r' y w' H4 Q else Q (.bl false) H3)
theorem ztt {op op':CmpOp}{r r':R2}(ho:OpR X (compareOp op) r) (ho':OpR X (compareOp op') r') (ha:PE X a ta) (hb:PE X b tb) (hc:PE X c tc)
  (hm:lastMarks [op,op'] [b,c]=false:=by with_unfolding_all rfl):PE X (.Compare a [op,op'] [b,c] pos) (zmz r r' ta tb tc):=by
 intro pins s σ H Q I h
 refine Compare_chain (thn (ha pins s σ H _ I h) λv s1 ⟨x,H1,I1,r1,q1⟩=>chain_link (thn (hb pins s1 σ H1 _ I1 q1) λu s2 ⟨y,H2,I2,r2,q2⟩ =>
  thn (ho pins s2 σ H2 x y v u _ I2 r1 r2 q2) λd s3 ⟨z,H3,I3,r3,k,e,q3⟩=>?_)) hm
 subst e
 cases r3
 refine wpAny_truthy_bool ?_
 cases k with
 | false=>exact ite_ff ⟨.bl false,H3,I3,rfl,q3⟩
 | true=>exact ite_tt (chain_last (thn (hc pins s3 σ H3 _ I3 q3) λw' s4 ⟨z',H4,I4,r4,q4⟩=>ho' pins s4 σ H4 y z' u w' Q I4 r2 r4 q4))
theorem zgv:(sizeLine:Nat)<2 ^ 63:=by rw [sizeLine_eq];decide
theorem op_add_str:OpR X (binaryOp .Add) (λx y H Q=>∃i j,x=.str i/\y=.str j/\i.length+j.length<=sizeLine/\Q (.str (i++j)) H):=by
 intro pins s σ H x y v u Q I rx ry h
 obtain ⟨i,j,rfl,rfl,hz,q⟩:=h
 obtain ⟨t,rfl⟩:=rx
 obtain ⟨t',rfl⟩:=ry
 exact add_str (λt' tk=>⟨.str (i++j),H,I.tok _,⟨_,rfl⟩,q⟩) hz
theorem zcm {x:V}{us:List Value}(r:Vals [x] us):∃u,us=[u]/\RelV x u:=by
 cases r with
 | cons r1 r2=>cases r2;exact ⟨_,rfl,r1⟩
theorem ztu {x y:V}{us:List Value}(r:Vals [x,y] us):∃u w',us=[u,w']/\RelV x u/\RelV y w':=by
 cases r with
 | cons r1 r2 =>
  cases r2 with
  | cons r3 r4=>cases r4;exact ⟨_,_,rfl,r1,r3⟩
theorem ztv:CallR X (.builtin "abs") (λxs H Q=>∃i,xs=[.int i]/\Q (.int (if i<0 then -i else i)) H):=by
 intro pins s σ H xs us Q I r h
 obtain ⟨i,rfl,q⟩:=h
 obtain ⟨u,rfl,t,rfl⟩:=zcm r
 exact call_abs_int λu tk=>⟨.int (if i<0 then -i else i),H,I.tok _,⟨_,rfl⟩,q⟩
theorem ztw (hc:X.calm=true):CallR X (.builtin "max") (λxs H Q=>∃i j,xs=[.int i,.int j]/\Q (.int (if j > i then j else i)) H):=by
 intro pins s σ H xs us Q I r h
 obtain ⟨i,j,rfl,q⟩:=h
 obtain ⟨u,w',rfl,⟨t,rfl⟩,⟨t',rfl⟩⟩:=ztu r
 refine max_two_ints (I.ok.hd hc) λh' tk k=>⟨_,H,I.kept k,?_,q⟩
 by_cases hj:j > i
 ·rw [if_pos hj,if_pos hj];exact ⟨_,rfl⟩
 ·rw [if_neg hj,if_neg hj];exact ⟨_,rfl⟩
theorem ztx:CallR X (.type "int") (λxs H Q=>(∃i,xs=[.int i]/\Q (.int i) H)\/∃k,xs=[.bl k]/\Q (.int (if k then 1 else 0)) H):=by
 intro pins s σ H xs us Q I r h
 rcases h with ⟨i,rfl,q⟩|⟨k,rfl,q⟩
 ·obtain ⟨u,rfl,t,rfl⟩:=zcm r
  exact call_int_int ⟨.int i,H,I,⟨_,rfl⟩,q⟩
 ·obtain ⟨u,rfl,r1⟩:=zcm r
  cases r1
  exact call_int_bool ⟨.int (if k then 1 else 0),H,I.tok _,⟨_,rfl⟩,q⟩
theorem zty:CallR X (.type "str") (λxs H Q=>∃i,xs=[.int i]/\i.natAbs.log2<1920/\Q (.str (toString i)) H):=by
 intro pins s σ H xs us Q I r h
 obtain ⟨i,rfl,hz,q⟩:=h
 obtain ⟨u,rfl,t,rfl⟩:=zcm r
 exact PySem.P.str_of_int hz ⟨.str _,H,I.tok _,⟨_,rfl⟩,q⟩
end
structure ObjM (h:Heap) (x dx C:Addr) (mA:Str->Option Value):Prop where
 obj:h.get? x=some (PySem.W.instObj C dx)
 ns:h.Ns1 dx mA
 ne:dx≠x
theorem ztz {h:Heap}{dx:Addr}{mA:Str->Option Value}(n:h.Ns1 dx mA):∃od,h.get? dx=some od/\∀name,PySem.W.lookIn name od=some (mA name):=by
 obtain ⟨o,es,ep,ho,hd,hk,_,hm⟩:=n
 refine ⟨o,ho,λname=>?_⟩
 have e:=hm name
 unfold nsFind findBy at e
 rw [<-Array.find?_toList] at e
 unfold PySem.W.lookIn
 rw [hd]
 dsimp only
 split
 ·rename_i y q
  rw [q] at e
  exact congrArg some e
 ·rename_i q
  rw [q] at e
  have a:es.toList.any (·.refKey)=false:=by
   rw [List.any_eq_false]
   intro y hy
   obtain ⟨z,t,hkey⟩:=hk y (Array.mem_toList_iff.mp hy)
   simp [DictEntry.refKey,hkey]
  have a':¬es.toList.any (·.refKey)=true:=by rw [a];exact Bool.false_ne_true
  rw [if_neg a']
  exact congrArg some e
theorem ObjM.look {h:Heap}{x dx C:Addr}{mA:Str->Option Value}(I:ObjM h x dx C mA):∃od,PySem.W.InstAt h x (PySem.W.instObj C dx) C (some od)/\∀name,PySem.W.lookIn name od=some (mA name) :=
 let ⟨od,ho,hl⟩:=ztz I.ns
 ⟨od,⟨I.obj,rfl,rfl,ho⟩,hl⟩
section
variable {prog:Program}{w:World}{A:Around}{E:Value->Shared->Prop}{s:Shared}{K:QFg}{x dx C f:Addr}{mA:Str->Option Value}{name:Str}{v:Value}
end
theorem RelO.some_of {v:V}{o:Option Value}(r:RelO (some v) o):∃u,o=some u/\RelV v u:=by
 cases o with
 | none=>exact (show False from r).elim
 | some u=>exact ⟨u,rfl,r⟩
section
variable {P:Program}{w:World}{H H':Hp}{h h':Heap}{a C dx:Addr}{fs fs':List (Str × V)}
theorem zt0 (hok:HOk P w H h) (e:H a=some (.ins C dx fs)):∃mA,ObjM h a dx C mA/\(∀f,RelO (fs.lookup f) (mA f))/\PySem.Within mA (fs.map (·.1))/\fs.length<=1000/\H dx=some (.own a):=by
 obtain ⟨d,z,ne,ob,mA,n,r,q⟩:=(show ObjOk P w H h a (.ins C dx fs) from hok a _ e)
 exact ⟨mA,⟨ob,n,ne⟩,r,q,z,d⟩
end
structure Cls (K:QFg) (C:Addr):Prop where
 pg:PySem.W.plainGet K C Str.empty=true
 hd:PySem.W.hasDictIn K C=true
 po:PySem.W.plainOver K C=true
 sa:PySem.W.findIn K (.ref C) "__setattr__" = some (some (.builtin "object.__setattr__"))
theorem Cls.get {K:QFg}{C:Addr}(c:Cls K C) (f:Str):PySem.W.plainGet K C f=true:=c.pg
section
variable {X:Cx}{pins:List (Addr × Obj)}{σ:St}{H:Hp}{s:Shared}{a C dx:Addr}{fs:List (Str × V)}{f:Str}{v:V}{A:Around}{E:Value->Shared->Prop}
end
section
variable {X:Cx}{o e value:Expr}{f:Str}{pos pos' tpos:Pos}{ta tv:TE}
end
section
variable {X:Cx}{pins:List (Addr × Obj)}{σ:St}{H:Hp}{s:Shared}{A:Around}{E:Value->Shared->Prop}{Q:Value->Shared->Prop}{c:Value}{b:Bool}
inductive TyOf (K:QFg) (H:Hp):V->Value->Prop where
 | non:TyOf K H .non (.type "NoneType")
 | bl (x:Bool):TyOf K H (.bl x) (.type "bool")
 | int (i:Int):TyOf K H (.int i) (.type "int")
 | str (x:Str):TyOf K H (.str x) (.type "str")
 | flt (x:UInt64):TyOf K H (.flt x) (.type "float")
 | lst {a:Addr} {xs:List V} (e:H a=some (.lst xs)):TyOf K H (.ref a) (.type "list")
 | frz {a:Addr} {o:Obj} {xs:List V} (e:H a=some (.frz o (.lst xs))):TyOf K H (.ref a) (.type "list")
 | tup {a:Addr} {xs:List V} (e:H a=some (.tup xs)):TyOf K H (.ref a) (.type "tuple")
 | dK {a:Addr} {kvs:List (Key × V)} (e:H a=some (.dK kvs)):TyOf K H (.ref a) (.type "dict")
 | dT {a:Addr} {kvs:List (List Key × V)} (e:H a=some (.dT kvs)):TyOf K H (.ref a) (.type "dict")
 | ins {a C dx:Addr} {fs:List (Str × V)} (e:H a=some (.ins C dx fs)) (cl:Cls K C) (ha:PySem.W.findIn K (.ref C) "__class__" = some (some (.builtin "object.__class__")))
   (hn:PySem.W.specialIn K (.builtin "object.__class__") "__get__" = some (some (.builtin "getset_descriptor.__get__"))) (htk:PySem.W.takesIn K (.builtin "object.__class__")=some true)
   (hm:PySem.W.mroIn K C (.type "object")=some true):TyOf K H (.ref a) (.ref C)
theorem zt1 {x:V}{u t:Value}(I:Inv X pins σ H s) (rx:RelV x u) (ty:TyOf X.K H x t) (e:PySem.W.kitOne X.K t c=some b) (h:∀tk,Q (.bool b) { s with toks:=tk }) :
  wpAny (model X.prog X.w) A (call (.builtin "isinstance") [u,c]) Q E s:=by
 cases ty with
 | non=>cases (show u=Value.none from rx);exact PySem.W.kia_one PySem.W.kitx_none I.kIn True.intro e (λz=>nomatch z) h
 | bl y=>cases (show u=Value.bool y from rx);exact PySem.W.kia_one PySem.W.kitx_bool I.kIn True.intro e (λz=>nomatch z) h
 | int i=>obtain ⟨t,q⟩:=(show ∃t,u=Value.int i t from rx);cases q;exact PySem.W.kia_one PySem.W.kitx_int I.kIn True.intro e (λz=>nomatch z) h
 | str y=>obtain ⟨t,q⟩:=(show ∃t,u=Value.str y t from rx);cases q;exact PySem.W.kia_one PySem.W.kitx_str I.kIn True.intro e (λz=>nomatch z) h
 | flt y=>obtain ⟨t,q⟩:=(show ∃t,u=Value.float y t from rx);cases q;exact PySem.W.kia_one PySem.W.kitx_float I.kIn True.intro e (λz=>nomatch z) h
 | @lst a xs ea =>
  cases (show u=Value.ref a from rx)
  obtain ⟨_,_,n,_,h1⟩:=(show ObjOk X.prog X.w H s.heap a (.lst xs) from I.hok a _ ea)
  exact PySem.W.kia_one PySem.W.kitx_list I.kIn ⟨_,h1,rfl⟩ e (λz=>nomatch z) h
 | @frz a ob xs ea =>
  cases (show u=Value.ref a from rx)
  obtain ⟨_,_,_,n,_,h1⟩:=(show ObjOk X.prog X.w H s.heap a (.frz ob (.lst xs)) from I.hok a _ ea)
  exact PySem.W.kia_one PySem.W.kitx_list I.kIn ⟨_,h1,rfl⟩ e (λz=>nomatch z) h
 | @tup a xs ea =>
  cases (show u=Value.ref a from rx)
  obtain ⟨_,_,_,p⟩:=(show ObjOk X.prog X.w H s.heap a (.tup xs) from I.hok a _ ea)
  obtain ⟨o,h1,h2,_⟩:=p
  exact PySem.W.kia_one PySem.W.kitx_tuple I.kIn ⟨o,h1,h2⟩ e (λz=>nomatch z) h
 | @dK a kvs ea =>
  cases (show u=Value.ref a from rx)
  obtain ⟨_,_,vs,_,p⟩:=(show ObjOk X.prog X.w H s.heap a (.dK kvs) from I.hok a _ ea)
  obtain ⟨o,es,ep,h1,h2,_⟩:=p
  exact PySem.W.kia_one PySem.W.kitx_dict I.kIn ⟨o,h1,h2.1⟩ e (λz=>nomatch z) h
 | @dT a kvs ea =>
  cases (show u=Value.ref a from rx)
  obtain ⟨_,_,xs,_,o,es,ep,h1,h2,_⟩:=(show ObjOk X.prog X.w H s.heap a (.dT kvs) from I.hok a _ ea)
  exact PySem.W.kia_one PySem.W.kitx_dict I.kIn ⟨o,h1,h2.1⟩ e (λz=>nomatch z) h
 | @ins a C dx fs ea cl ha hn htk hm =>
  cases (show u=Value.ref a from rx)
  obtain ⟨mA,O,_⟩:=zt0 I.hok ea
  obtain ⟨od,J,_⟩:=O.look
  exact PySem.W.kia_one (PySem.W.kitx_own (cl.get _) cl.hd ha hn htk hm) I.kIn J e (λz=>nomatch z) h
end
structure Room (k:Nat) (A:Around):Prop where
 hd:A.handled=none
 dp:A.depth+3*k+5<recursionLimit
 un:A.units+16*k+200<cLine
 gd:A.guards=some []
theorem Room.mono {j k:Nat}{A:Around}(r:Room k A) (h:j<=k):Room j A:=⟨r.hd,by have:=r.dp;omega,by have:=r.un;omega,r.gd⟩
theorem Room.deeper {k:Nat}{A:Around}(r:Room (k+1) A) (env:Env):Room k (A.deeper env) :=
 ⟨r.hd,by have:=r.dp;show A.depth+1+3*k+5<_;omega,by have:=r.un;show A.units+3+16*k+200<_;omega,r.gd⟩
theorem Room.depth {k:Nat}{A:Around}(r:Room k A):A.depth<recursionLimit:=by have:=r.dp;omega
def zt2:TA:=λ_ H Q=>Q [] H
def zt3 (ta:TE) (tr:TA):TA:=λσ H Q=>ta σ H λx H1=>tr σ H1 λxs H2=>Q (x :: xs) H2
section
variable {X:Cx}{e:Expr}{es:List Expr}{te:TE}{t:TA}{pos:Pos}
theorem zdw:PA X [] zt2:=λ_ _ _ _ H Q I h=>Calls.spliced_nil ⟨[],H,I,.nil,h⟩
theorem zcn (ha:PE X e te) (hr:PA X es t) (hs:starEach (e :: es) X.env=(false,eval e X.env) :: starEach es X.env:=by rfl):PA X (e :: es) (zt3 te t):=by
 intro pos pins s σ H Q I h
 rw [hs]
 show wpAny _ _ (spliced ((false,eval e X.env) :: backTo pos (starEach es X.env))) _ _ s
 refine Calls.spliced_cons (thn (ha pins s σ H _ I h) λu s1 ⟨x,H1,I1,r1,q1⟩=>?_)
 exact thn (hr pos pins s1 σ H1 _ I1 q1) λus s2 ⟨xs,H2,I2,r2,q2⟩=>⟨x :: xs,H2,I2,.cons r1 r2,q2⟩
def zt4 (t:TA):TE:=λσ H Q=>t σ H λxs H1=>xs.length<=sizeLine/\∀p,H1 p=none->Q (.ref p) (upd H1 p (.tup xs))
def zt5 (t:TA):TE:=λσ H Q=>t σ H λxs H1=>xs.length<=sizeLine/\∀p,H1 p=none->Q (.ref p) (upd H1 p (.lst xs))
theorem zm0 {x1}(h:PA X es t):PE X (.Tuple es x1 pos) (zt4 t):=by
 intro pins s σ H Q I hq
 refine wpAny_Tuple_spliced (thn (h pos pins s σ H _ I hq) λus s1 ⟨xs,H1,I1,r,z,q⟩=>⟨by rw [<-r.length];exact z,?_⟩)
 have hf:H1 s1.heap.objs.size=none:=I1.hok.fresh (qlr _)
 refine ⟨.ref s1.heap.objs.size,upd H1 s1.heap.objs.size (.tup xs),I1.laid (t':=s1.toks) (λb u e=>qps _ e) (qlr _) ?_,rfl,q _ hf⟩
 exact ⟨z,us,r,IsTD.new _ _⟩
theorem zt6 (h:PA X es t):PE X (.List es pos) (zt5 t):=by
 intro pins s σ H Q I hq
 refine wpAny_List_spliced (thn (h pos pins s σ H _ I hq) λus s1 ⟨xs,H1,I1,r,z,q⟩=>⟨by rw [<-r.length];exact z,?_⟩)
 have hf:H1 s1.heap.objs.size=none:=I1.hok.fresh (qlr _)
 refine ⟨.ref s1.heap.objs.size,upd H1 s1.heap.objs.size (.lst xs),I1.laid (t':=s1.toks) (λb u e=>qps _ e) (qlr _) ?_,rfl,q _ hf⟩
 exact ⟨z,us,0,r,Heap.get?_push_size _ rfl⟩
end
abbrev Sp:=List V->Hp->VK->XK->Prop
abbrev CXT:=List Env->Hp->Shared->XK->Value->Shared->Prop
structure Env0 (P:Program) (w:World) (K:QFg) (mg:Str->Option Value) (base:Heap) (A:Around) (outer:List Env) (s:Shared) (H:Hp):Prop where
 frames:A.frames=some outer
 mod:Mod K mg base
 bs:∀b o,base.get? b=some o->s.heap.get? b=some o/\H b=none
 bsz:base.objs.size<=s.heap.objs.size
 funs:s.heap.FunFrames base outer
 frf:∀b∈frs outer,H b=none
 hok:HOk P w H s.heap
 bare:AllBare s.gens
def CE (outer:List Env) (P:Program) (w:World) (H:Hp) (s:Shared) (Q:VK) (u:Value) (s':Shared):Prop :=
 ∃v H',s'.os=s.os/\AllBare s'.gens/\Un (frs outer) [] H H' s.heap s'.heap/\HOk P w H' s'.heap/\RelV v u/\Q v H'
def CR (CX:CXT) (outer:List Env) (P:Program) (w:World) (H:Hp) (s:Shared) (Q:VK) (E:XK) (r:Result) (s':Shared):Prop :=
 match r with
 | .ok (.ret u)=>CE outer P w H s Q u s'
 | .ok _=>False
 | .error e=>CX outer H s E e s'
structure FnOk (P:Program) (w:World) (K:QFg) (mg:Str->Option Value) (base:Heap) (CX:CXT) (k:Nat) (f:Addr) (fd:FuncData) (ps:List Str) (sp:Sp):Prop where
 len:∀vs H Q E,sp vs H Q E->vs.length=ps.length
 run:∀(A:Around) (outer:List Env) (s:Shared) (H:Hp) (args:Args) (us:List Value) (vs:List V) (Q:VK) (E:XK),Room k A->Env0 P w K mg base A outer s H->BindsTo s fd args (ps.zip us)->Vals vs us->sp vs H Q E ->
  codeAny (model P w) A (.call (.ref f) args) (CR CX outer P w H s Q E) s
section
variable {X:Cx}{pins:List (Addr × Obj)}{σ:St}{H:Hp}{s s':Shared}
theorem Inv.env0 (I:Inv X pins σ H s):Env0 X.prog X.w X.K X.mg X.base X.A X.stack s H :=
 ⟨I.ok.frames,I.ok.mod,I.bs,Nat.le_trans I.ok.bsz I.sz,I.stack,I.stkFree,I.hok,I.bare⟩
theorem Inv.after {Q:VK}{u:Value}(I:Inv X pins σ H s) (h:CE X.stack X.prog X.w H s Q u s'):EP X pins σ Q u s':=by
 obtain ⟨v,H',os,bare,un,hok,r,q⟩:=h
 obtain ⟨hh,g,d,t,os'⟩:=s'
 obtain rfl:os' = s.os:=os
 exact ⟨v,H',I.call (h':=hh) (g':=g) (d':=d) (t':=t) (ch:=[]) un hok bare (λb z=>absurd z (by simp)),r,q⟩
end
def zt7 (sp:Sp) (dvs:List V) (E:XK) (t:TA):TE:=λσ H Q=>t σ H λvs H1=>sp (vs++dvs) H1 Q E
def Binds (K:QFg) (fd:FuncData) (ps:List Str) (ds:List Value):Prop :=
 ∀(s:Shared) (us:List Value),K.In s.heap->(us++ds).length=ps.length->BindsTo s fd ⟨us,[]⟩ (ps.zip (us++ds))
theorem Binds.all {K:QFg}{fd:FuncData}{ps:List Str}(h:∀us:List Value,us.length=ps.length->bindArgs fd ⟨us,[]⟩=pure (ps.zip us)):Binds K fd ps []:=λs us _ hl=>by
 rw [List.append_nil] at hl ⊢
 exact .of_eq (h us hl)
def zgw (CX:CXT) (X:Cx) (E:XK):Prop:=∀(pins:List (Addr × Obj)) (σ:St) (H:Hp) (s:Shared) (e:Value) (s':Shared),Inv X pins σ H s->CX X.stack H s E e s'->X.xe e s'
section
variable {X:Cx}{CX:CXT}{k:Nat}{f C:Addr}{fd:FuncData}{ps:List Str}{sp:Sp}{dvs:List V}{ds:List Value}{E:XK}{x m:Str}{p pos apos:Pos}{e o:Expr}{es:List Expr}{ta:TE}{t:TA}
theorem zt8 {pins:List (Addr × Obj)}{σ:St}{H:Hp}{s:Shared}{Q:VK}{us:List Value}{vs:List V}(F:FnOk X.prog X.w X.K X.mg X.base CX k f fd ps sp) (hr:Room k X.A) (hb:Binds X.K fd ps ds) (hd:Vals dvs ds) (hx:zgw CX X E)
  (I:Inv X pins σ H s) (r:Vals vs us) (h:sp (vs++dvs) H Q E):wpAny (model X.prog X.w) X.A (call (.ref f) us) (EP X pins σ Q) X.xe s:=by
 have r2:Vals (vs++dvs) (us++ds):=r.append hd
 have hl:(us++ds).length=ps.length:=by rw [<-r2.length];exact F.len _ _ _ _ h
 refine wpAny_call (codeAny_mono (F.run X.A X.stack s H ⟨us,[]⟩ (us++ds) (vs++dvs) Q E hr I.env0 (hb s us I.kIn hl) r2 h) λr s' hq=>?_)
 cases r with
 | error e=>exact hx pins σ H s e s' I hq
 | ok fl =>
  cases fl with
  | ret u=>exact I.after hq
  | next=>exact False.elim hq
  | brk=>exact False.elim hq
  | cont=>exact False.elim hq
theorem zjr (F:FnOk X.prog X.w X.K X.mg X.base CX k f fd ps sp) (hr:Room k X.A) (hg:Gl X x) (hm:X.mg x=some (.ref f)) (hk:PySem.W.keepIn X.K (.ref f)=true) (hb:Binds X.K fd ps ds) (hd:Vals dvs ds) (hx:zgw CX X E)
  (ha:PA X (e :: es) t) (hdb:(x == ("__debug__":Str))=false:=by decide) (he:starEach (e :: es) X.env=(false,eval e X.env) :: starEach es X.env:=by rfl) (hpl:(backTo pos (starEach es X.env)).any (·.1)=false:=by rfl) :
  PE X (.Call (.Name x p) (e :: es) [] pos) (zt7 sp dvs E t):=by
 intro pins s σ H Q I h
 refine wpAny_Call_Name_kw (zgt I hg hm ?_ hdb)
 refine PySem.W.callWith_K (h₀:=X.base) I.ok.mod.kin hk (thn (ha pos pins s σ H _ I h) λus s1 ⟨vs,H1,I1,r,q⟩=>⟨I1.kIn,?_⟩) he hpl
 exact zt8 F hr hb hd hx I1 r q
end
section
variable {X:Cx}{CX:CXT}{k:Nat}{f C:Addr}{fd:FuncData}{ps ks:List Str}{sp:Sp}{E:XK}{x m:Str}{p pos apos kpos:Pos}{e o:Expr}{es:List Expr}{kws:List Keyword}{te ta:TE}{t tk:TA}{nm:Option Str}
variable {g:List Value->List Value->List Value}{gV:List V->List V->List V}
end
structure FnScope (N P:List Str) (sc:Scope):Prop where
 kind:sc.kind=.function
 co:sc.isCoroutine=false
 gen:sc.isGenerator=false
 nd:N.Nodup
 pre:N.take P.length=P
 par:∀x∈P,sc.names.lookup x=some .local\/sc.names.lookup x=some .cell
 nofree:∀y∈sc.names,y.2≠.free
theorem zm1 {kindOf:Str->Option NameKind}{x:Str}:∀{binds:List (Str × Value)}{m:Str->Option Value},(∀v,(x,v) ∉ binds)->bindL kindOf binds m x=m x
 | [],_,_=>rfl
 | (n,v) :: r,m,h=>by
  unfold bindL
  rw [zm1 λw hw=>h w (List.mem_cons_of_mem _ hw)]
  split
  ·have:x≠n:=by rintro rfl;exact h v List.mem_cons_self
   simp [this]
  ·rfl
theorem zm2 {kindOf:Str->Option NameKind}{x:Str}:∀{binds:List (Str × Value)}{m:Str->Option Value},(∀v,(x,v) ∉ binds)->bindC kindOf binds m x=m x
 | [],_,_=>rfl
 | (n,v) :: r,m,h=>by
  unfold bindC
  rw [zm2 λw hw=>h w (List.mem_cons_of_mem _ hw)]
  split
  ·rfl
  ·have:x≠n:=by rintro rfl;exact h v List.mem_cons_self
   simp [this]
theorem zm3 {kindOf:Str->Option NameKind}{x:Str}{v:Value}:∀{P:List Str}{vs:List Value}{i:Nat}{m:Str->Option Value},P.Nodup->P[i]? = some x->vs[i]? = some v->kindOf x=some .local ->
  bindL kindOf (P.zip vs) m x=some v
 | [],_,_,_,_,h,_,_=>by simp at h
 | _ :: _,[],_,_,_,_,h,_=>by simp at h
 | p :: P,w :: vs,0,m,nd,h1,h2,hk=>by
  simp at h1 h2;subst h1;subst h2
  show bindL kindOf ((p,w) :: P.zip vs) m p=_
  unfold bindL
  rw [zm1 λv hv=>(List.nodup_cons.mp nd).1 (List.of_mem_zip hv).1,if_pos hk]
  simp
 | p :: P,w :: vs,i+1,m,nd,h1,h2,hk=>by
  show bindL kindOf ((p,w) :: P.zip vs) m x=_
  unfold bindL
  exact zm3 (i:=i) (List.nodup_cons.mp nd).2 (by simpa using h1) (by simpa using h2) hk
theorem zm4 {kindOf:Str->Option NameKind}{x:Str}{v:Value}:∀{P:List Str}{vs:List Value}{i:Nat}{m:Str->Option Value},P.Nodup->P[i]? = some x->vs[i]? = some v->kindOf x≠some .local ->
  bindC kindOf (P.zip vs) m x=some v
 | [],_,_,_,_,h,_,_=>by simp at h
 | _ :: _,[],_,_,_,_,h,_=>by simp at h
 | p :: P,w :: vs,0,m,nd,h1,h2,hk=>by
  simp at h1 h2;subst h1;subst h2
  show bindC kindOf ((p,w) :: P.zip vs) m p=_
  unfold bindC
  rw [zm2 λv hv=>(List.nodup_cons.mp nd).1 (List.of_mem_zip hv).1,if_neg hk]
  simp
 | p :: P,w :: vs,i+1,m,nd,h1,h2,hk=>by
  show bindC kindOf ((p,w) :: P.zip vs) m x=_
  unfold bindC
  exact zm4 (i:=i) (List.nodup_cons.mp nd).2 (by simpa using h1) (by simpa using h2) hk
noncomputable def start (N:List Str) (vs:List V):St:=vs.map some++List.replicate (N.length-vs.length) none
noncomputable def zbh (CX:CXT) (P:Program) (w:World) (K:QFg) (mg:Str->Option Value) (base:Heap) (N:List Str) (qual:Str) (scope:Scope) (f:Addr) (cd:Value) (A:Around) (outer:List Env) (s:Shared) (H:Hp) (E:XK):Cx where
 prog:=P
 w:=w
 K:=K
 mg:=mg
 base:=base
 A:=A.deeper (envOfC qual scope s.heap.objs.size f cd)
 N:=N
 s₀:=s
 H₀:=H
 env:=envOfC qual scope s.heap.objs.size f cd
 outer:=outer
 stack:=envOfC qual scope s.heap.objs.size f cd :: outer
 ex:=[]
 calm:=true
 fn:=λ_=>true
 pn:=[]
 xe:=λe s'=>wpAny (model P w) (A.deeper (envOfC qual scope s.heap.objs.size f cd)) (leaving (envOfC qual scope s.heap.objs.size f cd) e) (λ_ s''=>CX outer H s E e s'') (λe' s''=>CX outer H s E e' s'') s'
theorem zm5 {sc:Scope}{n:Nat}{x:Str}(h:sc.names.lookup x=some .cell):∃c,(cellsFrom n sc.names []).lookup x=some c:=by
 have q:=PySem.W.cellsFrom_some sc.names n [] (.inl h)
 exact Option.isSome_iff_exists.mp q
theorem zt9 {CX:CXT}{P:Program}{w:World}{K:QFg}{mg:Str->Option Value}{base:Heap}{N ps:List Str}{qual:Str}{scope:Scope}{f:Addr}{cd:Value}{A:Around}{outer:List Env}{s s1:Shared}{H:Hp}{E:XK}{us:List Value}{vs:List V}
  (S:FnScope N ps scope) (hd:A.handled=none) (e0:Env0 P w K mg base A outer s H) (hl:vs.length=ps.length) (r:Vals vs us)
  (x:InCallC s s.heap.objs.size (bindL (envOfC qual scope s.heap.objs.size f cd).kindOf (ps.zip us) λ_=>none) (cellsFrom (s.heap.objs.size+1) scope.names []) (bindC (envOfC qual scope s.heap.objs.size f cd).kindOf (ps.zip us) λ_=>none) s1) :
  Inv (zbh CX P w K mg base N qual scope f cd A outer s H E) [] (start N vs) H s1:=by
 have hpl:ps.length<=N.length:=by have:=congrArg List.length S.pre;rw [List.length_take] at this;omega
 obtain ⟨h1,tk,rfl,hk⟩:=x.done
 have noA:∀b:Addr,b ∉ (zbh CX P w K mg base N qual scope f cd A outer s H E).ex:=λb z=>absurd (show b∈([]:List Addr) from z) (by simp)
 refine ⟨⟨e0.mod,S.kind,rfl,rfl,qlr _,λy z c h1 h2=>?_,λy hy=>?_,λy c _ h=>?_,λ_=>hd,Around.frames_deeper e0.frames,.inr ⟨rfl,rfl⟩,λb z=>absurd z (noA b),e0.bs,e0.bsz,λb _ _=>noA b,λb z=>absurd z (noA b),e0.funs,e0.frf⟩,
  rfl,e0.bare,Un.kept hk,⟨_,x.toInCall.ns,λi y v h1 h2 h3=>?_⟩,λy c h=>⟨_,x.cell y c h⟩,e0.hok.fresh (qlr _),λy c h=>?_,λp hp=>absurd (show p∈([]:List (Addr × Obj)) from hp) (by simp),e0.hok.kept hk,?_⟩
 ·exact name_of_addr x.apart (PySem.mem_of_lookup h1) (PySem.mem_of_lookup h2)
 ·have hy:scope.names.lookup y=some .cell\/scope.names.lookup y=some .free:=hy
  rcases hy with hy|hy
  ·exact zm5 hy
  ·exact absurd rfl (S.nofree _ (PySem.mem_of_lookup hy))
 ·exact Nat.le_of_lt (x.above y c (PySem.mem_of_lookup h))
 ·have hi:i<vs.length:=by
   unfold start at h2
   by_cases hi:i<vs.length
   ·exact hi
   ·rw [List.getElem?_append_right (by simpa using hi)] at h2
    rw [List.getElem?_replicate] at h2
    split at h2 <;> cases h2
  have ha:vs[i]? = some v:=by
   unfold start at h2
   rw [List.getElem?_append_left (by simpa using hi),qgm] at h2
   cases e:vs[i]? with
   | none=>rw [e] at h2;cases h2
   | some a=>rw [e] at h2;cases h2;rfl
  obtain ⟨u,hu,rv⟩:=r.get ha
  have hp:ps[i]? = some y:=by
   rw [<-S.pre,List.getElem?_take_of_lt (by omega)];exact h1
  have ndP:ps.Nodup:=by rw [<-S.pre];exact S.nd.sublist (List.take_sublist _ _)
  refine ⟨u,rv,?_⟩
  rcases S.par y (qmg hp) with k|k
  ·exact .inl ⟨k,zm3 ndP hp hu k⟩
  ·obtain ⟨c,e⟩:=zm5 (n:=s.heap.objs.size+1) k
   refine .inr ⟨.inl k,c,e,?_⟩
   have q:=x.cell y c e
   rw [zm4 ndP hp hu (by show scope.names.lookup y≠_;rw [k];decide)] at q
   exact q
 ·exact e0.hok.fresh (Nat.le_of_lt (x.above y c (PySem.mem_of_lookup h)))
 ·unfold start
  show _=N.length
  rw [qla,qlm,List.length_replicate]
  omega
theorem zjs {CX:CXT}{P:Program}{w:World}{K:QFg}{mg:Str->Option Value}{base:Heap}{k:Nat}{f:Addr}{name qual:Str}{params:Arguments}{body:List Stmt}{scope:Scope}{dV kV doc pm cdv ct oc:Value}{an od:Option Addr}
  {osl:Array (Option Value)} {N ps:List Str} {sp:Sp} (lk:K.lookup f=some ⟨oc,od,.func (PySem.W.fnOf name qual params body scope dV kV doc pm an cdv ct),osl⟩) (hcd:PySem.W.codeIn K cdv qual=true) (S:FnScope N ps scope)
  (len:∀vs H Q E,sp vs H Q E->vs.length=ps.length)
  (hbody:∀(A:Around) (outer:List Env) (s:Shared) (H:Hp) (vs:List V) (Q:VK) (E:XK),Room k (A.deeper (envOfC qual scope s.heap.objs.size f cdv))->sp vs H Q E ->
   ∃t,PSs (zbh CX P w K mg base N qual scope f cdv A outer s H E) body t/\t { nx:=λ_ H'=>Q .non H',rt:=Q } (start N vs) H) :
  FnOk P w K mg base CX (k+1) f (PySem.W.fnOf name qual params body scope dV kV doc pm an cdv ct) ps sp:=by
 refine ⟨len,λA outer s H args us vs Q E hr e0 hb r hsp=>?_⟩
 have hl:=len _ _ _ _ hsp
 have KX:K.In s.heap:=e0.mod.kin.keeps λb o e=>(e0.bs b o e).1
 have lim:s.heap.NoLimit:=e0.mod.nolimit.keeps λb o e=>(e0.bs b o e).1
 have hkind:∀y∈ps.zip us,scope.names.lookup y.1=some .local\/(scope.names.lookup y.1=some .cell/\((cellsFrom (s.heap.objs.size+1) scope.names []).lookup y.1).isSome=true):=λhx2_ hy=>by
  obtain ⟨n,v⟩:=hx2_
  rcases S.par n (List.of_mem_zip hy).1 with q|q
  ·exact .inl q
  ·exact .inr ⟨q,PySem.W.cellsFrom_some _ _ _ (.inl q)⟩
 refine codeAny_call_function hr.depth (KX _ _ lk) rfl S.co S.gen rfl (PySem.W.codeRec_of KX hcd) (hb _ _ _ _ ?_)
 refine wpAny_newFunctionEnv_cells S.kind hkind λenv he s1 x=>?_
 subst he
 refine ⟨lim.keeps x.toInCall.keep,codeAny_func ?_⟩
 obtain ⟨t,ht,hq⟩:=hbody A outer s H vs Q E (hr.deeper _) hsp
 have I:Inv (zbh CX P w K mg base N qual scope f cdv A outer s H E) [] (start N vs) H s1:=zt9 S hr.hd e0 hl r x
 refine wpAny_mono (ht [] s1 (start N vs) H _ I hq) (λfl s' hs=>?_) λe s' hs=>hs
 have fin:∀{σ':St} {H':Hp} {v:V} {u:Value},Inv (zbh CX P w K mg base N qual scope f cdv A outer s H E) [] σ' H' s'->RelV v u->Q v H'->CE outer P w H s Q u s' :=
  λ{σ' H' v u} J rv q=>⟨v,H',J.os,J.bare,J.base,J.hok,rv,q⟩
 cases fl with
 | ret u =>
  obtain ⟨v,σ',H',J,rv,q⟩:=hs
  exact fin J rv q
 | next =>
  obtain ⟨σ',H',J,q⟩:=hs
  exact fin (v:=V.non) (u:=Value.none) J rfl q
 | brk =>
  obtain ⟨_,_,_,q⟩:=hs
  exact False.elim q
 | cont =>
  obtain ⟨_,_,_,q⟩:=hs
  exact False.elim q
section
variable {X:Cx}{x:Str}{p pos:Pos}{e:Expr}{es:List Expr}{t:TA}{id T:String}{r:List V->Hp->VK->Prop}
def tCB (r:List V->Hp->VK->Prop) (t:TA):TE:=λσ H Q=>t σ H λvs H1=>r vs H1 Q
theorem zgx (hc:CallR X (.builtin id) r) (hg:Gl X x) (hm:X.mg x=none) (hv:bootBuiltins x=some (.builtin id)) (ha:PA X (e :: es) t) (hn:x≠"__name__":=by decide) (hdb:(x == ("__debug__":Str))=false:=by decide)
  (he:starEach (e :: es) X.env=(false,eval e X.env) :: starEach es X.env:=by rfl) (hpl:(backTo pos (starEach es X.env)).any (·.1)=false:=by rfl):PE X (.Call (.Name x p) (e :: es) [] pos) (tCB r t):=by
 intro pins s σ H Q I h
 refine wpAny_Call_Name_kw (zh4 I hg hm hv ?_ hn hdb)
 exact PyProof.Rows.callWith_builtin1 (thn (ha pos pins s σ H _ I h) λus s1 ⟨vs,H1,I1,r1,q1⟩=>hc pins s1 σ H1 vs us Q I1 r1 q1) he hpl
theorem zgy (hc:CallR X (.type T) r) (hg:Gl X x) (hm:X.mg x=none) (hv:bootBuiltins x=some (.type T)) (ha:PA X (e :: es) t) (hn:x≠"__name__":=by decide) (hdb:(x == ("__debug__":Str))=false:=by decide)
  (he:starEach (e :: es) X.env=(false,eval e X.env) :: starEach es X.env:=by rfl) (hpl:(backTo pos (starEach es X.env)).any (·.1)=false:=by rfl):PE X (.Call (.Name x p) (e :: es) [] pos) (tCB r t):=by
 intro pins s σ H Q I h
 refine wpAny_Call_Name_kw (zh4 I hg hm hv ?_ hn hdb)
 exact PyProof.Rows.callWith_type1 (thn (ha pos pins s σ H _ I h) λus s1 ⟨vs,H1,I1,r1,q1⟩=>hc pins s1 σ H1 vs us Q I1 r1 q1) he hpl
end
end L2
namespace HT
open PySem PyProof.Rows
section
open PySem.SeqAt
open PySem.AutoSeq1 (wpAny_loadPart')
open PySem.MeetsSeq PySem.MeetsSeq2 PySem.MeetsSeq3
end
section
variable {prog:Program}{w:World}{A:Around}{E:Value->Shared->Prop}{s:Shared}
theorem cat_tup {t b:Addr}{vs ws:List Value}{Q:Value->Shared->Prop}(ht:IsTup s.heap t vs.toArray) (hb:IsTup s.heap b ws.toArray) (hv:vs≠[])
  (h1:ws=[]->Q (.ref t) s) (h2:ws≠[]->Q (.ref s.heap.objs.size) { s with heap:=s.heap.push { cls:=.type "tuple",data:=.seq (vs++ws).toArray } })
  (hsz:vs.length+ws.length<=sizeLine):wpAny (model prog w) A (binaryOp .Add (.ref t) (.ref b)) Q E s:=by
 obtain ⟨⟨cls,dd,data,sl⟩,ho,hc,n,hd⟩:=id ht
 obtain ⟨⟨cls2,dd2,data2,sl2⟩,ho2,hc2,n2,hd2⟩:=id hb
 simp only at hc hd hc2 hd2
 subst hc hd hc2 hd2
 have e:vs.toArray++ws.toArray=(vs++ws).toArray:=by simp
 by_cases hw:ws=[]
 ·exact concat_meets ⟨_,ho,rfl⟩ ⟨_,ho2,rfl⟩ noFill_tuple_add seq_tuple_add PySem.F.slot_tuple_add PySem.F.entry_tuple_add (PySem.F.args_tuple_add_2 _ _)
   (tuple_addW1 t b vs.toArray ws.toArray n n2 dd dd2 sl sl2 (by simpa using hv) (by simp [hw])) ⟨ho,ho2,h1 hw⟩
 ·refine concat_meets ⟨_,ho,rfl⟩ ⟨_,ho2,rfl⟩ noFill_tuple_add seq_tuple_add PySem.F.slot_tuple_add PySem.F.entry_tuple_add (PySem.F.args_tuple_add_2 _ _)
   (tuple_addW2 t b vs.toArray ws.toArray n n2 dd dd2 sl sl2 (by simpa using hv) (by simpa using hw) (by rw [List.size_toArray,List.size_toArray];exact hsz)) ⟨ho,ho2,?_⟩
  rw [e]
  exact h2 hw
noncomputable def sIx (n d:Nat):Option Int->Nat
 | none=>d
 | some v=>if v<0 then (v+(n:Int)).toNat else min v.toNat n
theorem zua (n d:Nat) (hd:d<=n) (o:Option Int):sIx n d o<=n:=by
 cases o with
 | none=>exact hd
 | some v =>
  show (if v<0 then (v+(n:Int)).toNat else min v.toNat n)<=n
  by_cases hv:v<0
  ·rw [if_pos hv];omega
  ·rw [if_neg hv];exact Nat.min_le_right _ _
theorem zm6 (v:Int) (n d:Nat):(if v<0 then max (v+(n:Int)) 0 else min v (n:Int))=((sIx n d (some v):Nat):Int):=by
 show (if v<0 then max (v+(n:Int)) 0 else min v (n:Int))=(((if v<0 then (v+(n:Int)).toNat else min v.toNat n):Nat):Int)
 by_cases hv:v<0
 ·simp only [if_pos hv];omega
 ·simp only [if_neg hv];omega
theorem zub (lo hi:Option Int) (n:Nat):Builtin.Slice.sliceAdjust lo hi 1 (n:Int)=(((sIx n 0 lo:Nat):Int),((sIx n n hi:Nat):Int)):=by
 have h1:¬((1:Int)<0):=by omega
 unfold Builtin.Slice.sliceAdjust
 simp only [h1,if_false]
 refine Prod.ext ?_ ?_
 ·cases lo with
  | none=>rfl
  | some v=>exact zm6 v n 0
 ·cases hi with
  | none=>rfl
  | some v=>exact zm6 v n n
theorem zuc (i j:Nat):Builtin.Slice.slicePlaces (i:Int) (j:Int) 1=j-i:=by
 unfold Builtin.Slice.slicePlaces
 have h1:(1:Int) > 0:=by omega
 simp only [h1,if_true,Int.ediv_one]
 split <;> omega
theorem zm7 {v:Value}{o:Option Int}{Q:Option Int->Shared->Prop}(p:IsPart v o) (h:Q o s):wpAny (model prog w) A (Builtin.Slice.slicePartIndex v) Q E s:=by
 cases p with
 | none=>exact slicePart_none h
 | int i t=>exact slicePart_int h
theorem zm8 {sl:Addr}{vl vu:Value}{lo hi:Option Int}{n:Nat}{Q:Int × Int × Nat->Shared->Prop}(hs:s.heap.IsSliceOf sl vl vu .none) (pl:IsPart vl lo) (pu:IsPart vu hi)
  (h:Q (((sIx n 0 lo:Nat):Int),1,sIx n n hi-sIx n 0 lo) s):wpAny (model prog w) A (Builtin.Slice.sliceApplied (.ref sl) (pure (n:Int))) Q E s:=by
 obtain ⟨os,hos,hcs,hds⟩:=id hs
 unfold Builtin.Slice.sliceApplied Builtin.Slice.sliceFields
 refine qwb (qwb (wpAny_field hos hds (x:=vl) rfl (qwb (wpAny_field hos hds (x:=vu) rfl (qwb (wpAny_field hos hds (x:=.none) rfl (qwp ?_)))))))
 refine qwb (slicePart_none ?_)
 show wpAny _ _ (if ((1:Int) == 0)=true then _ else _) _ _ s
 rw [if_neg (by decide)]
 refine qwb (zm7 pl (qwb (zm7 pu (qwb (qwp ?_)))))
 show wpAny _ _ (match Builtin.Slice.sliceAdjust lo hi 1 (n:Int) with|(lo,hi)=>pure (lo,(1:Int),Builtin.Slice.slicePlaces lo hi 1)) _ _ s
 rw [zub lo hi n]
 show wpAny _ _ (pure (((sIx n 0 lo:Nat):Int),(1:Int),Builtin.Slice.slicePlaces ((sIx n 0 lo:Nat):Int) ((sIx n n hi:Nat):Int) 1)) _ _ s
 rw [zuc]
 exact qwp h
theorem zud (xs:Array Value) (i k:Nat):((List.range k).filterMap λ(m:Nat)=>xs[((i:Int)+(m:Int)*1).toNat]?).toArray=((xs.toList.drop i).take k).toArray:=by
 have e:(λ(m:Nat)=>xs[((i:Int)+(m:Int)*1).toNat]?)=λm=>xs[i+m]?:=by
  funext m
  have:((i:Int)+(m:Int)*1).toNat=i+m:=by omega
  rw [this]
 rw [e]
 have:=pick_run xs i k
 rw [List.filterMap_map] at this
 have e2:((λx=>xs[x]?) ∘ λx=>i+x)=λm=>xs[i+m]?:=rfl
 rw [e2] at this
 rw [this]
theorem getItem_tuple_cut {t sl:Addr}{items:Array Value}{vl vu:Value}{lo hi:Option Int}{Q:Value->Shared->Prop}(ht:IsTup s.heap t items) (hs:s.heap.IsSliceOf sl vl vu .none) (pl:IsPart vl lo) (pu:IsPart vu hi)
  (hw:¬(sIx items.size 0 lo=0/\sIx items.size items.size hi=items.size))
  (h:Q (.ref s.heap.objs.size) { s with heap:=s.heap.push { cls:=.type "tuple",data:=.seq ((items.toList.drop (sIx items.size 0 lo)).take (sIx items.size items.size hi-sIx items.size 0 lo)).toArray } })
  (hsz:items.size<=sizeLine):wpAny (model prog w) A (getItem (.ref t) (.ref sl)) Q E s:=by
 have htake:sizeOk (.seq ((items.toList.drop (sIx items.size 0 lo)).take (sIx items.size items.size hi-sIx items.size 0 lo)).toArray):=by
  show ((items.toList.drop (sIx items.size 0 lo)).take (sIx items.size items.size hi-sIx items.size 0 lo)).toArray.size<=sizeLine
  rw [List.size_toArray,List.length_take,List.length_drop,Array.length_toList]
  omega
 have hj:sIx items.size items.size hi<=items.size:=zua _ _ (qlr _) hi
 obtain ⟨os,hos,hcs,hds⟩:=id hs
 have hTs:s.TypeIs (.ref sl) "slice":=⟨os,hos,hcs⟩
 unfold getItem
 try with_reducible refine wpAny_holding ?_
 first|refine qwb (qwp ?_)|skip
 refine qwb (wpAny_sequenceKey ht.typeIs (by decide) ?_)
 refine qwb (wpAny_callSpecial?_slot (name:=Str.ofString "__getitem__") ht.typeIs PyProof.Rows.slot_tuple_getitem
  (wpAny_call_entry PyProof.Rows.slot_tuple_getitem ht.typeIs entry_tuple_getitem ?_ (args_tuple_getitem _ _)))
 show wpAny _ _ (Builtin.Tuple.tupleItemsOf (.ref t) >>= _) _ _ s
 refine qwb (tupleItemsOf_ ht ?_)
 refine qwb (wpAny_typeOf hTs ?_)
 rw [if_pos (by decide)]
 refine qwb (zm8 hs pl pu ?_)
 have hno:¬((((sIx items.size 0 lo:Nat):Int) == 0 && (1:Int) == 1 && (sIx items.size items.size hi-sIx items.size 0 lo) == items.size)=true):=by
  intro q
  rw [Bool.and_eq_true,Bool.and_eq_true] at q
  have q1:((sIx items.size 0 lo:Nat):Int)=0:=eq_of_beq q.1.1
  have q2:sIx items.size items.size hi-sIx items.size 0 lo=items.size:=eq_of_beq q.2
  exact hw ⟨by omega,by omega⟩
 show wpAny _ _ (if (((sIx items.size 0 lo:Nat):Int) == 0 && (1:Int) == 1 && (sIx items.size items.size hi-sIx items.size 0 lo) == items.size)=true then _ else _) _ _ s
 rw [if_neg hno,zud]
 first
  | exact qwb (m:=Builtin.Tuple.tupleExact _) (wpAny_newObj_type (qwp ⟨_,rfl,qwp h⟩) htake)
  | exact qwb (m:=Builtin.Tuple.tupleExact _) (wpAny_newObj_type (qwb (qwp (qwp ⟨_,rfl,qwp h⟩))) htake)
  | exact qwb (qwb (m:=Builtin.Tuple.tupleExact _) (wpAny_newObj_type (qwp (qwp ⟨_,rfl,qwp h⟩)) htake))
  | exact qwb (qwb (m:=Builtin.Tuple.tupleExact _) (wpAny_newObj_type (qwp ⟨_,rfl,qwp h⟩) htake))
end
end HT
namespace L2
open PySem PySem.Spec PyProof.Rows
abbrev TO:=St->Hp->(Option Int->Hp->Prop)->Prop
def PO (X:Cx) (e:Option Expr) (t:TO):Prop :=
 ∀(pins:List (Addr × Obj)) (s:Shared) (σ:St) (H:Hp) (Q:Option Int->Hp->Prop),Inv X pins σ H s->t σ H Q ->
  wpAny (model X.prog X.w) X.A (evalPart e X.env) (λu s'=>∃o H',Inv X pins σ H' s'/\IsPart u o/\Q o H') X.xe s
def zue:TO:=λ_ H Q=>Q none H
def zuf (t:TE):TO:=λσ H Q=>t σ H λx H1=>∃i,x=.int i/\Q (some i) H1
section
variable {X:Cx}{e:Expr}{te:TE}{lo hi:Option Expr}{tl th:TO}{pos p2:Pos}
theorem zug:PO X none zue:=by
 intro pins s σ H Q I h
 rw [evalPart_none]
 exact qwp ⟨none,H,I,.none,h⟩
theorem zuh (h:PE X e te):PO X (some e) (zuf te):=by
 intro pins s σ H Q I hw
 rw [evalPart_some]
 refine thn (h pins s σ H _ I hw) λu s1 ⟨x,H1,I1,r1,q1⟩=>?_
 obtain ⟨i,rfl,q⟩:=q1
 obtain ⟨t,rfl⟩:=r1
 exact ⟨some i,H1,I1,.int i t,q⟩
def SlR (X:Cx) (r:V->Option Int->Option Int->Hp->VK->Prop):Prop :=
 ∀(pins:List (Addr × Obj)) (s:Shared) (σ:St) (H:Hp) (x:V) (v vl vu:Value) (lo hi:Option Int) (sl:Addr) (Q:VK),Inv X pins σ H s->RelV x v->s.heap.IsSliceOf sl vl vu .none->IsPart vl lo->IsPart vu hi->r x lo hi H Q ->
  ∃T id,typeLookup (.type T) "__getitem__" = pure (some (.builtin id))/\s.TypeIs v T/\wpAny (model X.prog X.w) X.A (getItem v (.ref sl)) (EP X pins σ Q) X.xe s
theorem SlR.or {r r':V->Option Int->Option Int->Hp->VK->Prop}(h:SlR X r) (h':SlR X r'):SlR X (λx lo hi H Q=>r x lo hi H Q\/r' x lo hi H Q):=by
 intro pins s σ H x v vl vu lo hi sl Q I rx hs pl pu q
 rcases q with q|q
 ·exact h pins s σ H x v vl vu lo hi sl Q I rx hs pl pu q
 ·exact h' pins s σ H x v vl vu lo hi sl Q I rx hs pl pu q
def tSl (r:V->Option Int->Option Int->Hp->VK->Prop) (te:TE) (tl th:TO):TE:=λσ H Q=>te σ H λx H1=>tl σ H1 λl H2=>th σ H2 λu H3=>r x l u H3 Q
theorem zui {r:V->Option Int->Option Int->Hp->VK->Prop}(hr:SlR X r) (he:PE X e te) (hl:PO X lo tl) (hu:PO X hi th):PE X (.Subscript e (.Slice lo hi none p2) pos) (tSl r te tl th):=by
 intro pins s σ H Q I h
 refine Subscript_ (thn (he pins s σ H _ I h) λv s1 ⟨x,H1,I1,r1,q1⟩=>?_)
 refine wpAny_Slice (thn (hl pins s1 σ H1 _ I1 q1) λvl s2 ⟨l,H2,I2,pl,q2⟩=>thn (hu pins s2 σ H2 _ I2 q2) λvu s3 ⟨u,H3,I3,pu,q3⟩=>?_)
 rw [evalPart_none]
 refine qwp ?_
 have I4:Inv X pins σ H3 { s3 with heap:=s3.heap.push { cls:=.type "slice",data:=.fields #[vl,vu,.none] } }:=I3.kept (t':=s3.toks) λb ob q=>qps _ q
 obtain ⟨T,id,hT,ht,hg⟩:=hr pins { s3 with heap:=s3.heap.push { cls:=.type "slice",data:=.fields #[vl,vu,.none] } } σ H3 x v vl vu l u s3.heap.objs.size Q I4 r1 (Heap.IsSliceOf.new ..) pl pu q3
 show wpAny (model X.prog X.w) X.A (subscriptTail e (.Slice lo hi none p2) v (.ref s3.heap.objs.size)) (EP X pins σ Q) X.xe { s3 with heap:=s3.heap.push { cls:=.type "slice",data:=.fields #[vl,vu,.none] } }
 exact tail_any (ops:=[.ref s3.heap.objs.size,v]) ht hT hg (by with_unfolding_all rfl)
noncomputable def zdk (xs:List V) (lo hi:Option Int):List V:=(xs.drop (HT.sIx xs.length 0 lo)).take (HT.sIx xs.length xs.length hi-HT.sIx xs.length 0 lo)
theorem zm9 (xs:List V) (lo hi:Option Int):(zdk xs lo hi).length<=xs.length:=by
 unfold zdk
 rw [List.length_take,List.length_drop]
 omega
def zuj (K:QFg):V->Option Int->Option Int->Hp->VK->Prop:=λx lo hi H Q=>∃a xs,x=.ref a/\SqT K H a xs /\
 ¬(HT.sIx xs.length 0 lo=0/\HT.sIx xs.length xs.length hi=xs.length)/\∀p,H p=none->Q (.ref p) (upd H p (.tup (zdk xs lo hi)))
theorem sl_tup:SlR X (zuj X.K):=by
 intro pins s σ H x v vl vu lo hi sl Q I rx hs pl pu h
 obtain ⟨a,xs,rfl,hx,hw,q⟩:=h
 cases rx
 obtain ⟨its,r,ht,hz⟩:=I.tuple hx
 have hlen:its.toArray.size=xs.length:=by rw [List.size_toArray];exact r.length.symm
 refine ⟨"tuple",_,PyProof.Rows.slot_tuple_getitem.lookup,ht.typeIs,?_⟩
 refine HT.getItem_tuple_cut ht hs pl pu (by rw [hlen];exact hw) ?_ (by rw [hlen];exact hz)
 rw [hlen]
 refine ⟨.ref s.heap.objs.size,_,I.laid (t':=s.toks) (o:=.tup (zdk xs lo hi)) (λb ob q=>qps _ q) (qlr _) ?_,rfl,q _ (I.hok.fresh (qlr _))⟩
 exact ⟨Nat.le_trans (zm9 xs lo hi) hz,_,(r.drop (HT.sIx xs.length 0 lo)).take (HT.sIx xs.length xs.length hi-HT.sIx xs.length 0 lo),IsTD.new _ _⟩
def zjt (K:QFg):R2:=λx y H Q=>∃a b xs ys,x=.ref a/\y=.ref b/\SqT K H a xs/\SqT K H b ys/\xs≠[]/\xs.length+ys.length<=sizeLine /\
 (ys=[]->Q (.ref a) H)/\(ys≠[]->∀p,H p=none->Q (.ref p) (upd H p (.tup (xs++ys))))
theorem Vals.nil_iff {xs:List V}{us:List Value}(r:Vals xs us):us=[]↔xs=[]:=by
 cases r with
 | nil=>simp
 | cons _ _=>simp
theorem op_catT:OpR X (binaryOp .Add) (zjt X.K):=by
 intro pins s σ H x y v u Q I rx ry h
 obtain ⟨a,b,xs,ys,rfl,rfl,ha,hb,hx,hz,q1,q2⟩:=h
 cases rx
 cases ry
 obtain ⟨its,r1,p1,_⟩:=I.tuple ha
 obtain ⟨its2,r2,p2,_⟩:=I.tuple hb
 refine HT.cat_tup p1 p2 (λz=>hx (r1.nil_iff.mp z)) (λz=>⟨.ref a,H,I,rfl,q1 (r2.nil_iff.mp z)⟩) (λz=>?_) (by rw [<-r1.length,<-r2.length];exact hz)
 refine ⟨.ref s.heap.objs.size,_,I.laid (t':=s.toks) (o:=.tup (xs++ys)) (λb ob q=>qps _ q) (qlr _) ?_,rfl,q2 (λw=>z (r2.nil_iff.mpr w)) _ (I.hok.fresh (qlr _))⟩
 exact ⟨by rw [qla];exact hz,_,r1.append r2,IsTD.new _ _⟩
end
noncomputable def ixN (n:Nat) (i:Int):Option Nat:=if 0<=i then (if i<n then some i.toNat else none) else if -(n:Int)<=i then some (i+n).toNat else none
noncomputable def atI {α:Type}(xs:List α) (i:Int):Option α:=(ixN xs.length i).bind λj=>xs[j]?
theorem zuk {n:Nat}{i:Int}{j:Nat}(h:ixN n i=some j):seqIndex? i n=some j/\j<n/\-(n:Int)<=i/\i<n:=by
 unfold ixN at h
 by_cases h0:0<=i
 ·rw [if_pos h0] at h
  by_cases h1:i<n
  ·rw [if_pos h1] at h
   have e:i.toNat=j:=qoi h
   exact ⟨by rw [seqIndex_of h0 h1,e],by omega,by omega,h1⟩
  ·rw [if_neg h1] at h;cases h
 ·rw [if_neg h0] at h
  by_cases h1:-(n:Int)<=i
  ·rw [if_pos h1] at h
   have e:(i+n).toNat=j:=qoi h
   exact ⟨by rw [seqIndex_neg (by omega) h1,e],by omega,h1,by omega⟩
  ·rw [if_neg h1] at h;cases h
theorem zju {α:Type}{xs:List α}{i:Int}{v:α}(h:atI xs i=some v):∃j,seqIndex? i xs.length=some j/\xs[j]? = some v/\j<xs.length/\-(xs.length:Int)<=i/\i<xs.length:=by
 unfold atI at h
 cases e:ixN xs.length i with
 | none=>rw [e] at h;cases h
 | some j =>
  rw [e] at h
  obtain ⟨h1,h2,h3,h4⟩:=zuk e
  exact ⟨j,h1,h,h2,h3,h4⟩
def zjv (b:Expr):Prop:=∀o i,subscripted b false o i=operate [o,i] (getItem o i)
def IxR (X:Cx) (r:R2):Prop :=
 ∀(value slice:Expr) (pins:List (Addr × Obj)) (s:Shared) (σ:St) (H:Hp) (x y:V) (v u:Value) (Q:VK),Inv X pins σ H s->RelV x v->RelV y u->r x y H Q ->
  subscripted slice false v u=operate [v,u] (getItem v u)->wpAny (model X.prog X.w) X.A (subscriptTail value slice v u) (EP X pins σ Q) X.xe s
def MtR (X:Cx) (id:String) (r:V->List V->Hp->VK->Prop):Prop :=
 ∀(pins:List (Addr × Obj)) (s:Shared) (σ:St) (H:Hp) (x:V) (xs:List V) (v:Value) (us:List Value) (Q:VK),Inv X pins σ H s->RelV x v->Vals xs us->r x xs H Q ->
  wpAny (model X.prog X.w) X.A (call (.builtin id) (v :: us)) (EP X pins σ Q) X.xe s
section
variable {X:Cx}{a b:Expr}{ta tb:TE}{pos:Pos}
theorem IxR.or {r r':R2}(h:IxR X r) (h':IxR X r'):IxR X (λx y H Q=>r x y H Q\/r' x y H Q):=by
 intro value slice pins s σ H x y v u Q I rx ry q hs
 rcases q with q|q
 ·exact h value slice pins s σ H x y v u Q I rx ry q hs
 ·exact h' value slice pins s σ H x y v u Q I rx ry q hs
theorem zna {r:R2}(hr:IxR X r) (ha:PE X a ta) (hb:PE X b tb) (hs:zjv b):PE X (.Subscript a b pos) (tOp r ta tb):=by
 intro pins s σ H Q I h
 exact Subscript_ (zjp ha hb I h λv u s2 x y H2 I2 rx ry q=>hr a b pins s2 σ H2 x y v u Q I2 rx ry q (hs _ _))
def znb (K:QFg):R2:=λx y H Q=>∃p xs i v,x=.ref p/\y=.int i/\SqL K H p xs/\atI xs i=some v/\Q v H
def znc (K:QFg):R2:=λx y H Q=>∃p xs i v,x=.ref p/\y=.int i/\SqT K H p xs/\atI xs i=some v/\Q v H
def zjw:R2:=λx y H Q=>∃z i c,x=.str z/\y=.int i/\z.length<=sizeLine/\atI z.cps.toList i=some c/\Q (.str ⟨#[c]⟩) H
theorem ix_list:IxR X (znb X.K):=by
 intro value slice pins s σ H x y v u Q I rx ry h hs
 obtain ⟨p,xs,i,z,rfl,rfl,hq,he,q⟩:=h
 cases rx
 obtain ⟨t,rfl⟩:=ry
 obtain ⟨its,r,pl,hz⟩:=I.list hq
 obtain ⟨j,h1,h2,h3,h4,h5⟩:=zju he
 obtain ⟨w,ew,rw'⟩:=r.get h2
 have hl:=r.length
 have hn:=zgv
 have fin:EP X pins σ Q w s:=⟨z,H,I,rw',q⟩
 by_cases h0:0<=i
 ·have hj:i.toNat=j:=by
   rw [seqIndex_of h0 h5] at h1
   exact qoi h1
  exact item_listR pl.isList h0 (by omega) (by rw [hj];simpa using ew) fin hs
 ·have hj:(i+(its.toArray.size:Int)).toNat=j:=by
   rw [seqIndex_neg (by omega) h4] at h1
   rw [List.size_toArray,<-hl]
   exact qoi h1
  exact subscriptTail_builtinR (x:=w) pl.isList.typeIs slot_list_getitem.lookup
   (wpAny_getItem_list_neg (Q:=λr s'=>r=w/\EP X pins σ Q r s') pl.isList (by omega) (by rw [List.size_toArray] <;> omega) (by omega) (by rw [hj];simpa using ew) ⟨rfl,fin⟩) hs
theorem ix_tup:IxR X (znc X.K):=by
 intro value slice pins s σ H x y v u Q I rx ry h hs
 obtain ⟨p,xs,i,z,rfl,rfl,hq,he,q⟩:=h
 cases rx
 obtain ⟨t,rfl⟩:=ry
 obtain ⟨its,r,pl,hz⟩:=I.tuple hq
 obtain ⟨j,h1,h2,h3,h4,h5⟩:=zju he
 obtain ⟨w,ew,rw'⟩:=r.get h2
 have hl:=r.length
 have hn:=zgv
 have fin:EP X pins σ Q w s:=⟨z,H,I,rw',q⟩
 exact subscriptTail_builtinR (x:=w) pl.typeIs slot_tuple_getitem.lookup
  (getItem_tuple (j:=j) (Q:=λr s'=>r=w/\EP X pins σ Q r s') pl (by omega) (by omega) (by rw [List.size_toArray,<-hl];exact h1) (by simpa using ew) ⟨rfl,fin⟩) hs
theorem zul:IxR X zjw:=by
 intro value slice pins s σ H x y v u Q I rx ry h hs
 obtain ⟨z,i,c,rfl,rfl,hz,he,q⟩:=h
 obtain ⟨t,rfl⟩:=rx
 obtain ⟨t',rfl⟩:=ry
 obtain ⟨j,h1,h2,h3,h4,h5⟩:=zju he
 have hl:z.cps.toList.length=z.length:=by simp [Str.length]
 rw [hl] at h1 h4 h5
 have hn:=zgv
 exact tail_any (typeIs_str s z t) slot_str_getitem.lookup (getItem_str (c:=c) (by
  have e1:decide (i < -(2 ^ 63:Int))=false:=decide_eq_false (by omega)
  have e2:decide (i ≥ 2 ^ 63)=false:=decide_eq_false (by omega)
  rw [e1,e2,Bool.or_false]) (by rw [h1];simpa using h2) ⟨.str ⟨#[c]⟩,H,I.tok _,⟨_,rfl⟩,q⟩) hs
def rIx (K:QFg):R2:=λx y H Q=>znb K x y H Q\/znc K x y H Q\/zjw x y H Q
theorem znd:IxR X (rIx X.K):=ix_list.or (ix_tup.or zul)
theorem zum (lo hi:Option Int) (n:Nat):(sliceBounds lo hi none n).1=((HT.sIx n 0 lo:Nat):Int)/\(sliceBounds lo hi none n).2.1=((HT.sIx n n hi:Nat):Int)/\(sliceBounds lo hi none n).2.2=1:=by
 refine ⟨?_,?_,rfl⟩
 ·cases lo with
  | none=>simp [sliceBounds,HT.sIx]
  | some i =>
   simp only [sliceBounds,HT.sIx,Option.getD_none,show (1:Int) > 0 by decide,if_true]
   by_cases h:i<0
   ·simp only [h,if_true] <;> omega
   ·simp only [h,if_false] <;> omega
 ·cases hi with
  | none=>simp [sliceBounds,HT.sIx]
  | some i =>
   simp only [sliceBounds,HT.sIx,Option.getD_none,show (1:Int) > 0 by decide,if_true]
   by_cases h:i<0
   ·simp only [h,if_true] <;> omega
   ·simp only [h,if_false] <;> omega
theorem zun (its:List Value) (lo hi:Option Int):slicePick its.toArray lo hi none=((its.drop (HT.sIx its.length 0 lo)).take (HT.sIx its.length its.length hi-HT.sIx its.length 0 lo)).toArray:=by
 obtain ⟨h1,h2,h3⟩:=zum lo hi its.toArray.size
 unfold slicePick
 rw [h1,h2,h3]
 simp only [sliceRange_one,pick_run,List.size_toArray] <;> rfl
def zuo (K:QFg):V->Option Int->Option Int->Hp->VK->Prop:=λx lo hi H Q=>∃a xs,x=.ref a/\SqL K H a xs/\∀p,H p=none->Q (.ref p) (upd H p (.lst (zdk xs lo hi)))
theorem zup:SlR X (zuo X.K):=by
 intro pins s σ H x v vl vu lo hi sl Q I rx hs pl pu h
 obtain ⟨a,xs,rfl,hx,q⟩:=h
 cases rx
 obtain ⟨its,r,ht,hz⟩:=I.list hx
 have hlen:=r.length
 refine ⟨"list",_,slot_list_getitem.lookup,ht.isList.typeIs,?_⟩
 refine wpAny_getItem_list_slice ht.isList hs pl pu .none (by simp) ?_ (by rw [List.size_toArray] <;> omega)
 rw [zun,<-hlen]
 refine ⟨.ref s.heap.objs.size,_,I.laid (t':=s.toks) (o:=.lst (zdk xs lo hi)) (λb ob q=>qps _ q) (qlr _) ?_,rfl,q _ (I.hok.fresh (qlr _))⟩
 exact ⟨Nat.le_trans (zm9 xs lo hi) hz,_,0,(r.drop (HT.sIx xs.length 0 lo)).take (HT.sIx xs.length xs.length hi-HT.sIx xs.length 0 lo),Heap.get?_push_size _ rfl⟩
theorem call_len_seq:CallR X (.builtin "len") (λxs H Q=>∃p ys,xs=[.ref p]/\(SqL X.K H p ys\/SqT X.K H p ys)/\Q (.int ys.length) H):=by
 intro pins s σ H xs us Q I r h
 obtain ⟨p,ys,rfl,hq,q⟩:=h
 obtain ⟨u,rfl,rx⟩:=zcm r
 cases rx
 have hn:=zgv
 rcases hq with hq|hq
 ·obtain ⟨its,r',pl,hz⟩:=I.list hq
  have hlen:=r'.length
  exact Calls.call_len_list pl.isList (by simp only [List.size_toArray] <;> omega) ⟨.int ys.length,H,I.tok _,⟨s.toks+1,by rw [List.size_toArray,hlen]⟩,q⟩
 ·obtain ⟨its,r',pl,hz⟩:=I.tuple hq
  have hlen:=r'.length
  exact len_tuple pl (by simp only [List.size_toArray] <;> omega) ⟨.int ys.length,H,I.tok _,⟨s.toks+1,by rw [List.size_toArray,hlen]⟩,q⟩
theorem zuq:CallR X (.builtin "len") (λxs H Q=>∃z,xs=[.str z]/\z.length<=sizeLine/\Q (.int z.length) H):=by
 intro pins s σ H xs us Q I r h
 obtain ⟨z,rfl,hz,q⟩:=h
 obtain ⟨u,rfl,t,rfl⟩:=zcm r
 have hn:=zgv
 exact len_str (by omega) ⟨.int z.length,H,I.tok _,⟨_,rfl⟩,q⟩
theorem CallR.or {f:Value}{r r':List V->Hp->VK->Prop}(h:CallR X f r) (h':CallR X f r'):CallR X f (λxs H Q=>r xs H Q\/r' xs H Q):=by
 intro pins s σ H xs us Q I rs q
 rcases q with q|q
 ·exact h pins s σ H xs us Q I rs q
 ·exact h' pins s σ H xs us Q I rs q
theorem zur:CallR X (.type "list") (λxs H Q=>∃p ys,xs=[.ref p]/\(SqL X.K H p ys\/SqT X.K H p ys)/\∀l,H l=none->Q (.ref l) (upd H l (.lst ys))):=by
 intro pins s σ H xs us Q I r h
 obtain ⟨p,ys,rfl,hq,q⟩:=h
 obtain ⟨u,rfl,rx⟩:=zcm r
 cases rx
 have fin:∀(its:List Value),Vals ys its->ys.length<=sizeLine->∀(h':Heap) (c':Nat),(∀b o',s.heap.get? b=some o'->h'.get? b=some o') ->
   h'.get? s.heap.objs.size=some { cls:=.type "list",dict:=none,data:=.seq its.toArray c',slots:=#[] }->EP X pins σ Q (.ref s.heap.objs.size) { s with heap:=h' }:=λits r' hz h' c' kp e =>
  ⟨.ref s.heap.objs.size,_,I.laid (t':=s.toks) kp (qlr _) (show ObjOk X.prog X.w _ h' _ (.lst ys) from ⟨hz,its,c',r',e⟩),rfl,q _ (I.hok.fresh (qlr _))⟩
 rcases hq with hq|hq
 ·obtain ⟨its,r',pl,hz⟩:=I.list hq
  have hlen:=r'.length
  obtain ⟨o,ho,hc,n,hd⟩:=pl.isList
  exact call_list_seq p (.inl rfl) ho hc hd (λh' c' kp e=>fin its r' hz h' c' kp e) (by simp only [List.size_toArray] <;> omega)
 ·obtain ⟨its,r',pl,hz⟩:=I.tuple hq
  have hlen:=r'.length
  obtain ⟨o,ho,hc,n,hd⟩:=pl
  exact call_list_seq p (.inr rfl) ho hc hd (λh' c' kp e=>fin its r' hz h' c' kp e) (by simp only [List.size_toArray] <;> omega)
theorem zus:CallR X (.type "tuple") (λxs H Q=>∃p ys,xs=[.ref p]/\((SqL X.K H p ys/\∀l,H l=none->Q (.ref l) (upd H l (.tup ys)))\/(SqT X.K H p ys/\Q (.ref p) H))):=by
 intro pins s σ H xs us Q I r h
 obtain ⟨p,ys,rfl,h⟩:=h
 obtain ⟨u,rfl,rx⟩:=zcm r
 cases rx
 rcases h with ⟨hq,q⟩|⟨hq,q⟩
 ·obtain ⟨its,r',pl,hz⟩:=I.list hq
  have hlen:=r'.length
  refine call_tuple_list pl.isList (λh' kp=>?_) (by simp only [List.size_toArray] <;> omega)
  have I1:Inv X pins σ H { s with heap:=h' }:=I.kept (t':=s.toks) kp
  have I2:Inv X pins σ (upd H h'.objs.size (.tup ys)) { s with heap:=h'.push { cls:=.type "tuple",data:=.seq its.toArray } } :=
   I1.laid (t':=s.toks) (λb o e=>qps _ e) (qlr _) (show ObjOk X.prog X.w _ _ _ (.tup ys) from ⟨hz,its,r',IsTD.new _ _⟩)
  exact ⟨.ref h'.objs.size,_,I2,rfl,q _ (I1.hok.fresh (qlr _))⟩
 ·obtain ⟨its,r',pl,hz⟩:=I.tuple hq
  exact call_tuple_same pl ⟨.ref p,H,I,rfl,q⟩
def tyV (K:QFg) (T:String) (x:V) (H:Hp):Prop:=match x with
 | .str _=>T = "str"
 | .int _=>T = "int"
 | .ref p=>(T = "list"/\∃xs,SqL K H p xs)\/(T = "tuple"/\∃o,K.lookup p=some o/\o.cls=.type "tuple"/\o.dict=none) \/
   (T = "dict"/\((∃kvs,H p=some (.dK kvs))\/∃kvs,H p=some (.dT kvs)))\/(T = "set"/\∃S n,H p=some (.set S n))
 | _=>False
theorem zne {pins:List (Addr × Obj)}{σ:St}{H:Hp}{s:Shared}{T:String}{x:V}{v:Value}(I:Inv X pins σ H s) (r:RelV x v) (ty:tyV X.K T x H) :
  s.TypeIs v T/\∀a,v=.ref a->∃ob,s.heap.get? a=some ob/\ob.dict=none:=by
 cases x with
 | str z =>
  obtain ⟨t,rfl⟩:=r
  cases (show T = "str" from ty)
  exact ⟨typeIs_str s z t,λ_ e=>nomatch e⟩
 | int i =>
  obtain ⟨t,rfl⟩:=r
  cases (show T = "int" from ty)
  exact ⟨typeIs_int s i t,λ_ e=>nomatch e⟩
 | ref p =>
  cases r
  rcases ty with ⟨rfl,xs,hq⟩|⟨rfl,o,hk,hc,hd⟩|⟨rfl,hk⟩|⟨rfl,S,n,hk⟩
  ·obtain ⟨its,_,pl,_⟩:=I.list hq
   refine ⟨pl.isList.typeIs,λa e=>?_⟩
   cases e
   obtain ⟨o,n,e,c,hd,_⟩:=pl
   exact ⟨o,e,hd⟩
  ·refine ⟨⟨o,I.kIn p o hk,hc⟩,λa e=>?_⟩
   cases e
   exact ⟨o,I.kIn _ o hk,hd⟩
  ·have z:∃o,s.heap.get? p=some o/\o.ExactDict:=by
    rcases hk with ⟨kvs,hk⟩|⟨kvs,hk⟩
    ·obtain ⟨_,_,_,_,o,_,_,e,ex,_⟩:=I.hok p _ hk
     exact ⟨o,e,ex⟩
    ·obtain ⟨_,_,_,_,o,_,_,e,ex,_⟩:=I.hok p _ hk
     exact ⟨o,e,ex⟩
   obtain ⟨o,e,ex⟩:=z
   refine ⟨⟨o,e,ex.1⟩,λa e2=>?_⟩
   cases e2
   exact ⟨o,e,ex.2.1⟩
  ·obtain ⟨o,_,_,_,e,ex,_⟩:=I.hok p _ hk
   refine ⟨⟨o,e,ex.1⟩,λa e2=>?_⟩
   cases e2
   exact ⟨o,e,ex.2.1⟩
 | _=>exact False.elim ty
def zut (K:QFg) (T:String) (r:V->List V->Hp->VK->Prop) (to:TE):TE:=λσ H Q=>to σ H λx H1=>tyV K T x H1/\r x [] H1 Q
def tBM (K:QFg) (T:String) (r:V->List V->Hp->VK->Prop) (to:TE) (t:TA):TE:=λσ H Q=>to σ H λx H1=>tyV K T x H1/\t σ H1 λxs H2=>r x xs H2 Q
variable {o e:Expr}{es:List Expr}{to:TE}{t:TA}{name:Str}{apos cpos:Pos}{T id:String}{r:V->List V->Hp->VK->Prop}
theorem zuu (pa:PlainAttrs T) (slot:Slot T name id) (hty:typeOf (.builtin id)=pure (.type "method_descriptor")) (hm:MtR X id r) (ho:PE X o to)
  (hbase:attributeBase o name X.env (eval o X.env)=eval o X.env:=by rfl) (hline:(apos.endLine == cpos.line)=true:=by rfl):PE X (.Call (.Attribute o name apos) [] [] cpos) (zut X.K T r to):=by
 intro pins s σ H Q I h
 refine wpAny_Call_method0_late hbase hline (thn (ho pins s σ H _ I h) λv s1 ⟨x,H1,I1,r1,ty,q1⟩=>?_)
 obtain ⟨h1,h2⟩:=zne I1 r1 ty
 exact ⟨T,id,pa,slot,hty,h1,h2,Calls.callWith_builtin rfl (PySem.evalArgs_none (hm pins s1 σ H1 x [] v [] Q I1 r1 .nil q1))⟩
theorem zuv (pa:PlainAttrs T) (slot:Slot T name id) (hty:typeOf (.builtin id)=pure (.type "method_descriptor")) (hm:MtR X id r) (ho:PE X o to) (ha:PA X (e :: es) t)
  (hbase:attributeBase o name X.env (eval o X.env)=eval o X.env:=by rfl)
  (hfew:((backTo cpos (starEach (e :: es) X.env)).all (λx=>!x.1) && (backToKw cpos (keywordEach [] X.env)).all (λx=>x.1.isSome)
   && decide ((e :: es).length+([]:List Keyword).length+(if ([]:List Keyword).isEmpty then 0 else 1)<30))=true:=by rfl)
  (hline:(apos.endLine == cpos.line)=true:=by rfl) (hs:starEach (e :: es) X.env=(false,eval e X.env) :: starEach es X.env:=by rfl) (hplain:(backTo cpos (starEach es X.env)).any (·.1)=false:=by rfl) :
  PE X (.Call (.Attribute o name apos) (e :: es) [] cpos) (tBM X.K T r to t):=by
 intro pins s σ H Q I h
 refine wpAny_Call_method_late hbase hfew hline rfl (thn (ho pins s σ H _ I h) λv s1 ⟨x,H1,I1,r1,ty,q1⟩=>?_)
 obtain ⟨h1,h2⟩:=zne I1 r1 ty
 refine ⟨T,id,pa,slot,hty,h1,h2,?_⟩
 have hA:=ha cpos pins s1 σ H1 _ I1 q1
 rw [hs] at hA ⊢
 refine Calls.callWith_builtin (by show (false || (backTo cpos (starEach es X.env)).any (·.1))=false;rw [hplain] <;> rfl) (Calls.evalArgs_plain ?_)
 exact thn hA λus s2 ⟨vs,H2,I2,r2,q2⟩=>hm pins s2 σ H2 x vs v us Q I2 r1 r2 q2
end
def MtM (X:Cx) (id:String) (r:V->List V->Hp->VK->Prop):Prop :=
 ∀(pins:List (Addr × Obj)) (s:Shared) (σ:St) (H:Hp) (x:V) (xs:List V) (v:Value) (us:List Value) (Q:VK),Inv X pins σ H s->RelV x v->Vals xs us->r x xs H Q ->
  wpAny (model X.prog X.w) X.A (call (.builtin id) (v :: us)) (EP X pins σ Q) X.xe s
theorem Vals.one:∀{x:V}{us:List Value},Vals [x] us->∃u,us=[u]/\RelV x u
 | _,_,.cons r .nil=>⟨_,rfl,r⟩
theorem Vals.two {x y:V}{us:List Value}(h:Vals [x,y] us):∃u v,us=[u,v]/\RelV x u/\RelV y v:=by
 cases h with
 | cons r t =>
  cases t with
  | cons q t2=>cases t2;exact ⟨_,_,rfl,r,q⟩
theorem Vals.zero:∀{us:List Value},Vals [] us->us=[]
 | _,.nil=>rfl
theorem Vals.eraseIdx:∀{xs:List V}{us:List Value}(i:Nat),Vals xs us->Vals (xs.eraseIdx i) (us.eraseIdx i)
 | _,_,_,.nil=>.nil
 | _,_,0,.cons _ t=>t
 | _,_,i+1,.cons r t=>.cons r (Vals.eraseIdx i t)
theorem Vals.rep {xs:List V}{us:List Value}(h:Vals xs us):∀k:Nat,Vals (List.replicate k xs).flatten (List.replicate k us).flatten
 | 0=>.nil
 | k+1=>by
  rw [List.replicate_succ,List.replicate_succ,List.flatten_cons,List.flatten_cons]
  exact Vals.append h (Vals.rep h k)
theorem znf {α:Type}:∀(l:List α) (i:Nat),(l.eraseIdx i).length<=l.length
 | [],_=>qlr _
 | _ :: _,0=>Nat.le_succ _
 | _ :: r,i+1=>Nat.succ_le_succ (znf r i)
theorem zng (its:List Value):∀(k:Nat) (acc:List Value),
  List.foldl (λx1 x2=>x1++x2) acc.toArray (List.replicate k its.toArray)=(acc++(List.replicate k its).flatten).toArray
 | 0,acc=>by simp
 | k+1,acc=>by
  have e:acc.toArray++its.toArray=(acc++its).toArray:=by simp
  have e2:(acc++its)++(List.replicate k its).flatten=acc++(List.replicate (k+1) its).flatten:=by
   rw [List.replicate_succ,List.flatten_cons,List.append_assoc]
  rw [<-e2,<-zng its k (acc++its),<-e,List.replicate_succ,List.foldl_cons]
section
variable {X:Cx}{pins:List (Addr × Obj)}{σ:St}{H:Hp}{s:Shared}{l b:Addr}{xs ys zs:List V}
theorem Inv.lset {its its':List Value}{n:Nat}{f:Array Value->Array Value}{t':Nat}(I:Inv X pins σ H s) (hH:H l=some (.lst xs))
  (e:s.heap.get? l=some { cls:=.type "list",data:=.seq its.toArray n }) (hf:f its.toArray=its'.toArray) (hv:Vals ys its') (hz:ys.length<=sizeLine) :
  Inv X pins σ (upd H l (.lst ys)) { s with heap:=s.heap.update l (Obj.mapSeq f),toks:=t' }:=by
 have q:=PySem.IsL.update e f
 rw [hf] at q
 refine I.write (x:=l) (e:=l) (by rw [hH];exact trivial) (.inl rfl) (λb' u hb hu=>(Heap.get?_update_other s.heap (Obj.mapSeq f) (Ne.symm hb)).trans hu) ⟨_,q⟩ ?_
 exact ⟨hz,its',_,hv,q⟩
theorem Inv.lnew {its:List Value}{t':Nat}(I:Inv X pins σ H s) (hv:Vals ys its) (hz:ys.length<=sizeLine) :
  Inv X pins σ (upd H s.heap.objs.size (.lst ys)) { s with heap:=s.heap.push { cls:=.type "list",data:=.seq its.toArray },toks:=t' } :=
 I.laid (λ_ _ q=>qps _ q) (qlr _) ⟨hz,its,0,hv,Heap.get?_push_size _ rfl⟩
theorem Inv.fresh (I:Inv X pins σ H s):H s.heap.objs.size=none:=I.hok.fresh (qlr _)
theorem Inv.lstM (I:Inv X pins σ H s) (hH:H l=some (.lst xs)):xs.length<=sizeLine/\∃(its:List Value) (n:Nat),Vals xs its/\xs.length=its.length/\s.heap.get? l=some { cls:=.type "list",data:=.seq its.toArray n }:=by
 obtain ⟨z,its,n,r,e⟩:=I.hok l _ hH
 exact ⟨z,its,n,r,r.length,e⟩
end
section
variable {X:Cx}
def znh:V->List V->Hp->VK->Prop:=λx vs H Q=>∃l xs y,x=.ref l/\vs=[y]/\H l=some (.lst xs)/\xs.length<sizeLine/\Q .non (upd H l (.lst (xs++[y])))
theorem zni:MtM X "list.append" znh:=by
 intro pins s σ H x vs v us Q I rx rv h
 obtain ⟨l,xs,y,rfl,rfl,hH,hz,q⟩:=h
 cases rx
 obtain ⟨u,rfl,ru⟩:=rv.one
 obtain ⟨z,its,n,r,hl,e⟩:=I.lstM hH
 refine call_meets F.slot_list_append ⟨_,e,rfl⟩ F.entry_list_append (F.args_list_append_2 _ _) (PySem.list_append l its.toArray n u (by rw [List.size_toArray];omega)) ⟨e,?_⟩
 refine ⟨.non,_,I.lset (its':=its++[u]) hH e (by simp) (r.append (.cons ru .nil)) ?_,rfl,q⟩
 rw [qla,List.length_singleton]
 omega
def znj:V->List V->Hp->VK->Prop:=λx vs H Q=>∃l xs i k y,x=.ref l/\vs=[.int i]/\H l=some (.lst xs)/\-(2 ^ 63)<=i/\i<2 ^ 63/\seqIndex? i xs.length=some k/\xs[k]? = some y/\Q y (upd H l (.lst (xs.eraseIdx k)))
theorem zuw:MtM X "list.pop" znj:=by
 intro pins s σ H x vs v us Q I rx rv h
 obtain ⟨l,xs,i,k,y,rfl,rfl,hH,h1,h2,hk,hy,q⟩:=h
 cases rx
 obtain ⟨u,rfl,ru⟩:=rv.one
 obtain ⟨t,rfl⟩:=ru
 obtain ⟨z,its,n,r,hl,e⟩:=I.lstM hH
 obtain ⟨w,hw,rw'⟩:=r.get hy
 refine call_meets F.slot_list_pop ⟨_,e,rfl⟩ F.entry_list_pop (F.args_list_pop_2 _ _)
  (MeetsSeq.list_pop_at l its.toArray n i t k w (fitsIndex_both h1 h2) (by rw [List.size_toArray,<-hl];exact hk) (by rw [<-Array.getElem?_toList];exact hw) (by rw [List.size_toArray];omega)) ⟨e,?_⟩
 refine ⟨y,_,I.lset (its':=its.eraseIdx k) hH e ?_ (r.eraseIdx k) ?_,rw',q⟩
 ·show its.toArray.eraseIdxIfInBounds k=(its.eraseIdx k).toArray
  rw [List.eraseIdxIfInBounds_toArray]
 ·have:=znf xs k
  omega
def znk:R2:=λx y H Q=>∃l b xs zs,x=.ref l/\y=.ref b/\H l=some (.lst xs)/\H b=some (.lst zs)/\xs.length+zs.length<=sizeLine/\∀p,H p=none->Q (.ref p) (upd H p (.lst (xs++zs)))
theorem zux:OpR X (binaryOp .Add) znk:=by
 intro pins s σ H x y v u Q I rx ry h
 obtain ⟨l,b,xs,zs,rfl,rfl,hH,hB,hz,q⟩:=h
 cases rx
 cases ry
 obtain ⟨z,its,n,r,hl,e⟩:=I.lstM hH
 obtain ⟨z2,its2,n2,r2,hl2,e2⟩:=I.lstM hB
 refine PySem.P.add_list e e2 ?_ (by rw [List.size_toArray,List.size_toArray];omega)
 have ea:its.toArray++its2.toArray=(its++its2).toArray:=by simp
 rw [ea]
 exact ⟨.ref _,_,I.lnew (t':=s.toks) (r.append r2) (by rw [qla];omega),rfl,q _ I.fresh⟩
theorem znl {α:Type}(xs:List α) (k:Nat):(List.replicate k xs).flatten.length=k*xs.length:=by
 induction k with
 | zero=>simp
 | succ k ih=>rw [List.replicate_succ,List.flatten_cons,qla,ih,Nat.succ_mul,Nat.add_comm]
end
section
variable {prog:Program}{w:World}{A:Around}{E:Value->Shared->Prop}{s:Shared}
end
section
variable {X:Cx}
end
end L2
namespace Att
open PySem PySem.W PySem.Calls PyProof.Rows
theorem zuy {P:Params}{h:Heap}:∀(ns:List Int) (vs:List Value),WellAll P h vs (ns.map WData.int)->IntsAre vs ns:=by
 intro ns
 induction ns with
 | nil =>
  intro vs w
  rw [List.map_nil] at w
  cases w
  exact .nil
 | cons n ns ih =>
  intro vs w
  rw [List.map_cons] at w
  cases w with
  | cons a b =>
   cases a
   exact .cons _ _ (ih _ b)
theorem zuz {l:OpenLaw}{n:Nat}(hn:l.most=some n) {P:Params}{h:Heap}{args:List WData}{vals:List Value}
  (hpre:l.row.toRowW.claim.pre args=true) (hwl:WellAll P h vals args) :
  ∃a vs ns,vals=[Value.ref a]/\args=[WData.list (ns.map WData.int)]/\h.get? a=some { cls:=.type "list",data:=.seq vs.toArray }/\IntsAre vs ns/\ns.length<=n:=by
 have hsh:WShape.hasAll [] args [.list .int]=true:=(pre_splitW hpre).1
 have hc:l.pre.holds [] { args:=args }=true:=(pre_splitW hpre).2
 obtain ⟨d,r,rfl,h1,h2⟩:=hasAllW_cons hsh
 obtain rfl:=hasAllW_nil h2
 obtain ⟨xs,rfl,h3⟩:=hasW_list h1
 obtain ⟨ns,rfl⟩:=items_int h3
 have hlen:ns.length<=n:=by
  unfold OpenLaw.pre at hc
  have h4:(WTm.not (.lt (.lit (.int (n:Int))) (.len (.arg 0)))).holds [] { args:=[.list (ns.map .int)] }=true:=by
   have h4:=(holds_andW hc).1
   rw [hn] at h4
   exact h4
  have h5:=condW_of h4 (w_not (w_lt w_lit (w_len_list (w_arg rfl))))
  rw [qlm] at h5
  refine Nat.le_of_not_lt λq=>?_
  have q':(n:Int)<((ns.length:Nat):Int):=by omega
  first
   | (rw [decide_eq_true q'] at h5;exact absurd h5 (by decide))
   | (simp at h5;omega)
 cases hwl with
 | cons w1 w2 =>
  cases w2
  cases w1 with
  | list ho hall=>exact ⟨_,_,ns,rfl,rfl,ho,zuy ns _ hall,hlen⟩
theorem zu0 (l:OpenLaw) (args:List WData):l.row.toRowW.claim.post args (.bool true) args=true :=
 postW_of (r:=l.row.toRowW) (X:=(true == true))
  (show WShape.has [] (.bool true) .bool=true by first|rfl|decide|simp [WShape.has,WShape.arms,WShape.armsAll])
  (show (WTm.eq .res (.lit (.bool true))).value [] { args:=args,res:=some (.bool true),after:=args }=some (.bool (true == true)) from w_eq_bool (w_res rfl) w_lit) rfl
theorem attach_call {l:OpenLaw}{n:Nat}{q:Program}{loose:List Str}{XP:(Str->Option Value)->Heap->Prop}{YP:World->Heap->Prop}{d:DefRec}
  (hn:l.most=some n) (hdf:d.params.defaults=[])
  (call:∀(w:World) (s₀ s₁:Shared) (mg mb:Str->Option Value) (fa:Addr) (o:Obj) (pm cd doc:Value) (a:Addr) (vs:List Value) (ns:List Int),
   Ground q loose [] XP w s₀ mg mb s₁.heap->YP w s₁.heap ->
   s₁.heap.get? fa=some o->o.data=.func (docDef d.name d.params d.body d.scope pm cd doc)->s₁.heap.CodeRec cd d.name->mg d.name=some (.ref fa) ->
   s₁.heap.get? a=some { cls:=.type "list",data:=.seq vs.toArray }->IntsAre vs ns->ns.length<=n->s₁.gens = #[] ->
   codeAny (model l.prog w) callerA (.call (.ref fa) ⟨[.ref a],[]⟩) (λr s'=>r=.ok (.ret (.bool true))/\OldK s₁.heap s'.heap/\s'.os=s₁.os/\AllBare s'.gens) s₁) :
  WalkO q loose XP YP l.row.toRowW d [] (λf vs=>PySem.call f vs):=by
 intro w s₀ s₁ mg mb G Y fa o pm cd doc dV kV ho hd hcd hD hmg hg args vals as hpre hlay hrd hwl hlo
 obtain rfl:dV=.none:=Dflts.none hD hdf
 obtain rfl:kV=.none:=Dflts.noKw hD
 obtain ⟨a,vs,ns,rfl,rfl,hobj,hints,hlen⟩:=zuz hn hpre hwl
 refine enter_call (codeAny_mono (call w s₀ s₁ mg mb fa o pm cd doc a vs ns G Y ho (fd_plain hd) hcd hmg hobj hints hlen hg) λr s' hq=>?_)
 obtain ⟨rfl,h2,h3,h4⟩:=hq
 exact ⟨.inl ⟨.bool true,.bool true,[],rfl,λ_=>rfl,.bool true,zu0 l _,λ_=>⟨List.Pairwise.nil,λ_ hm=>(nomatch hm)⟩⟩,h2,h3,h4⟩
section
variable {prog:Program}{w:World}{A:Around}{E:Value->Shared->Prop}{s:Shared}{K:Frag}
end
end Att
namespace L2
open PySem PySem.Spec PyProof.Rows
theorem znm:∀{vs:List Value}{ns:List Int},IntsAre vs ns->Vals (ns.map V.int) vs
 | _,_,.nil=>.nil
 | _,_,.cons n t h=>.cons ⟨t,rfl⟩ (znm h)
noncomputable def zd8 (s:Stmt):Arguments:=match s with
 | .FunctionDef _ a _ _ _ _ _ _ _ _=>a
 | _=>{ posonlyargs:=[],args:=[],vararg:=none,kwonlyargs:=[],kw_defaults:=[],kwarg:=none,defaults:=[] }
noncomputable def zch (s:Stmt):List Stmt:=match s with
 | .FunctionDef _ _ b _ _ _ _ _ _ _=>b
 | _=>[]
noncomputable def zau (s:Stmt):Scope:=match s with
 | .FunctionDef _ _ _ _ _ _ sc _ _ _=>sc
 | _=>{ kind:=.function,names:=[],isGenerator:=false,isCoroutine:=false }
abbrev CX0:CXT:=λ_ _ _ _ _ _=>False
abbrev E0:XK:=λ_ _ _=>False
theorem znn {X:Cx}:zgw CX0 X E0:=λ_ _ _ _ _ _ _ h=>h.elim
structure Fun (K:QFg) (x qual:Str) (st:Stmt) (f:Addr) (fd:FuncData):Prop where
 ex:∃(oc:Value) (od:Option Addr) (kV doc pm:Value) (an:Option Addr) (cdv ct:Value) (osl:Array (Option Value)),
  fd=PySem.W.fnOf x qual (zd8 st) (zch st) (zau st) .none kV doc pm an cdv ct/\K.lookup f=some ⟨oc,od,.func fd,osl⟩/\PySem.W.codeIn K cdv qual=true
 kp:PySem.W.keepIn K (.ref f)=true
section
variable {P:Program}{w:World}{K:QFg}{mg:Str->Option Value}{base:Heap}
theorem Fun.binds {x qual:Str}{st:Stmt}{f:Addr}{fd:FuncData}{ps:List Str}(F:Fun K x qual st f fd)
  (h:∀(kV doc pm:Value) (an:Option Addr) (cdv ct:Value) (us:List Value),us.length=ps.length->bindArgs (PySem.W.fnOf x qual (zd8 st) (zch st) (zau st) .none kV doc pm an cdv ct) ⟨us,[]⟩=pure (ps.zip us)):Binds K fd ps []:=by
 obtain ⟨oc,od,kV,doc,pm,an,cdv,ct,osl,rfl,lk,hcd⟩:=F.ex
 exact .all (h kV doc pm an cdv ct)
theorem zu1 {x qual:Str}{st:Stmt}{f:Addr}{oc:Value}{od an:Option Addr}{osl:Array (Option Value)}{kV doc pm cdv ct:Value}(l:K.lookup f=some ⟨oc,od,.func (PySem.W.fnOf x qual (zd8 st) (zch st) (zau st) .none kV doc pm an cdv ct),osl⟩)
  (c:PySem.W.codeIn K cdv qual=true) (k:PySem.W.keepIn K (.ref f)=true):Fun K x qual st f (PySem.W.fnOf x qual (zd8 st) (zch st) (zau st) .none kV doc pm an cdv ct):=⟨⟨oc,od,kV,doc,pm,an,cdv,ct,osl,rfl,l,c⟩,k⟩
end
section
variable {X:Cx}
end
theorem zep {A B:Prop}(h:B):if false=true then A else B:=by
 rw [if_neg Bool.false_ne_true]
 exact h
theorem zeq {A B:Prop}(h:A):if true=true then A else B:=by
 rw [if_pos rfl]
 exact h
section
variable {κ:Type} [DecidableEq κ]
noncomputable def zci (kvs:List (κ × V)) (k:κ):Option V:=(kvs.find? λkv=>decide (kv.1=k)).map (·.2)
noncomputable def zb4 (kvs:List (κ × V)) (k:κ) (v:V):List (κ × V) :=
 if (kvs.any λkv=>decide (kv.1=k))=true then kvs.map (λkv=>if kv.1=k then (kv.1,v) else kv) else kvs++[(k,v)]
theorem zh8 {p:κ × V}{r:List (κ × V)}{k:κ}(e:p.1=k):zci (p :: r) k=some p.2:=by simp [zci,List.find?_cons,e]
theorem zh9 {p:κ × V}{r:List (κ × V)}{k:κ}(e:¬p.1=k):zci (p :: r) k=zci r k:=by simp [zci,List.find?_cons,e]
theorem zno (k:κ):∀kvs:List (κ × V),(kvs.any λkv=>decide (kv.1=k))=(zci kvs k).isSome
 | []=>rfl
 | p :: r=>by
  rw [List.any_cons]
  by_cases e:p.1=k
  ·simp only [zh8 e,decide_eq_true e,Bool.true_or,Option.isSome_some]
  ·rw [zh9 e,decide_eq_false e,Bool.false_or];exact zno k r
theorem zjx (kvs:List (κ × V)) (k:κ) (v:V):(zb4 kvs k v).length<=kvs.length+1:=by
 unfold zb4
 split
 ·rw [qlm];omega
 ·rw [qla,List.length_cons,List.length_nil];omega
theorem RelO.isSome_eq {o:Option V}{u:Option Value}(r:RelO o u):o.isSome=u.isSome:=by
 cases o with
 | none=>cases u with
  | none=>rfl
  | some _=>exact (show False from r).elim
 | some _=>cases u with
  | none=>exact (show False from r).elim
  | some _=>rfl
theorem KV.val {kvs:List (κ × V)}{vs:List (κ × Value)}(r:KV kvs vs) (k:κ):RelO (zci kvs k) (valueAt vs k):=by
 unfold KV at r
 induction r with
 | nil=>exact True.intro
 | @cons p q ps qs h t ih =>
  obtain ⟨h1,h2⟩:=h
  by_cases e:p.1=k
  ·have e':q.1=k:=h1.symm.trans e
   have b:valueAt (q :: qs) k=some q.2:=by simp [valueAt,List.find?_cons,e']
   rw [zh8 e,b];exact h2
  ·have e':¬q.1=k:=λz=>e (h1.trans z)
   have b:valueAt (q :: qs) k=valueAt qs k:=by simp [valueAt,List.find?_cons,e']
   rw [zh9 e,b];exact ih
theorem KV.any {kvs:List (κ × V)}{vs:List (κ × Value)}(r:KV kvs vs) (k:κ):(kvs.any λkv=>decide (kv.1=k))=vs.any λkv=>decide (kv.1=k):=by
 unfold KV at r
 induction r with
 | nil=>rfl
 | cons h t ih=>rw [List.any_cons,List.any_cons,ih,h.1]
theorem KV.repl {kvs:List (κ × V)}{vs:List (κ × Value)}(r:KV kvs vs) (k:κ) {y:V}{u:Value}(ry:RelV y u) :
  KV (kvs.map λkv=>if kv.1=k then (kv.1,y) else kv) (vs.map λkv=>if kv.1=k then (kv.1,u) else kv):=by
 unfold KV at r ⊢
 induction r with
 | nil=>exact .nil
 | @cons p q ps qs h t ih =>
  rw [List.map_cons,List.map_cons]
  refine .cons ?_ ih
  obtain ⟨h1,h2⟩:=h
  by_cases e:p.1=k
  ·rw [if_pos e,if_pos (h1.symm.trans e)];exact ⟨h1,ry⟩
  ·rw [if_neg e,if_neg (λz=>e (h1.trans z))];exact ⟨h1,h2⟩
theorem KV.put {kvs:List (κ × V)}{vs:List (κ × Value)}(r:KV kvs vs) (k:κ) {y:V}{u:Value}(ry:RelV y u):KV (zb4 kvs k y) (stored vs k u):=by
 unfold zb4 stored
 rw [r.any k]
 by_cases e:(vs.any λkv=>decide (kv.1=k))=true
 ·rw [if_pos e,if_pos e];exact r.repl k ry
 ·rw [if_neg e,if_neg e];exact Paired.snoc r ⟨rfl,ry⟩
theorem KV.length {kvs:List (κ × V)}{vs:List (κ × Value)}(r:KV kvs vs):kvs.length=vs.length:=Paired.length r
end
theorem zia {P:Program}{w:World}{k:Key}{u:Value}(r:RelV (kV k) u):(zcg P w).is k u=true:=by
 cases k with
 | inl i=>obtain ⟨t,e⟩:=(show ∃t,u=Value.int i t from r);subst e;exact zmf P w i t
 | inr x=>obtain ⟨t,e⟩:=(show ∃t,u=Value.str x t from r);subst e;exact zr0 P w x t
theorem znp {P:Program}{w:World}:∀{ks:List Key}{us:List Value},Vals (ks.map kV) us->ItemsAre (zcg P w) ks us
 | [],_,r=>by rw [List.map_nil] at r;cases r;exact .nil
 | k :: ks,_,r=>by
  rw [List.map_cons] at r
  cases r with
  | cons h t=>exact .cons (zia h) (znp t)
abbrev KT (H:Hp):List (List Key × V)->List (List Key × Addr × Value)->Prop:=Paired λp q=>p.1=q.1/\H q.2.1=some (.tup (p.1.map kV))/\RelV p.2 q.2.2
theorem KT.val {H:Hp}{kvs:List (List Key × V)}{xs:List (List Key × Addr × Value)}(r:KT H kvs xs) (k:List Key):RelO (zci kvs k) ((atKey xs k).map (·.2)):=by
 induction r with
 | nil=>exact True.intro
 | @cons p q ps qs h t ih =>
  obtain ⟨h1,_,h2⟩:=h
  by_cases e:p.1=k
  ·have e':q.1=k:=h1.symm.trans e
   have b:atKey (q :: qs) k=some q.2:=by simp [atKey,List.find?_cons,e']
   rw [zh8 e,b];exact h2
  ·have e':¬q.1=k:=λz=>e (h1.trans z)
   have b:atKey (q :: qs) k=atKey qs k:=by simp [atKey,List.find?_cons,e']
   rw [zh9 e,b];exact ih
theorem KT.repl {H:Hp}{kvs:List (List Key × V)}{xs:List (List Key × Addr × Value)}(r:KT H kvs xs) (k:List Key) {y:V}{u:Value}(ry:RelV y u) :
  KT H (kvs.map λkv=>if kv.1=k then (kv.1,y) else kv) (xs.map (putAt k u)):=by
 induction r with
 | nil=>exact .nil
 | @cons p q ps qs h t ih =>
  rw [List.map_cons,List.map_cons]
  refine .cons ?_ ih
  obtain ⟨h1,h2,h3⟩:=h
  unfold putAt
  by_cases e:p.1=k
  ·rw [if_pos e,if_pos (h1.symm.trans e)];exact ⟨h1,h2,ry⟩
  ·rw [if_neg e,if_neg (λz=>e (h1.trans z))];exact ⟨h1,h2,h3⟩
theorem KT.put {H:Hp}{kvs:List (List Key × V)}{xs:List (List Key × Addr × Value)}(r:KT H kvs xs) (k:List Key) {b:Addr}{y:V}{u:Value}(hb:H b=some (.tup (k.map kV))) (ry:RelV y u) :
  KT H (zb4 kvs k y) (storedH xs k b u):=by
 have e:(kvs.any λkv=>decide (kv.1=k))=(atKey xs k).isSome:=by
  rw [zno,(r.val k).isSome_eq,Option.isSome_map]
 unfold zb4 storedH
 rw [e]
 by_cases q:(atKey xs k).isSome=true
 ·rw [if_pos q,if_pos q];exact r.repl k ry
 ·rw [if_neg q,if_neg q];exact Paired.snoc r ⟨rfl,hb,ry⟩
theorem KT.keeps {H H':Hp}{kvs:List (List Key × V)}{xs:List (List Key × Addr × Value)}(r:KT H kvs xs) (ht:∀b ys,H b=some (.tup ys)->H' b=some (.tup ys)):KT H' kvs xs :=
 Paired.mapP r λ_ _ z=>⟨z.1,ht _ _ z.2.1,z.2.2⟩
section
variable {P:Program}{w:World}{H:Hp}{h:Heap}{a:Addr}
theorem znq {u:HO}(ok:HOk P w H h) (e:Rd H a u):ObjOk P w H h a u:=e.ok ok
theorem zjy {kvs:List (Key × V)}(ok:HOk P w H h) (e:Rd H a (.dK kvs)):kvs.length<=sizeLine/\(a == sysModules)=false/\∃vs,KV kvs vs/\h.DictOf (zcg P w) a vs :=
 show ObjOk P w H h a (.dK kvs) from znq ok e
theorem znr {kvs:List (Key × V)}(ok:HOk P w H h) (e:H a=some (.dK kvs)):kvs.length<=sizeLine/\(a == sysModules)=false/\∃vs,KV kvs vs/\h.DictOf (zcg P w) a vs:=zjy ok (.inl e)
theorem zjz {ks:List Key}(ok:HOk P w H h) (e:H a=some (.tup (ks.map kV))):(tupleKind (zcg P w)).is h ks a:=by
 obtain ⟨_,its,r,o,h1,h2,n,h3,_⟩:=(show ObjOk P w H h a (.tup (ks.map kV)) from ok a _ e)
 exact ⟨o,its.toArray,n,h1,h2,h3,by simpa using znp r⟩
theorem zj0 {kvs:List (List Key × V)}(ok:HOk P w H h) (e:Rd H a (.dT kvs)):kvs.length<=sizeLine/\(a == sysModules)=false /\
  ∃xs,KT H kvs xs/\h.DictOfH (tupleKind (zcg P w)) a xs:=by
 obtain ⟨z,y,xs,r,o,es,ep,h1,h2,h3,h4,h5⟩:=(show ObjOk P w H h a (.dT kvs) from znq ok e)
 refine ⟨z,y,xs,r,o,es,ep,h1,h2,h3,h4,λx hx=>?_,h5⟩
 have all:∀{l:List (List Key × V)} {m:List (List Key × Addr × Value)},KT H l m->∀x∈m,(tupleKind (zcg P w)).is h x.1 x.2.1:=by
  intro l m q
  induction q with
  | nil=>intro x hx;exact nomatch hx
  | @cons p q ps qs hq t ih =>
   intro x hx
   rcases List.mem_cons.mp hx with e|hx
   ·subst e
    exact zjz ok (by rw [<-hq.1];exact hq.2.1)
   ·exact ih x hx
 exact all r x hx
theorem zu2 {kvs:List (List Key × V)}(ok:HOk P w H h) (e:H a=some (.dT kvs)):kvs.length<=sizeLine/\(a == sysModules)=false /\
  ∃xs,KT H kvs xs/\h.DictOfH (tupleKind (zcg P w)) a xs:=zj0 ok (.inl e)
end
def DGet (H:Hp) (a:Addr) (y:V) (r:Option V):Prop :=
 (∃kvs k,Rd H a (.dK kvs)/\y=kV k/\r=zci kvs k)\/∃kvs k b,Rd H a (.dT kvs)/\y=.ref b/\H b=some (.tup (k.map kV))/\r=zci kvs k
def DPut (H:Hp) (a:Addr) (y v:V) (H':Hp):Prop :=
 (∃kvs k,H a=some (.dK kvs)/\y=kV k/\kvs.length<sizeLine/\H' = upd H a (.dK (zb4 kvs k v))) \/
 ∃kvs k b,H a=some (.dT kvs)/\y=.ref b/\H b=some (.tup (k.map kV))/\kvs.length<sizeLine/\H' = upd H a (.dT (zb4 kvs k v))
theorem DGet.k {H:Hp}{a:Addr}{kvs:List (Key × V)}{k:Key}(e:H a=some (.dK kvs)):DGet H a (kV k) (zci kvs k):=.inl ⟨kvs,k,.inl e,rfl,rfl⟩
theorem DPut.k {H:Hp}{a:Addr}{kvs:List (Key × V)}{k:Key}{v:V}(e:H a=some (.dK kvs)) (hl:kvs.length<sizeLine):DPut H a (kV k) v (upd H a (.dK (zb4 kvs k v))):=.inl ⟨kvs,k,e,rfl,hl,rfl⟩
section
variable {X:Cx}{pins:List (Addr × Obj)}{σ:St}{H:Hp}{s:Shared}{a:Addr}{y v:V}{u r:Value}{o:Option V}{A:Around}{E:Value->Shared->Prop}
theorem Inv.big (I:Inv X pins σ H s):sysModules<s.heap.objs.size:=by
 have h:mainGlobals<s.heap.objs.size:=(I.mod.glob.keeps I.bk).lt
 exact Nat.lt_trans (by decide) h
theorem zu3 {Q:Value->Shared->Prop}(hu:A.units+1<cLine) (I:Inv X pins σ H s) (g:DGet H a y (some v)) (ry:RelV y u) (h:∀w' s',Inv X pins σ H s'->RelV v w'->Q w' s') :
  wpAny (model X.prog X.w) A (getItem (.ref a) u) Q E s:=by
 rcases g with ⟨kvs,k,e,ey,l⟩|⟨kvs,k,b,e,ey,eb,l⟩
 ·subst ey
  obtain ⟨z,hd,vs,rel,dd⟩:=zjy I.hok e
  obtain ⟨w',hw,rw'⟩:=RelO.some_of (v:=v) (o:=valueAt vs k) (by rw [l];exact rel.val k)
  exact wpAny_getItem_of (zia ry) dd.mapOf hw (h w' _ (I.tok _) rw')
 ·subst ey
  cases (show u=Value.ref b from ry)
  obtain ⟨z,hd,xs,rel,dd⟩:=zj0 I.hok e
  obtain ⟨w',hw,rw'⟩:=RelO.some_of (v:=v) (o:=(atKey xs k).map (·.2)) (by rw [l];exact rel.val k)
  obtain ⟨p,hp,hp2⟩:=Option.map_eq_some_iff.mp hw
  refine wpAny_getItem_heap (tupleKind_room_in1 hu) (zjz I.hok eb) dd hp ?_
  rw [hp2]
  exact h w' _ (I.tok _) rw'
theorem zj1 {h':Heap}{t':Nat}{ob:HO}(I:Inv X pins σ H s) (mu:Mut (H a)) (hs:Heap.SameBut a s.heap h') (he:∃q,h'.get? a=some q) (new:ObjOk X.prog X.w (upd H a ob) h' a ob) :
  Inv X pins σ (upd H a ob) { s with heap:=h',toks:=t' } :=
 I.write (x:=a) (e:=a) mu (.inl rfl) (λb q hb z=>(hs.2 b hb).trans z) he new
theorem zns {P:Program}{w:World}{H':Hp}{h':Heap}{kvs:List (Key × V)}{vs:List (Key × Value)}(z:kvs.length<=sizeLine) (hd:(a == sysModules)=false) (rel:KV kvs vs) (dd:h'.DictOf (zcg P w) a vs) :
  ObjOk P w H' h' a (.dK kvs):=⟨z,hd,vs,rel,dd⟩
theorem zu4 {H':Hp}{Q:Unit->Shared->Prop}(hu:A.units+1<cLine) (I:Inv X pins σ H s) (g:DPut H a y v H') (ry:RelV y u) (rv:RelV v r) (h:∀s',Inv X pins σ H' s'->Q () s') :
  wpAny (model X.prog X.w) A (setItem (.ref a) u r) Q E s:=by
 rcases g with ⟨kvs,k,e,ey,l,eH⟩|⟨kvs,k,b,e,ey,eb,l,eH⟩
 ·subst ey eH
  obtain ⟨z,hd,vs,rel,dd⟩:=znr I.hok e
  have hz:vs.length<=sizeLine:=by rw [<-rel.length];exact z
  have hl:(zb4 kvs k v).length<=sizeLine:=by have:=zjx kvs k v;omega
  refine wpAny_setItem_pairs (hsz:=hz) (zia ry) dd λh' dd' hs=>h _ ?_
  have he:∃q,h'.get? a=some q:=let ⟨q,_,_,hq,_⟩:=dd';⟨q,hq⟩
  exact zj1 I (by rw [e];exact True.intro) hs he (zns hl hd (rel.put k rv) dd')
 ·subst ey eH
  cases (show u=Value.ref b from ry)
  obtain ⟨z,hd,xs,rel,dd⟩:=zu2 I.hok e
  have hz:xs.length<=sizeLine:=by rw [<-Paired.length rel];exact z
  have hl:(zb4 kvs k v).length<=sizeLine:=by have:=zjx kvs k v;omega
  refine wpAny_setItem_heap (hsz:=hz) (tupleKind_room_in1 hu) (zjz I.hok eb) dd λh' dd' hs=>h _ ?_
  obtain ⟨q,es,ep,hq,h2,h3,h4,_,h5⟩:=dd'
  refine zj1 I (by rw [e];exact True.intro) hs ⟨q,hq⟩ ⟨hl,hd,_,(rel.put k eb rv).keeps λc ys ec=>?_,q,es,ep,hq,h2,h3,h4,h5⟩
  rw [zaj (zcr ec e (λz=>nomatch z))]
  exact ec
end
section
variable {X:Cx}{pins:List (Addr × Obj)}{σ:St}{H:Hp}{s:Shared}{a:Addr}{kvs:List (Key × V)}{k:Key}{u:Value}{A:Around}{E:Value->Shared->Prop}
end
def zj2 (i:Expr):Prop:=∀ov iv,subscripted i false ov iv=operate [ov,iv] (getItem ov iv)
theorem zu5 {prog:Program}{w:World}{A:Around}{E:Value->Shared->Prop}{s:Shared}{env:Env}{value slice:Expr}{pos:Pos}{T id:String}{Q:Value->Shared->Prop}
  (hl:typeLookup (.type T) "__getitem__" = pure (some (.builtin id))) (hs:zj2 slice)
  (h:wpAny (model prog w) A (eval value env) (λo s₁=>wpAny (model prog w) A (eval slice env) (λi s₂=>s₂.TypeIs o T/\wpAny (model prog w) A (getItem o i) Q E s₂) E s₁) E s) :
  wpAny (model prog w) A (eval (.Subscript value slice pos) env) Q E s:=by
 refine Subscript_ (wpAny_mono h (λo s₁ h₁=>wpAny_mono h₁ (λi s₂ h₂=>?_) λ_ _ x=>x) λ_ _ x=>x)
 obtain ⟨hT,h₂⟩:=h₂
 unfold subscriptTail
 refine qwb ?_
 rw [getitemInPython_of_ne hT.not_modules]
 refine qwb (wpAny_specialOf hT hl ?_)
 have fin:wpAny (model prog w) A (subscripted slice false o i) (λr s₃=>wpAny (model prog w) A (letTemporaryGo value o r >>= λ_=>pure r) Q E s₃) E s₂:=by
  rw [hs o i]
  exact wpAny_operating (wpAny_mono h₂ (λr s₃ h₃=>qwb (wpAny_letTemporaryGo (qwp h₃))) λ_ _ x=>x)
 first
  | exact qwp (qwb fin)
  | exact qwb (qwp (qwb fin))
  | exact qwb fin
theorem zu6 {X:Cx}{pins:List (Addr × Obj)}{σ:St}{H:Hp}{s:Shared}{a:Addr}{y:V}{o:Option V}(I:Inv X pins σ H s) (g:DGet H a y o):s.TypeIs (.ref a) "dict":=by
 rcases g with ⟨kvs,k,e,_,_⟩|⟨kvs,k,b,e,_,_,_⟩
 ·obtain ⟨_,_,vs,_,dd⟩:=zjy I.hok e
  exact dd.typeIs
 ·obtain ⟨_,_,xs,_,dd⟩:=zj0 I.hok e
  exact dd.typeIs
def zu7 (td ty:TE):TE:=λσ H Q=>td σ H λx H1=>ty σ H1 λy H2=>∃a v,x=.ref a/\DGet H2 a y (some v)/\Q v H2
def zu8 (td ty tv:TE):TS:=λD σ H=>tv σ H λv H1=>td σ H1 λx H2=>ty σ H2 λy H3=>∃a H4,x=.ref a/\DPut H3 a y v H4/\D.nx σ H4
section
variable {X:Cx}{o i e value:Expr}{pos pos' tpos:Pos}{td ty tv:TE}
theorem zu9 (hu:X.A.units+1<cLine) (ho:PE X o td) (hi:PE X i ty) (hs:zj2 i):PE X (.Subscript o i pos) (zu7 td ty):=by
 intro pins s σ H Q I h
 refine zu5 PySem.F.slot_dict_getitem.lookup hs (thn (ho pins s σ H _ I h) λu s1 ⟨x,H1,I1,rx,q1⟩=>thn (hi pins s1 σ H1 _ I1 q1) λiv s2 ⟨y,H2,I2,ry,a,v,ex,g,q2⟩=>?_)
 subst ex
 obtain rfl:u=Value.ref a:=rx
 exact ⟨zu6 I2 g,zu3 hu I2 g ry λw' s3 I3 rw'=>⟨v,H2,I3,rw',q2⟩⟩
theorem zva (hu:X.A.units+1<cLine) (ho:PE X o td) (hi:PE X i ty) (hv:PE X value tv) (hs:swapsWith value (some (.Subscript o i pos')) pos.line X.env=pure false) :
  PS X (.Assign [.Subscript o i pos'] value pos) (zu8 td ty tv):=by
 intro pins s σ H D I h
 refine wpAny_Assign_Subscript (thn (hv pins s σ H _ I h) λr s1 ⟨v,H1,I1,rv,q1⟩=>thn (ho pins s1 σ H1 _ I1 q1) λu s2 ⟨x,H2,I2,rx,q2⟩=>thn (hi pins s2 σ H2 _ I2 q2) λiv s3 ⟨y,H3,I3,ry,a,H4,ex,g,q3⟩=>?_) hs
 subst ex
 obtain rfl:u=Value.ref a:=rx
 exact zu4 hu I3 g ry rv λs4 I4=>⟨σ,H4,I4,q3⟩
end
theorem zvb {P:Program}{w:World}{H:Hp}(h:Heap) (hb:sysModules<h.objs.size):ObjOk P w H (h.push { cls:=.type "dict",data:=.dict #[] }) h.objs.size (.dK []) :=
 ⟨Nat.zero_le _,beq_eq_false_iff_ne.mpr (Ne.symm (Nat.ne_of_lt hb)),[],.nil,Heap.DictOf.new h⟩
section
variable {X:Cx}{pos:Pos}
end
def zj3:List (TE × TE)->St->Hp->(List (V × V)->Hp->Prop)->Prop
 | [],_,H,Q=>Q [] H
 | (tk,tv) :: r,σ,H,Q=>tk σ H λx H1=>tv σ H1 λy H2=>zj3 r σ H2 λps H3=>Q ((x,y) :: ps) H3
abbrev VV:List (V × V)->List (Value × Value)->Prop:=Paired λp q=>RelV p.1 q.1/\RelV p.2 q.2
def PPs (X:Cx) (pos:Pos) (keys:List (Option Expr)) (values:List Expr) (trs:List (TE × TE)):Prop :=
 ∀(pins:List (Addr × Obj)) (s:Shared) (σ:St) (H:Hp) (Q:List (V × V)->Hp->Prop),Inv X pins σ H s->zj3 trs σ H Q ->
  wpAny (model X.prog X.w) X.A (evalPairs (pairTrees keys values X.env pos)) (λvs s'=>∃ps H',Inv X pins σ H' s'/\VV ps vs/\Q ps H') X.xe s
theorem zvc {X:Cx}{pos:Pos}:PPs X pos [] [] []:=λpins s σ H Q I h=>pairTrees_nil_walk ⟨[],H,I,.nil,h⟩
theorem zj4 {X:Cx}{pos:Pos}{k v:Expr}{ks:List (Option Expr)}{vs:List Expr}{tk tv:TE}{trs:List (TE × TE)}(hk:PE X k tk) (hv:PE X v tv) (hr:PPs X pos ks vs trs) :
  PPs X pos (some k :: ks) (v :: vs) ((tk,tv) :: trs):=λpins s σ H Q I h =>
 pairTrees_cons_walk (thn (hk pins s σ H _ I h) λu s1 ⟨x,H1,I1,rx,q1⟩=>thn (hv pins s1 σ H1 _ I1 q1) λw2 s2 ⟨y,H2,I2,ry,q2⟩ =>
  thn (hr pins s2 σ H2 _ I2 q2) λws s3 ⟨ps,H3,I3,rel,q3⟩=>⟨(x,y) :: ps,H3,I3,.cons ⟨rx,ry⟩ rel,q3⟩)
noncomputable def zer (kvs more:List (Key × V)):List (Key × V):=more.foldl (λacc kv=>zb4 acc kv.1 kv.2) kvs
theorem KV.merge:∀{more:List (Key × V)}{rs:List (Key × Value)}{kvs:List (Key × V)}{vs:List (Key × Value)},KV more rs->KV kvs vs->KV (zer kvs more) (merged vs rs):=by
 intro more rs kvs vs r
 unfold KV at r
 induction r generalizing kvs vs with
 | nil=>intro q;exact q
 | @cons p q ps qs h t ih =>
  intro r0
  have e:KV (zb4 kvs p.1 p.2) (stored vs q.1 q.2):=by
   have:=r0.put p.1 h.2
   rw [<-h.1];exact this
  exact ih e
theorem znt:∀(more kvs:List (Key × V)),(zer kvs more).length<=kvs.length+more.length
 | [],kvs=>by show kvs.length<=kvs.length+0;omega
 | p :: r,kvs=>by
  have h1:=znt r (zb4 kvs p.1 p.2)
  have h2:=zjx kvs p.1 p.2
  show (zer (zb4 kvs p.1 p.2) r).length<=_
  rw [List.length_cons];omega
theorem znu {P:Program}{w:World}:∀{kvs:List (Key × V)}{ws:List (Value × Value)},VV (kvs.map λkv=>(kV kv.1,kv.2)) ws->∃rs,Carries (zcg P w) ws rs/\KV kvs rs
 | [],_,r=>by rw [List.map_nil] at r;cases r;exact ⟨[],True.intro,.nil⟩
 | p :: kvs,_,r=>by
  rw [List.map_cons] at r
  cases r with
  | @cons a b as bs h t =>
   obtain ⟨rs,c,q⟩:=znu (P:=P) (w:=w) t
   obtain ⟨b1,b2⟩:=b
   exact ⟨(p.1,b2) :: rs,⟨zia h.1,rfl,c⟩,.cons ⟨rfl,h.2⟩ q⟩
def zvd (trs:List (TE × TE)):TE:=λσ H Q=>∀p,H p=none->zj3 trs σ (upd H p (.dK [])) λps H2=>H2 p=some (.dK [])/\∃kvs:List (Key × V),ps=kvs.map (λkv=>(kV kv.1,kv.2))/\kvs.length<=15/\Q (.ref p) (upd H2 p (.dK (zer [] kvs)))
theorem zve {X:Cx}{pos:Pos}{keys:List (Option Expr)}{values:List Expr}{trs:List (TE × TE)}(h:PPs X pos keys values trs) (hall:keys.all (·.isSome)=true) (hl:keys.length=values.length) (h0:keys≠[])
  (h15:keys.length<=15):PE X (.Dict keys values pos) (zvd trs):=by
 intro pins s σ H Q I q
 have hn:=I.hok.fresh (qlr s.heap.objs.size)
 have I1:=I.laid (a:=s.heap.objs.size) (o:=.dK []) (h':=s.heap.push { cls:=.type "dict",data:=.dict #[] }) (t':=s.toks) (λ_ _ q=>qps _ q) (qlr _) (zvb s.heap I.big)
 refine wpAny_Dict_walk (knd:=zcg X.prog X.w) hall hl h0 h15 (thn (h pins _ σ _ _ I1 (q _ hn)) λws s2 ⟨ps,H2,I2,rel,e,kvs,ep,lk,q2⟩=>?_)
 subst ep
 obtain ⟨rs,c,rk⟩:=znu (P:=X.prog) (w:=X.w) rel
 obtain ⟨z,hd,vs0,r0,dd⟩:=znr I2.hok e
 cases r0
 refine ⟨rs,c,dd,λh' dd' hs=>⟨.ref s.heap.objs.size,_,?_,rfl,q2⟩⟩
 have hz:(zer [] kvs).length<=sizeLine:=by
  have h1:=znt kvs []
  rw [List.length_nil] at h1
  rw [sizeLine_eq];omega
 have he:∃q,h'.get? s.heap.objs.size=some q:=let ⟨q,_,_,hq,_⟩:=dd';⟨q,hq⟩
 exact zj1 I2 (by rw [e];exact True.intro) hs he (zns hz hd (rk.merge .nil) dd')
section
variable {X:Cx}{pins:List (Addr × Obj)}{σ:St}{H:Hp}{s:Shared}{a:Addr}{y d:V}{u r:Value}{o:Option V}{A:Around}{E:Value->Shared->Prop}
end
section
variable {X:Cx}{o e f:Expr}{apos cpos:Pos}{td ty tx:TE}
end
section
variable {X:Cx}{pins:List (Addr × Obj)}{σ:St}{H:Hp}{s:Shared}{a:Addr}{kvs:List (Key × V)}{A:Around}{E:Value->Shared->Prop}
end
section
variable {X:Cx}{pins:List (Addr × Obj)}{σ:St}{H:Hp}{s:Shared}{a:Addr}{y:V}{u:Value}{A:Around}{E:Value->Shared->Prop}
end
section
variable {X:Cx}
end
section
variable {κ:Type} [DecidableEq κ]
end
end L2
namespace L3
abbrev St:=L2.St
open PySem PySem.Spec PyProof.Rows L2
inductive D where
 | non|bl (b:Bool)|int (i:Int)|str (x:Str)|tup (xs:List D)|ref (n:Nat)|fn (a:Addr)
structure LamG where
 qual:Str
 params:Arguments
 body:Expr
 scope:Scope
inductive Ob where
 | lst (xs:List D)|flst (xs:List D)|iset (f:Int->Bool) (n:Nat)|dct (kvs:List (Key × D))|fdct (kvs:List (Key × D))|tdct (kvs:List (List Key × D))|ftdct (kvs:List (List Key × D))|tset (ks:List (List Int))|fnc (x:Str)|exc (c:Str)|tab (x:Str)|lam (g:LamG) (caps:List (Str × D))|dead
noncomputable def Ob.mut:Ob->Bool
 | .flst _=>false
 | .fnc _=>false
 | .lam _ _=>false
 | .dead=>false
 | _=>true
abbrev Sto:=List Ob
abbrev Lo:=List (Option D)
mutual
inductive RD (ρ:List Addr) (H:Hp):D->V->Prop where
 | non:RD ρ H .non .non
 | bl (b:Bool):RD ρ H (.bl b) (.bl b)
 | int (i:Int):RD ρ H (.int i) (.int i)
 | str (x:Str):RD ρ H (.str x) (.str x)
 | tup {xs:List D} {a:Addr} {vs:List V}:H a=some (.tup vs)->RDs ρ H xs vs->RD ρ H (.tup xs) (.ref a)
 | ref {n:Nat} {a:Addr}:ρ[n]? = some a->RD ρ H (.ref n) (.ref a)
 | fn (a:Addr):RD ρ H (.fn a) (.ref a)
inductive RDs (ρ:List Addr) (H:Hp):List D->List V->Prop where
 | nil:RDs ρ H [] []
 | cons {x:D} {v:V} {xs:List D} {vs:List V}:RD ρ H x v->RDs ρ H xs vs->RDs ρ H (x :: xs) (v :: vs)
end
structure Ext0 (ρ:List Addr) (H:Hp) (ρ':List Addr) (H':Hp):Prop where
 pre:∀(n:Nat) (a:Addr),ρ[n]? = some a->ρ'[n]? = some a
 tup:∀a vs,H a=some (.tup vs)->H' a=some (.tup vs)
 frz:∀a o u,H a=some (.frz o u)->H' a=some (.frz o u)
structure Ext (ρ:List Addr) (H:Hp) (ρ':List Addr) (H':Hp):Prop extends Ext0 ρ H ρ' H' where
 out:∀a (vs:HO),H a=some vs->(∀n:Nat,ρ[n]?≠some a)->H' a=some vs/\∀n:Nat,ρ'[n]?≠some a
theorem Ext.refl (ρ:List Addr) (H:Hp):Ext ρ H ρ H:=⟨⟨λ_ _ h=>h,λ_ _ h=>h,λ_ _ _ h=>h⟩,λ_ _ h n=>⟨h,n⟩⟩
theorem Ext.trans {ρ ρ1 ρ2:List Addr}{H H1 H2:Hp}(a:Ext ρ H ρ1 H1) (b:Ext ρ1 H1 ρ2 H2):Ext ρ H ρ2 H2 :=
 ⟨⟨λn x h=>b.pre n x (a.pre n x h),λn x h=>b.tup n x (a.tup n x h),λn o x h=>b.frz n o x (a.frz n o x h)⟩,λx vs h n=>let ⟨h1,n1⟩:=a.out x vs h n;b.out x vs h1 n1⟩
section
variable {ρ ρ':List Addr}{H H':Hp}
mutual
theorem RD.mono0 (e:Ext0 ρ H ρ' H'):∀{d:D}{v:V},RD ρ H d v->RD ρ' H' d v
 | _,_,.non=>.non
 | _,_,.bl b=>.bl b
 | _,_,.int i=>.int i
 | _,_,.str x=>.str x
 | _,_,.tup h r=>.tup (e.tup _ _ h) (RDs.mono0 e r)
 | _,_,.ref h=>.ref (e.pre _ _ h)
 | _,_,.fn a=>.fn a
theorem RDs.mono0 (e:Ext0 ρ H ρ' H'):∀{d:List D}{v:List V},RDs ρ H d v->RDs ρ' H' d v
 | _,_,.nil=>.nil
 | _,_,.cons r q=>.cons (RD.mono0 e r) (RDs.mono0 e q)
end
theorem RD.mono {d:D}{v:V}(r:RD ρ H d v) (e:Ext ρ H ρ' H'):RD ρ' H' d v:=r.mono0 e.toExt0
theorem RDs.mono {d:List D}{v:List V}(r:RDs ρ H d v) (e:Ext ρ H ρ' H'):RDs ρ' H' d v:=r.mono0 e.toExt0
theorem RDs.length:∀{d:List D}{v:List V},RDs ρ H d v->d.length=v.length
 | _,_,.nil=>rfl
 | _,_,.cons _ q=>congrArg (· + 1) (RDs.length q)
theorem RDs.get:∀{d:List D}{v:List V}{i:Nat}{x:D},RDs ρ H d v->d[i]? = some x->∃u,v[i]? = some u/\RD ρ H x u
 | _,_,_,_,.nil,e=>by simp at e
 | _,_,0,_,.cons r _,e=>by simp at e;subst e;exact ⟨_,rfl,r⟩
 | _,_,i+1,x,.cons _ q,e=>by
  obtain ⟨u,h1,h2⟩:=RDs.get (i:=i) (x:=x) q (by simpa using e)
  exact ⟨u,by simpa using h1,h2⟩
theorem RDs.set {x:D}{u:V}(r:RD ρ H x u):∀{d:List D}{v:List V}(i:Nat),RDs ρ H d v->RDs ρ H (d.set i x) (v.set i u)
 | _,_,_,.nil=>.nil
 | _,_,0,.cons _ q=>.cons r q
 | _,_,i+1,.cons p q=>.cons p (RDs.set r i q)
theorem RDs.append:∀{d e:List D}{v w:List V},RDs ρ H d v->RDs ρ H e w->RDs ρ H (d++e) (v++w)
 | _,_,_,_,.nil,q=>q
 | _,_,_,_,.cons r p,q=>.cons r (RDs.append p q)
theorem RDs.take:∀{d:List D}{v:List V}(n:Nat),RDs ρ H d v->RDs ρ H (d.take n) (v.take n)
 | _,_,0,_=>.nil
 | _,_,_+1,.nil=>.nil
 | _,_,n+1,.cons r t=>.cons r (RDs.take n t)
theorem RDs.drop:∀{d:List D}{v:List V}(n:Nat),RDs ρ H d v->RDs ρ H (d.drop n) (v.drop n)
 | _,_,0,r=>r
 | _,_,_+1,.nil=>.nil
 | _,_,n+1,.cons _ t=>RDs.drop n t
theorem RDs.rep {xs:List D}{us:List V}(h:RDs ρ H xs us):∀k:Nat,RDs ρ H (List.replicate k xs).flatten (List.replicate k us).flatten
 | 0=>.nil
 | k+1=>by
  rw [List.replicate_succ,List.replicate_succ,List.flatten_cons,List.flatten_cons]
  exact RDs.append h (RDs.rep h k)
theorem RDs.one {x:D}{vs:List V}(h:RDs ρ H [x] vs):∃v,vs=[v]/\RD ρ H x v:=by
 cases h with
 | cons r q=>cases q;exact ⟨_,rfl,r⟩
theorem RDs.two {x y:D}{vs:List V}(h:RDs ρ H [x,y] vs):∃v u,vs=[v,u]/\RD ρ H x v/\RD ρ H y u:=by
 cases h with
 | cons r q=>obtain ⟨u,rfl,r2⟩:=q.one;exact ⟨_,_,rfl,r,r2⟩
end
def Fz (K:QFg) (H:Hp) (a:Addr) (xs:List V):Prop:=(∃o,H a=some (.frz o (.lst xs))) \/
  ∃(o:Obj) (its:Array Value) (n:Nat),K.lookup a=some o/\o.cls=.type "list"/\o.dict=none/\o.data=.seq its n/\its.size<=sizeLine/\Vals xs its.toList
theorem Fz.sq {K:QFg}{H:Hp}{a:Addr}{xs:List V}(h:Fz K H a xs):SqL K H a xs:=by
 rcases h with ⟨o,h⟩|h
 ·exact .inl (.inr ⟨o,h⟩)
 ·exact .inr h
noncomputable def zcz (x:Str):Str:=x++".<locals>."++"<lambda>"
noncomputable abbrev hTr:HO:=.ext λ_=>True
def CodeF (H:Hp) (q:Str) (c:Addr):Prop:=∃oc vs t,H c=some (.frz oc hTr)/\oc.data=.fields vs/\vs[1]? = some (.str q t)
def TabOk (H:Hp) (q:Str) (ps:Array Value):Prop:=TriplesOk ps.toList/\∀pos cv,codeAmong pos ps.toList=some cv->∃c,cv=.ref c/\CodeF H q c
inductive CellsR (ρ:List Addr) (H:Hp):List (Str × Addr)->List (Str × D)->Prop where
 | nil:CellsR ρ H [] []
 | cons {x:Str} {c:Addr} {o:Obj} {u:Value} {v:V} {d:D} {cs:List (Str × Addr)} {ds:List (Str × D)}:H c=some (.frz o hTr)->o.data=.cell (some u)->RelV v u->RD ρ H d v->CellsR ρ H cs ds->CellsR ρ H ((x,c) :: cs) ((x,d) :: ds)
theorem CodeF.mono {H H':Hp}{q:Str}{c:Addr}(h:CodeF H q c) (e:∀a o u,H a=some (.frz o u)->H' a=some (.frz o u)):CodeF H' q c :=
 let ⟨oc,vs,t,h1,h2⟩:=h;⟨oc,vs,t,e _ _ _ h1,h2⟩
theorem TabOk.mono {H H':Hp}{q:Str}{ps:Array Value}(h:TabOk H q ps) (e:∀a o u,H a=some (.frz o u)->H' a=some (.frz o u)):TabOk H' q ps :=
 ⟨h.1,λpos cv z=>let ⟨c,e1,k⟩:=h.2 pos cv z;⟨c,e1,k.mono e⟩⟩
theorem CellsR.mono {ρ ρ':List Addr}{H H':Hp}(e:Ext0 ρ H ρ' H') {cs:List (Str × Addr)}{ds:List (Str × D)}(h:CellsR ρ H cs ds):CellsR ρ' H' cs ds:=by
 induction h with
 | nil=>exact .nil
 | cons h1 h2 h3 h4 _ ih=>exact .cons (e.frz _ _ _ h1) h2 h3 (h4.mono0 e) ih
def ObR (K:QFg) (ρ:List Addr) (H:Hp):Ob->Addr->Prop
 | .lst xs,a=>∃vs,H a=some (.lst vs)/\RDs ρ H xs vs
 | .flst xs,a=>∃vs,Fz K H a vs/\RDs ρ H xs vs
 | .iset f n,a=>H a=some (.set f n)
 | .dct kvs,a=>∃vs,H a=some (.dK ((kvs.map (·.1)).zip vs))/\RDs ρ H (kvs.map (·.2)) vs
 | .fdct kvs,a=>∃o vs,H a=some (.frz o (.dK ((kvs.map (·.1)).zip vs)))/\RDs ρ H (kvs.map (·.2)) vs
 | .tdct kvs,a=>∃vs,H a=some (.dT ((kvs.map (·.1)).zip vs))/\RDs ρ H (kvs.map (·.2)) vs
 | .ftdct kvs,a=>∃o vs,H a=some (.frz o (.dT ((kvs.map (·.1)).zip vs)))/\RDs ρ H (kvs.map (·.2)) vs
 | .tset ks,a=>∃xs:List (List Int × Addr),ks=xs.map (·.1)/\H a=some (.ext (TS.TSet a xs))/\∀p∈xs,H p.2=some (.tup (p.1.map V.int))
 | .fnc x,a=>PySem.W.nsIn K mainGlobals x=some (some (.ref a))/\∃o,K.lookup a=some o
 | .exc c,a=>∃C,PySem.W.nsIn K mainGlobals c=some (some (.ref C))/\H a=some (.ext (λh=>∃o,h.get? a=some o/\o.cls=.ref C))
 | .tab x,a=>∃c ps,PySem.W.tabIn K x=some (c,a)/\PySem.W.codeHdIn K c a=true/\H a=some (.tbl ps)/\TabOk H (zcz x) ps
 | .lam g caps,a=>∃cs pm c ctv,H a=some (.frz (PySem.W.kla_obj "<lambda>" g.qual g.params g.body g.scope cs pm c ctv) hTr)/\CodeF H g.qual c/\CellsR ρ H cs caps
 | .dead,a=>∃o fd,H a=some (.frz o hTr)/\o.data=.func fd
structure Sim (K:QFg) (ρ:List Addr) (S:Sto) (H:Hp):Prop where
 len:ρ.length=S.length
 nd:∀(i j:Nat) (a:Addr) (o1 o2:Ob),ρ[i]? = some a->ρ[j]? = some a->S[i]? = some o1->S[j]? = some o2->o1.mut=true->o2.mut=true->i=j
 at':∀(n:Nat) (a:Addr) (o:Ob),ρ[n]? = some a->S[n]? = some o->ObR K ρ H o a
section
variable {K:QFg}{ρ ρ':List Addr}{H:Hp}{S:Sto}
theorem zb1 {p:Addr}{o:HO}(hp:H p=none):Ext ρ H ρ (upd H p o) :=
 ⟨⟨λ_ _ h=>h,λa vs h=>by rw [zaj (zbd h hp)];exact h,λa o vs h=>by rw [zaj (zbd h hp)];exact h⟩,λa vs h n=>⟨by rw [zaj (zbd h hp)];exact h,n⟩⟩
theorem zib {p:Addr}{o:HO}{ys:List V}(hp:H p=some (.lst ys)):Ext0 ρ H ρ (upd H p o) :=
 ⟨λ_ _ h=>h,λa vs h=>by rw [zaj (zcr h hp (by intro z;cases z))];exact h,λa o vs h=>by rw [zaj (zcr h hp (by intro z;cases z))];exact h⟩
def zfh (u:HO):Prop:=(∀vs,u≠.tup vs)/\∀o v,u≠.frz o v
theorem znv (ys:List V):zfh (.lst ys):=⟨λ_ z=>(by cases z),λ_ _ z=>(by cases z)⟩
theorem zc0 {p:Addr}{o u:HO}(hp:H p=some u) (hu:zfh u):Ext0 ρ H ρ (upd H p o) :=
 ⟨λ_ _ h=>h,λa vs h=>by rw [zaj (zcr h hp (λz=>hu.1 vs z.symm))];exact h,λa o vs h=>by rw [zaj (zcr h hp (λz=>hu.2 o vs z.symm))];exact h⟩
theorem znw {p:Addr}{o u:HO}{n:Nat}(hn:ρ[n]? = some p) (hp:H p=some u) (hu:zfh u):Ext ρ H ρ (upd H p o) :=
 ⟨zc0 hp hu,λa vs h hm=>⟨by rw [zaj (λz=>hm n (by rw [z];exact hn))];exact h,hm⟩⟩
theorem zj5 {p:Addr}{o:HO}{ys:List V}{n:Nat}(hn:ρ[n]? = some p) (hp:H p=some (.lst ys)):Ext ρ H ρ (upd H p o) :=
 ⟨zib hp,λa vs h hm=>⟨by rw [zaj (λz=>hm n (by rw [z];exact hn))];exact h,hm⟩⟩
theorem ObR.laid {o:Ob}{a p:Addr}{u:HO}(h:ObR K ρ H o a) (hp:H p=none):ObR K ρ (upd H p u) o a:=by
 cases o with
 | lst xs =>
  obtain ⟨vs,e,r⟩:=h
  exact ⟨vs,by rw [zaj (zbd e hp)];exact e,r.mono (zb1 hp)⟩
 | flst xs =>
  obtain ⟨vs,e,r⟩:=h
  refine ⟨vs,?_,r.mono (zb1 hp)⟩
  rcases e with ⟨o,e⟩|e
  ·exact .inl ⟨o,by rw [zaj (zbd e hp)];exact e⟩
  ·exact .inr e
 | iset f n =>
  show upd H p u a=some (.set f n)
  have e:H a=some (.set f n):=h
  rw [zaj (zbd e hp)];exact e
 | dct kvs =>
  obtain ⟨vs,e,r⟩:=h
  exact ⟨vs,by rw [zaj (zbd e hp)];exact e,r.mono (zb1 hp)⟩
 | fdct kvs =>
  obtain ⟨o,vs,e,r⟩:=h
  exact ⟨o,vs,by rw [zaj (zbd e hp)];exact e,r.mono (zb1 hp)⟩
 | tdct kvs =>
  obtain ⟨vs,e,r⟩:=h
  exact ⟨vs,by rw [zaj (zbd e hp)];exact e,r.mono (zb1 hp)⟩
 | ftdct kvs =>
  obtain ⟨o,vs,e,r⟩:=h
  exact ⟨o,vs,by rw [zaj (zbd e hp)];exact e,r.mono (zb1 hp)⟩
 | tset ks =>
  obtain ⟨xs,e0,e,r⟩:=h
  exact ⟨xs,e0,by rw [zaj (zbd e hp)];exact e,λp hq=>by rw [zaj (zbd (r p hq) hp)];exact r p hq⟩
 | fnc x=>exact h
 | exc c =>
  obtain ⟨C,hc,e⟩:=h
  exact ⟨C,hc,by rw [zaj (zbd e hp)];exact e⟩
 | tab x =>
  obtain ⟨c,ps,h1,h2,e,t⟩:=h
  exact ⟨c,ps,h1,h2,by rw [zaj (zbd e hp)];exact e,t.mono (zb1 (ρ:=ρ) hp).frz⟩
 | lam g caps =>
  obtain ⟨cs,pm,c,ctv,e,k,r⟩:=h
  exact ⟨cs,pm,c,ctv,(zb1 (ρ:=ρ) hp).frz _ _ _ e,k.mono (zb1 (ρ:=ρ) hp).frz,r.mono (zb1 hp).toExt0⟩
 | dead =>
  obtain ⟨o,fd,e,d⟩:=h
  exact ⟨o,fd,(zb1 (ρ:=ρ) hp).frz _ _ _ e,d⟩
theorem ObR.writtenG {o:Ob}{a p:Addr}{u u0:HO}(h:ObR K ρ H o a) (hp:H p=some u0) (hu:zfh u0) (hn:o.mut=true->a≠p):ObR K ρ (upd H p u) o a:=by
 cases o with
 | lst xs =>
  obtain ⟨vs,e,r⟩:=h
  exact ⟨vs,by rw [zaj (hn rfl)];exact e,r.mono0 (zc0 hp hu)⟩
 | flst xs =>
  obtain ⟨vs,e,r⟩:=h
  refine ⟨vs,?_,r.mono0 (zc0 hp hu)⟩
  rcases e with ⟨o,e⟩|e
  ·exact .inl ⟨o,by rw [zaj (zcr e hp (λz=>hu.2 _ _ z.symm))];exact e⟩
  ·exact .inr e
 | iset f n =>
  show upd H p u a=some (.set f n)
  rw [zaj (hn rfl)];exact h
 | dct kvs =>
  obtain ⟨vs,e,r⟩:=h
  exact ⟨vs,by rw [zaj (hn rfl)];exact e,r.mono0 (zc0 hp hu)⟩
 | tdct kvs =>
  obtain ⟨vs,e,r⟩:=h
  exact ⟨vs,by rw [zaj (hn rfl)];exact e,r.mono0 (zc0 hp hu)⟩
 | fdct kvs =>
  obtain ⟨o,vs,e,r⟩:=h
  exact ⟨o,vs,by rw [zaj (hn rfl)];exact e,r.mono0 (zc0 hp hu)⟩
 | ftdct kvs =>
  obtain ⟨o,vs,e,r⟩:=h
  exact ⟨o,vs,by rw [zaj (hn rfl)];exact e,r.mono0 (zc0 hp hu)⟩
 | tset ks =>
  obtain ⟨xs,e0,e,r⟩:=h
  exact ⟨xs,e0,by rw [zaj (hn rfl)];exact e,λp hq=>(zc0 (ρ:=ρ) hp hu).tup _ _ (r p hq)⟩
 | fnc x=>exact h
 | exc c =>
  obtain ⟨C,hc,e⟩:=h
  exact ⟨C,hc,by rw [zaj (hn rfl)];exact e⟩
 | tab x =>
  obtain ⟨c,ps,h1,h2,e,t⟩:=h
  exact ⟨c,ps,h1,h2,by rw [zaj (hn rfl)];exact e,t.mono (zc0 (ρ:=ρ) hp hu).frz⟩
 | lam g caps =>
  obtain ⟨cs,pm,c,ctv,e,k,r⟩:=h
  exact ⟨cs,pm,c,ctv,(zc0 (ρ:=ρ) hp hu).frz _ _ _ e,k.mono (zc0 (ρ:=ρ) hp hu).frz,r.mono (zc0 hp hu)⟩
 | dead =>
  obtain ⟨o,fd,e,d⟩:=h
  exact ⟨o,fd,(zc0 (ρ:=ρ) hp hu).frz _ _ _ e,d⟩
theorem ObR.written {o:Ob}{a p:Addr}{u:HO}{ys:List V}(h:ObR K ρ H o a) (hp:H p=some (.lst ys)) (hn:o.mut=true->a≠p):ObR K ρ (upd H p u) o a:=h.writtenG hp (znv ys) hn
theorem ObR.more {o:Ob}{a:Addr}(h:ObR K ρ H o a) (e:Ext0 ρ H ρ' H):ObR K ρ' H o a:=by
 cases o with
 | lst xs=>obtain ⟨vs,e1,r⟩:=h;exact ⟨vs,e1,r.mono0 e⟩
 | flst xs=>obtain ⟨vs,e1,r⟩:=h;exact ⟨vs,e1,r.mono0 e⟩
 | iset f n=>exact h
 | dct kvs=>obtain ⟨vs,e1,r⟩:=h;exact ⟨vs,e1,r.mono0 e⟩
 | tdct kvs=>obtain ⟨vs,e1,r⟩:=h;exact ⟨vs,e1,r.mono0 e⟩
 | fdct kvs=>obtain ⟨o,vs,e1,r⟩:=h;exact ⟨o,vs,e1,r.mono0 e⟩
 | ftdct kvs=>obtain ⟨o,vs,e1,r⟩:=h;exact ⟨o,vs,e1,r.mono0 e⟩
 | tset ks=>exact h
 | fnc x=>exact h
 | exc c=>exact h
 | tab x=>exact h
 | lam g caps=>obtain ⟨cs,pm,c,ctv,e1,k,r⟩:=h;exact ⟨cs,pm,c,ctv,e1,k,r.mono e⟩
 | dead=>exact h
theorem Sim.laid (s:Sim K ρ S H) {p:Addr}{u:HO}(hp:H p=none):Sim K ρ S (upd H p u) :=
 ⟨s.len,s.nd,λn a o h1 h2=>(s.at' n a o h1 h2).laid hp⟩
theorem Sim.lst {n:Nat}{xs:List D}(s:Sim K ρ S H) (h:S[n]? = some (.lst xs)):∃a vs,ρ[n]? = some a/\H a=some (.lst vs)/\RDs ρ H xs vs:=by
 have hl:n<ρ.length:=by rw [s.len];exact (qme h).1
 obtain ⟨vs,e,r⟩:=s.at' n _ _ (qge hl) h
 exact ⟨_,vs,qge hl,e,r⟩
noncomputable def lstOf (S:Sto) (n:Nat):Option (List D):=match S[n]? with
 | some (.lst xs)=>some xs
 | some (.flst xs)=>some xs
 | _=>none
theorem Sim.lstOf {n:Nat}{xs:List D}(s:Sim K ρ S H) (h:L3.lstOf S n=some xs):∃a vs,ρ[n]? = some a/\SqL K H a vs/\RDs ρ H xs vs:=by
 unfold L3.lstOf at h
 cases e:S[n]? with
 | none=>rw [e] at h;cases h
 | some o =>
  have hl:n<ρ.length:=by rw [s.len];exact (qme e).1
  have q:=s.at' n _ _ (qge hl) e
  rw [e] at h
  cases o with
  | lst ys =>
   cases h
   obtain ⟨vs,e1,r⟩:=q
   exact ⟨_,vs,qge hl,.inl (.inl e1),r⟩
  | flst ys =>
   cases h
   obtain ⟨vs,e1,r⟩:=q
   exact ⟨_,vs,qge hl,e1.sq,r⟩
  | iset f n=>cases h
  | dct kvs=>cases h
  | fdct kvs=>cases h
  | ftdct kvs=>cases h
  | tset ks=>cases h
  | fnc x=>cases h
  | tdct kvs=>cases h
  | exc c=>cases h
  | tab x=>cases h
  | lam g caps=>cases h
  | dead=>cases h
theorem Sim.setG {n:Nat}{a:Addr}{o0 o1:Ob}{u0 u1:HO}(s:Sim K ρ S H) (ha:ρ[n]? = some a) (hS:S[n]? = some o0) (hm0:o0.mut=true) (hH:H a=some u0) (hu:zfh u0) (r:ObR K ρ (upd H a u1) o1 a):Sim K ρ (S.set n o1) (upd H a u1):=by
 have hl:n<S.length:=(qme hS).1
 have key:∀(m:Nat) (w:Ob),w.mut=true->(S.set n o1)[m]? = some w->∃w',S[m]? = some w'/\w'.mut=true:=λm w hw h=>by
  by_cases hmn:n=m
  ·subst hmn;exact ⟨_,hS,hm0⟩
  ·rw [List.getElem?_set_ne hmn] at h;exact ⟨_,h,hw⟩
 refine ⟨by rw [List.length_set];exact s.len,λi j b x1 x2 h1 h2 h3 h4 m1 m2=>?_,λm b o h1 h2=>?_⟩
 ·obtain ⟨_,h3,q3⟩:=key i x1 m1 h3
  obtain ⟨_,h4,q4⟩:=key j x2 m2 h4
  exact s.nd i j b _ _ h1 h2 h3 h4 q3 q4
 by_cases hmn:n=m
 ·subst hmn
  rw [ha] at h1;cases h1
  rw [List.getElem?_set_self hl] at h2
  cases h2
  exact r
 ·rw [List.getElem?_set_ne hmn] at h2
  exact (s.at' m b o h1 h2).writtenG hH hu (λe z=>hmn (s.nd n m a _ _ ha (by rw [h1,z]) hS h2 hm0 e))
theorem Sim.set {n:Nat}{a:Addr}{ys:List V}{xs zs:List D}{vs:List V}(s:Sim K ρ S H) (ha:ρ[n]? = some a) (hS:S[n]? = some (.lst zs)) (hH:H a=some (.lst ys)) (r:RDs ρ H xs vs):Sim K ρ (S.set n (.lst xs)) (upd H a (.lst vs)) :=
 s.setG ha hS rfl hH (znv ys) ⟨vs,zbg,r.mono0 (zib hH)⟩
theorem ext0_push {a:Addr}:Ext0 ρ H (ρ++[a]) H :=
 ⟨λn b h=>by rw [List.getElem?_append_left (qme h).1];exact h,λ_ _ h=>h,λ_ _ _ h=>h⟩
theorem zbu {α:Type}{l:List α}{a b:α}{n:Nat}(h:(l++[a])[n]? = some b):l[n]? = some b\/(n=l.length/\b=a):=by
 by_cases hl:n<l.length
 ·rw [List.getElem?_append_left hl] at h;exact .inl h
 ·rw [List.getElem?_append_right (by omega)] at h
  have:n-l.length=0:=by
   have:=(qme h).1
   simp at this;omega
  rw [this] at h;simp at h
  exact .inr ⟨by omega,h.symm⟩
theorem znx {a:Addr}{vs:List V}(ha:H a=none):Ext ρ H (ρ++[a]) (upd H a (.lst vs)) :=
 ⟨⟨ext0_push.pre (H:=H),λb us h=>by rw [zaj (zbd h ha)];exact h,λb o us h=>by rw [zaj (zbd h ha)];exact h⟩,λb us h n=>⟨by rw [zaj (zbd h ha)];exact h,λi hi=>by
  rcases zbu hi with hi|⟨_,e⟩
  ·exact n i hi
  ·rw [e,ha] at h;cases h⟩⟩
theorem zfi {a:Addr}{u:HO}(ha:H a=none):Ext ρ H (ρ++[a]) (upd H a u) :=
 ⟨⟨ext0_push.pre (H:=H),λb us h=>by rw [zaj (zbd h ha)];exact h,λb o us h=>by rw [zaj (zbd h ha)];exact h⟩,λb us h n=>⟨by rw [zaj (zbd h ha)];exact h,λi hi=>by
  rcases zbu hi with hi|⟨_,e⟩
  ·exact n i hi
  ·rw [e,ha] at h;cases h⟩⟩
theorem Sim.pushG {a:Addr}{o1:Ob}{u:HO}(s:Sim K ρ S H) (ha:H a=none) (r:ObR K (ρ++[a]) (upd H a u) o1 a):Sim K (ρ++[a]) (S++[o1]) (upd H a u):=by
 have no:∀(n:Nat) (o:Ob),o.mut=true->ρ[n]? = some a->S[n]? = some o->False:=λn o hm h1 h2=>by
  have q:=s.at' n a _ h1 h2
  cases o with
  | lst xs=>obtain ⟨vs,e,_⟩:=q;rw [ha] at e;cases e
  | flst xs=>cases hm
  | iset f n=>have q:H a=_:=q;rw [ha] at q;cases q
  | dct kvs=>obtain ⟨vs,e,_⟩:=q;rw [ha] at e;cases e
  | tdct kvs=>obtain ⟨vs,e,_⟩:=q;rw [ha] at e;cases e
  | fdct kvs=>obtain ⟨o,vs,e,_⟩:=q;rw [ha] at e;cases e
  | ftdct kvs=>obtain ⟨o,vs,e,_⟩:=q;rw [ha] at e;cases e
  | tset ks=>obtain ⟨xs,_,e,_⟩:=q;rw [ha] at e;cases e
  | fnc x=>cases hm
  | exc c=>obtain ⟨C,_,e⟩:=q;rw [ha] at e;cases e
  | tab x=>obtain ⟨_,_,_,_,e,_⟩:=q;rw [ha] at e;cases e
  | lam g caps=>cases hm
  | dead=>cases hm
 refine ⟨by simp [s.len],λi j b x1 x2 h1 h2 h3 h4 m1 m2=>?_,λn b o h1 h2=>?_⟩
 ·rcases zbu h3 with h3|⟨e3,_⟩ <;> rcases zbu h4 with h4|⟨e4,_⟩
  ·have l1:=(qme h3).1
   have l2:=(qme h4).1
   rcases zbu h1 with h1|⟨e1,f1⟩ <;> rcases zbu h2 with h2|⟨e2,f2⟩
   ·exact s.nd i j b _ _ h1 h2 h3 h4 m1 m2
   ·have:=s.len;omega
   ·have:=s.len;omega
   ·have:=s.len;omega
  ·have l1:=(qme h3).1
   rcases zbu h2 with h2|⟨e2,f2⟩
   ·have:=(qme h2).1;have:=s.len;omega
   ·subst f2
    rcases zbu h1 with h1|⟨e1,_⟩
    ·exact (no i _ m1 h1 h3).elim
    ·have:=s.len;omega
  ·have l1:=(qme h4).1
   rcases zbu h1 with h1|⟨e2,f2⟩
   ·have:=(qme h1).1;have:=s.len;omega
   ·subst f2
    rcases zbu h2 with h2|⟨e1,_⟩
    ·exact (no j _ m2 h2 h4).elim
    ·have:=s.len;omega
  ·omega
 ·rcases zbu h2 with h2|⟨e2,f2⟩
  ·rcases zbu h1 with h1|⟨e1,f1⟩
   ·exact ((s.at' n b o h1 h2).laid ha).more ext0_push
   ·have:=(qme h2).1;have:=s.len;omega
  ·rcases zbu h1 with h1|⟨e1,f1⟩
   ·have:=(qme h1).1;have:=s.len;omega
   ·subst f1 f2
    exact r
theorem Sim.push {a:Addr}{xs:List D}{vs:List V}(s:Sim K ρ S H) (ha:H a=none) (r:RDs ρ H xs vs):Sim K (ρ++[a]) (S++[.lst xs]) (upd H a (.lst vs)) :=
 s.pushG ha ⟨vs,zbg,r.mono (znx ha)⟩
theorem za5 {α:Type}(l:List α) (a:α):(l++[a])[l.length]? = some a:=by
 rw [List.getElem?_append_right (qlr _)];simp
end
structure RO (ρ:List Addr) (H:Hp) (l:Lo) (σ:St):Prop where
 len:l.length=σ.length
 get:∀(i:Nat) (d:D),l[i]? = some (some d)->∃v,σ[i]? = some (some v)/\RD ρ H d v
theorem RO.mono {ρ ρ':List Addr}{H H':Hp}{l:Lo}{σ:St}(r:RO ρ H l σ) (e:Ext ρ H ρ' H'):RO ρ' H' l σ :=
 ⟨r.len,λi d h=>let ⟨v,h1,h2⟩:=r.get i d h;⟨v,h1,h2.mono e⟩⟩
theorem RO.set {ρ:List Addr}{H:Hp}{l:Lo}{σ:St}{d:D}{v:V}(r:RO ρ H l σ) (i:Nat) (h:RD ρ H d v):RO ρ H (l.set i (some d)) (σ.set i (some v)):=by
 refine ⟨by simp [r.len],λj x hj=>?_⟩
 by_cases hij:i=j
 ·subst hij
  have hl:i<l.length:=by have:=(qme hj).1;simpa using this
  rw [List.getElem?_set_self hl] at hj
  cases hj
  exact ⟨v,List.getElem?_set_self (by rw [<-r.len];exact hl),h⟩
 ·rw [List.getElem?_set_ne hij] at hj
  rw [List.getElem?_set_ne hij]
  exact r.get j x hj
abbrev EM:=Lo->Sto->Option (D × Sto)
abbrev TM:=Lo->Sto->Option (Bool × Sto)
abbrev AM:=Lo->Sto->Option (List D × Sto)
abbrev FM:=List D->Sto->Option (D × Sto)
inductive Fl where
 | nx|bk|ct|rt (d:D)
abbrev SM:=Lo->Sto->Option (Fl × Lo × Sto)
abbrev GM:=D->Lo->Sto->Option (Lo × Sto)
abbrev GsM:=List D->Lo->Sto->Option (Lo × Sto)
def Pv (K:QFg) (ρ:List Addr) (H:Hp) (v:D) (S:Sto) (Q:VK):Prop:=∀ρ' H' v',Ext ρ H ρ' H'->Sim K ρ' S H'->RD ρ' H' v v'->Q v' H'
theorem Pv.ext {K:QFg}{ρ ρ1:List Addr}{H H1:Hp}{v:D}{S:Sto}{Q:VK}(p:Pv K ρ H v S Q) (e:Ext ρ H ρ1 H1):Pv K ρ1 H1 v S Q:=λρ' H' v' e' s r=>p ρ' H' v' (e.trans e') s r
inductive te (K:QFg) (m:EM) (σ:St) (H:Hp) (Q:VK):Prop
 | mk (ρ:_) (l:_) (S:_) (v:_) (S':_) (_:Sim K ρ S H) (_:RO ρ H l σ) (_:m l S=some (v,S')) (_:Pv K ρ H v S' Q)
inductive tt (K:QFg) (m:TM) (σ:St) (H:Hp) (Q:Bool->Hp->Prop):Prop
 | mk (ρ:_) (l:_) (S:_) (v:_) (S':_) (_:Sim K ρ S H) (_:RO ρ H l σ) (_:m l S=some (v,S')) (_:∀ρ' H',Ext ρ H ρ' H'->Sim K ρ' S' H'->Q v H')
inductive ta (K:QFg) (m:AM) (σ:St) (H:Hp) (Q:List V->Hp->Prop):Prop
 | mk (ρ:_) (l:_) (S:_) (v:_) (S':_) (_:Sim K ρ S H) (_:RO ρ H l σ) (_:m l S=some (v,S')) (_:∀ρ' H' vs,Ext ρ H ρ' H'->Sim K ρ' S' H'->RDs ρ' H' v vs->Q vs H')
def zic (ρ:List Addr) (H:Hp) (E:Ends) (σ:St):Fl->Prop
 | .nx=>E.nx σ H
 | .bk=>E.bk σ H
 | .ct=>E.ct σ H
 | .rt d=>∀v,RD ρ H d v->E.rt v H
inductive ts (K:QFg) (m:SM) (E:Ends) (σ:St) (H:Hp):Prop
 | mk (ρ:_) (l:_) (S:_) (f:_) (l':_) (S':_) (_:Sim K ρ S H) (_:RO ρ H l σ) (_:m l S=some (f,l',S')) (_:∀ρ' H' σ',Ext ρ H ρ' H'->Sim K ρ' S' H'->RO ρ' H' l' σ'->zic ρ' H' E σ' f)
inductive tg (K:QFg) (g:GM) (v:V) (σ:St) (H:Hp) (Q:St->Hp->Prop):Prop
 | mk (ρ:_) (l:_) (S:_) (d:_) (l':_) (S':_) (_:Sim K ρ S H) (_:RO ρ H l σ) (_:RD ρ H d v) (_:g d l S=some (l',S')) (_:∀ρ' H' σ',Ext ρ H ρ' H'->Sim K ρ' S' H'->RO ρ' H' l' σ'->Q σ' H')
inductive tgs (K:QFg) (g:GsM) (vs:List V) (σ:St) (H:Hp) (Q:St->Hp->Prop):Prop
 | mk (ρ:_) (l:_) (S:_) (ds:_) (l':_) (S':_) (_:Sim K ρ S H) (_:RO ρ H l σ) (_:RDs ρ H ds vs) (_:g ds l S=some (l',S')) (_:∀ρ' H' σ',Ext ρ H ρ' H'->Sim K ρ' S' H'->RO ρ' H' l' σ'->Q σ' H')
def PE3 (X:Cx) (e:Expr) (m:EM):Prop:=PE X e (te X.K m)
def PT3 (X:Cx) (e:Expr) (m:TM):Prop:=PT X e (tt X.K m)
def PW3 (X:Cx) (e:Expr) (m:TM):Prop:=PW X e (tt X.K m)
def PA3 (X:Cx) (es:List Expr) (m:AM):Prop:=PA X es (ta X.K m)
def PS3 (X:Cx) (st:Stmt) (m:SM):Prop:=PS X st (ts X.K m)
def zcj (X:Cx) (st:List Stmt) (m:SM):Prop:=PSs X st (ts X.K m)
def PG3 (X:Cx) (tg':Expr) (m:GM):Prop:=PG X tg' (tg X.K m)
def zid (X:Cx) (ts':List Expr) (m:GsM):Prop:=PGs X ts' (tgs X.K m)
theorem PE.imp {X:Cx}{e:Expr}{t u:TE}(h:PE X e t) (i:∀σ H Q,u σ H Q->t σ H Q):PE X e u:=λpins s σ H Q I q=>h pins s σ H Q I (i _ _ _ q)
theorem PT.imp {X:Cx}{e:Expr}{t u:TT}(h:PT X e t) (i:∀σ H Q,u σ H Q->t σ H Q):PT X e u:=λpins s σ H Q I q=>h pins s σ H Q I (i _ _ _ q)
theorem PW.imp {X:Cx}{e:Expr}{t u:TT}(h:PW X e t) (i:∀σ H Q,u σ H Q->t σ H Q):PW X e u:=λwh pins s σ H Q I q=>h wh pins s σ H Q I (i _ _ _ q)
theorem PA.imp {X:Cx}{e:List Expr}{t u:TA}(h:PA X e t) (i:∀σ H Q,u σ H Q->t σ H Q):PA X e u:=λpos pins s σ H Q I q=>h pos pins s σ H Q I (i _ _ _ q)
theorem PS.imp {X:Cx}{e:Stmt}{t u:TS}(h:PS X e t) (i:∀E σ H,u E σ H->t E σ H):PS X e u:=λpins s σ H Q I q=>h pins s σ H Q I (i _ _ _ q)
theorem PSs.imp {X:Cx}{e:List Stmt}{t u:TS}(h:PSs X e t) (i:∀E σ H,u E σ H->t E σ H):PSs X e u:=λpins s σ H Q I q=>h pins s σ H Q I (i _ _ _ q)
theorem PG.imp {X:Cx}{e:Expr}{t u:TG}(h:PG X e t) (i:∀v σ H Q,u v σ H Q->t v σ H Q):PG X e u:=λpins s σ H v w Q I r q=>h pins s σ H v w Q I r (i _ _ _ _ q)
theorem PGs.imp {X:Cx}{e:List Expr}{t u:TGs}(h:PGs X e t) (i:∀v σ H Q,u v σ H Q->t v σ H Q):PGs X e u:=λpins s σ H v w Q I r q=>h pins s σ H v w Q I r (i _ _ _ _ q)
inductive Bnd {α β:Type} (o:Option α) (f:α->Option β) (b:β):Prop
 | mk (a:α) (_:o=some a) (_:f a=some b)
theorem bnd {α β:Type}{o:Option α}{f:α->Option β}{b:β}(h:o.bind f=some b):Bnd o f b:=by
 obtain ⟨a,h1,h2⟩:=Option.bind_eq_some_iff.mp h
 exact ⟨a,h1,h2⟩
noncomputable def zab (i:Nat):EM:=λl S=>match l[i]? with
 | some (some d)=>some (d,S)
 | _=>none
noncomputable def eC (d:D):EM:=λ_ S=>some (d,S)
noncomputable def eOp (f:D->D->Sto->Option (D × Sto)) (a b:EM):EM:=λl S=>(a l S).bind λp=>(b l p.2).bind λq=>f p.1 q.1 q.2
noncomputable def eUn (f:D->Sto->Option (D × Sto)) (a:EM):EM:=λl S=>(a l S).bind λp=>f p.1 p.2
noncomputable def zae:AM:=λ_ S=>some ([],S)
noncomputable def zaa (a:EM) (r:AM):AM:=λl S=>(a l S).bind λp=>(r l p.2).bind λq=>some (p.1 :: q.1,q.2)
noncomputable def zaf (f:FM) (as:AM):EM:=λl S=>(as l S).bind λp=>f p.1 p.2
noncomputable def tE (a:EM):TM:=λl S=>(a l S).bind λp=>match p.1 with
 | .bl b=>some (b,p.2)
 | _=>none
noncomputable def zfj (a b:TM):TM:=λl S=>(a l S).bind λp=>if p.1=true then b l p.2 else some (false,p.2)
noncomputable def zbz (a b:TM):TM:=λl S=>(a l S).bind λp=>if p.1=true then some (true,p.2) else b l p.2
noncomputable def zco (a:TM):TM:=λl S=>(a l S).bind λp=>some (!p.1,p.2)
noncomputable def zd9 (a b:EM):EM:=λl S=>(a l S).bind λp=>match p.1 with
 | .bl true=>b l p.2
 | .bl false=>some (.bl false,p.2)
 | _=>none
noncomputable def zie (a:EM):EM:=λl S=>(a l S).bind λp=>match p.1 with
 | .bl b=>some (.bl (!b),p.2)
 | _=>none
def Op3 (K:QFg) (f:D->D->Sto->Option (D × Sto)) (r:R2):Prop :=
 ∀ρ S H x y x' y' v S' Q,Sim K ρ S H->RD ρ H x x'->RD ρ H y y'->f x y S=some (v,S')->Pv K ρ H v S' Q->r x' y' H Q
def Fn3 (K:QFg) (f:FM) (r:List V->Hp->VK->Prop):Prop :=
 ∀ρ S H xs vs v S' Q,Sim K ρ S H->RDs ρ H xs vs->f xs S=some (v,S')->Pv K ρ H v S' Q->r vs H Q
def Mt3 (K:QFg) (f:D->List D->Sto->Option (D × Sto)) (r:V->List V->Hp->VK->Prop):Prop :=
 ∀ρ S H x x' xs vs v S' Q,Sim K ρ S H->RD ρ H x x'->RDs ρ H xs vs->f x xs S=some (v,S')->Pv K ρ H v S' Q->r x' vs H Q
theorem zgz {K:QFg}{f:D->D->Sto->Option (D × Sto)}{r:R2}(h:Op3 K f r) {a b:EM}(σ:St) (H:Hp) (Q:VK) (q:te K (eOp f a b) σ H Q):tOp r (te K a) (te K b) σ H Q:=by
 obtain ⟨ρ,l,S,v,S',sim,ro,hm,p⟩:=q
 obtain ⟨⟨x,S1⟩,h1,hm⟩:=bnd hm
 obtain ⟨⟨y,S2⟩,h2,hm⟩:=bnd hm
 exact ⟨ρ,l,S,x,S1,sim,ro,h1,λρ1 H1 x' e1 s1 r1=>⟨ρ1,l,S1,y,S2,s1,ro.mono e1,h2,λρ2 H2 y' e2 s2 r2=>h ρ2 S2 H2 x y x' y' v S' Q s2 (r1.mono e2) r2 hm (p.ext (e1.trans e2))⟩⟩
section
variable {X:Cx}{a b c:Expr}{es:List Expr}{ma mb:EM}{mA:AM}{pos:Pos}
theorem zad (i:Nat) {x:Str}(hN:X.N[i]? = some x:=by rfl) (hv:Vis X.env.scope x:=by first|exact Or.inl rfl|exact Or.inr (Or.inl rfl)|exact Or.inr (Or.inr rfl)) (hd:(x == ("__debug__":Str))=false:=by decide)
  (hcd:(x == ("__classdict__":Str))=false:=by decide):PE3 X (.Name x pos) (zab i) :=
 PE.imp (zh3 hN hv hd hcd) λσ H Q hx1_=>by
  obtain ⟨ρ,l,S,v,S',sim,ro,hm,p⟩:=hx1_
  unfold zab at hm
  split at hm
  ·rename_i d e
   cases hm
   obtain ⟨w,h1,h2⟩:=ro.get i _ e
   exact ⟨w,h1,p ρ H w (Ext.refl ..) sim h2⟩
  ·cases hm
theorem zg0 {K:QFg}{d:D}{v:V}(h:∀ρ H,RD ρ H d v) (σ:St) (H:Hp) (Q:VK) (q:te K (eC d) σ H Q):tC v σ H Q:=by
 obtain ⟨ρ,l,S,w,S',sim,ro,hm,p⟩:=q
 cases hm
 exact p ρ H v (Ext.refl ..) sim (h ρ H)
theorem zah {i j}:PE3 X (.Constant (.int i) j pos) (eC (.int i)):=PE.imp zjm (zg0 λ_ _=>.int i)
theorem zcs {i j}:PE3 X (.Constant (.bool i) j pos) (eC (.bl i)):=PE.imp zr7 (zg0 λ_ _=>.bl i)
theorem zea {j}:PE3 X (.Constant .none j pos) (eC .non):=PE.imp zr8 (zg0 λ_ _=>.non)
theorem zbn {i j}:PE3 X (.Constant (.str i) j pos) (eC (.str i)):=PE.imp zgs (zg0 λ_ _=>.str i)
theorem zny {x:Str}{i:Int}{t:Tok}(hg:Gl X x) (hm:X.mg x=some (.int i t)) (hd:(x == ("__debug__":Str))=false:=by decide):PE3 X (.Name x pos) (eC (.int i)) :=
 PE.imp (zr9 hg hm (v:=.int i) ⟨t,rfl⟩ hd) (zg0 λ_ _=>.int i)
theorem zes {op:Operator}{f:D->D->Sto->Option (D × Sto)}{r:R2}(ho:OpR X (binaryOp op) r) (h3:Op3 X.K f r) (ha:PE3 X a ma) (hb:PE3 X b mb):PE3 X (.BinOp a op b pos) (eOp f ma mb):=PE.imp (zmq ho ha hb) (zgz h3)
theorem znz {op:CmpOp}{f:D->D->Sto->Option (D × Sto)}{r:R2}(ho:OpR X (compareOp op) r) (h3:Op3 X.K f r) (ha:PE3 X a ma) (hb:PE3 X b mb) (hm:behindInMarks op b=false):PE3 X (.Compare a [op] [b] pos) (eOp f ma mb):=PE.imp (ztq ho ha hb hm) (zgz h3)
theorem zn0 {K:QFg}{m:EM}(σ:St) (H:Hp) (Q:Bool->Hp->Prop) (q:tt K (tE m) σ H Q):te K m σ H λx H'=>∃k,x=.bl k/\Q k H':=by
 obtain ⟨ρ,l,S,v,S',sim,ro,hm,p⟩:=q
 obtain ⟨⟨x,S1⟩,h1,hm⟩:=bnd hm
 refine ⟨ρ,l,S,x,S1,sim,ro,h1,λρ' H' v' e s r=>?_⟩
 cases r with
 | bl k=>cases hm;exact ⟨_,rfl,p ρ' H' e s⟩
 | _=>cases hm
theorem zet {op:CmpOp}{f:D->D->Sto->Option (D × Sto)}{r:R2}(ho:OpR X (compareOp op) r) (h3:Op3 X.K f r) (ha:PE3 X a ma) (hb:PE3 X b mb) (hm:behindInMarks op b=false):PT3 X (.Compare a [op] [b] pos) (tE (eOp f ma mb)) :=
 PT.imp (zts ho ha hb hm) λσ H Q q=>zgz h3 σ H _ (zn0 σ H Q q)
theorem zdl {m:EM}(h:PE3 X a m) (he:∀whole,isTrue a X.env whole=(do let v <-whole;standAt a.pos;holding [v] (truthy v)):=by intro _;rfl):PT3 X a (tE m) :=
 PT.imp (zsa h he) λσ H Q q=>zn0 σ H Q q
noncomputable def zfk (f g:D->D->Sto->Option (D × Sto)) (a b c:EM):EM:=λl S=>(a l S).bind λp=>(b l p.2).bind λq=>(f p.1 q.1 q.2).bind λr=>match r.1 with
 | .bl true=>(c l r.2).bind λs=>g q.1 s.1 s.2
 | .bl false=>some (.bl false,r.2)
 | _=>none
theorem zvf {K:QFg}{f g:D->D->Sto->Option (D × Sto)}{r r':R2}(h:Op3 K f r) (h':Op3 K g r') {a b c:EM}(σ:St) (H:Hp) (Q:VK) (q:te K (zfk f g a b c) σ H Q):zmz r r' (te K a) (te K b) (te K c) σ H Q:=by
 obtain ⟨ρ,l,S,v,S',sim,ro,hm,p⟩:=q
 obtain ⟨⟨x,S1⟩,h1,hm⟩:=bnd hm
 obtain ⟨⟨y,S2⟩,h2,hm⟩:=bnd hm
 obtain ⟨⟨z,S3⟩,h3,hm⟩:=bnd hm
 refine ⟨ρ,l,S,x,S1,sim,ro,h1,λρ1 H1 x' e1 s1 r1=>⟨ρ1,l,S1,y,S2,s1,ro.mono e1,h2,λρ2 H2 y' e2 s2 r2=>?_⟩⟩
 refine h ρ2 S2 H2 x y x' y' z S3 _ s2 (r1.mono e2) r2 h3 λρ3 H3 z' e3 s3 r3=>?_
 cases r3 with
 | bl k =>
  refine ⟨k,rfl,?_⟩
  cases k with
  | false =>
   cases hm
   exact zep (p ρ3 H3 _ (e1.trans (e2.trans e3)) s3 (.bl false))
  | true =>
   obtain ⟨⟨w,S4⟩,h4,hm⟩:=bnd hm
   exact zeq ⟨ρ3,l,S3,w,S4,s3,ro.mono (e1.trans (e2.trans e3)),h4,λρ4 H4 w' e4 s4 r4=>h' ρ4 S4 H4 y w y' w' v S' Q s4 (r2.mono (e3.trans e4)) r4 hm (p.ext (e1.trans (e2.trans (e3.trans e4))))⟩
 | _=>cases hm
theorem zvg {op op':CmpOp}{f g:D->D->Sto->Option (D × Sto)}{r r':R2}{mc:EM}(ho:OpR X (compareOp op) r) (ho':OpR X (compareOp op') r') (h3:Op3 X.K f r) (h3':Op3 X.K g r') (ha:PE3 X a ma) (hb:PE3 X b mb) (hc:PE3 X c mc)
  (hm:lastMarks [op,op'] [b,c]=false:=by with_unfolding_all rfl):PE3 X (.Compare a [op,op'] [b,c] pos) (zfk f g ma mb mc):=PE.imp (ztt ho ho' ha hb hc hm) (zvf h3 h3')
variable {t u:TM}{rest:List Expr}
theorem zvh {K:QFg}(σ:St) (H:Hp) (Q:Bool->Hp->Prop) (q:tt K (zfj t u) σ H Q):L2.tAnd (tt K t) (tt K u) σ H Q:=by
 obtain ⟨ρ,l,S,v,S',sim,ro,hm,p⟩:=q
 obtain ⟨⟨x,S1⟩,h1,hm⟩:=bnd hm
 refine ⟨ρ,l,S,x,S1,sim,ro,h1,λρ1 H1 e1 s1=>?_⟩
 cases x with
 | true=>exact zeq ⟨ρ1,l,S1,v,S',s1,ro.mono e1,hm,λρ2 H2 e2 s2=>p ρ2 H2 (e1.trans e2) s2⟩
 | false=>cases hm;exact zep (p ρ1 H1 e1 s1)
theorem zvi {K:QFg}(σ:St) (H:Hp) (Q:Bool->Hp->Prop) (q:tt K (zbz t u) σ H Q):L2.tOr (tt K t) (tt K u) σ H Q:=by
 obtain ⟨ρ,l,S,v,S',sim,ro,hm,p⟩:=q
 obtain ⟨⟨x,S1⟩,h1,hm⟩:=bnd hm
 refine ⟨ρ,l,S,x,S1,sim,ro,h1,λρ1 H1 e1 s1=>?_⟩
 cases x with
 | false=>exact zep ⟨ρ1,l,S1,v,S',s1,ro.mono e1,hm,λρ2 H2 e2 s2=>p ρ2 H2 (e1.trans e2) s2⟩
 | true=>cases hm;exact zeq (p ρ1 H1 e1 s1)
theorem zvj (ha:PT3 X a t):PW3 X (.BoolOp .And [a] pos) t:=zsc ha
theorem zg1 (ha:PT3 X a t):PW3 X (.BoolOp .Or [a] pos) t:=zsd ha
theorem zvk (ha:PT3 X a t) (hb:PW3 X (.BoolOp .And (b :: rest) pos) u):PW3 X (.BoolOp .And (a :: b :: rest) pos) (zfj t u):=PW.imp (zse ha hb) zvh
theorem zeu (ha:PT3 X a t) (hb:PW3 X (.BoolOp .Or (b :: rest) pos) u):PW3 X (.BoolOp .Or (a :: b :: rest) pos) (zbz t u):=PW.imp (zsf ha hb) zvi
theorem zfl (h:PW3 X a t):PT3 X a t:=PW.pt h
theorem zev (ha:PT3 X a t):PT3 X (.UnaryOp .Not a pos) (zco t):=PT.imp (zsg ha) λσ H Q hx2_=>by
 obtain ⟨ρ,l,S,v,S',sim,ro,hm,p⟩:=hx2_
 obtain ⟨⟨x,S1⟩,h1,hm⟩:=bnd hm
 cases hm
 exact ⟨ρ,l,S,x,S1,sim,ro,h1,p⟩
theorem zn1 {op}(h:PE3 X a ma):PE3 X (.BoolOp op [a] pos) ma:=zsj h
theorem zj6 (ha:PE3 X a ma) (hb:PE3 X (.BoolOp .And (b :: rest) pos) mb):PE3 X (.BoolOp .And (a :: b :: rest) pos) (zd9 ma mb):=PE.imp (zsk ha hb) λσ H Q hx3_=>by
 obtain ⟨ρ,l,S,v,S',sim,ro,hm,p⟩:=hx3_
 obtain ⟨⟨x,S1⟩,h1,hm⟩:=bnd hm
 refine ⟨ρ,l,S,x,S1,sim,ro,h1,λρ1 H1 x' e1 s1 r1=>?_⟩
 cases r1 with
 | bl k =>
  refine ⟨k,rfl,?_⟩
  cases k with
  | true=>exact zeq ⟨ρ1,l,S1,v,S',s1,ro.mono e1,hm,p.ext e1⟩
  | false=>cases hm;exact zep (p ρ1 H1 _ e1 s1 (.bl false))
 | _=>cases hm
theorem zvl (ha:PE3 X a ma):PE3 X (.UnaryOp .Not a pos) (zie ma):=PE.imp (zsl ha) λσ H Q hx5_=>by
 obtain ⟨ρ,l,S,v,S',sim,ro,hm,p⟩:=hx5_
 obtain ⟨⟨x,S1⟩,h1,hm⟩:=bnd hm
 refine ⟨ρ,l,S,x,S1,sim,ro,h1,λρ1 H1 x' e1 s1 r1=>?_⟩
 cases r1 with
 | bl k=>cases hm;exact ⟨k,rfl,p ρ1 H1 _ e1 s1 (.bl _)⟩
 | _=>cases hm
theorem zag:PA3 X [] zae:=PA.imp zdw λσ H Q hx7_=>by
 obtain ⟨ρ,l,S,v,S',sim,ro,hm,p⟩:=hx7_
 cases hm
 exact p ρ H [] (Ext.refl ..) sim .nil
theorem zac (ha:PE3 X a ma) (hr:PA3 X es mA) (hs:starEach (a :: es) X.env=(false,eval a X.env) :: starEach es X.env:=by rfl):PA3 X (a :: es) (zaa ma mA):=PA.imp (zcn ha hr hs) λσ H Q hx8_=>by
 obtain ⟨ρ,l,S,v,S',sim,ro,hm,p⟩:=hx8_
 obtain ⟨⟨x,S1⟩,h1,hm⟩:=bnd hm
 obtain ⟨⟨y,S2⟩,h2,hm⟩:=bnd hm
 cases hm
 exact ⟨ρ,l,S,x,S1,sim,ro,h1,λρ1 H1 x' e1 s1 r1=>⟨ρ1,l,S1,y,_,s1,ro.mono e1,h2,λρ2 H2 vs e2 s2 r2=>p ρ2 H2 _ (e1.trans e2) s2 (.cons (r1.mono e2) r2)⟩⟩
noncomputable def zbk:FM:=λxs S=>if xs.length<=sizeLine then some (.tup xs,S) else none
noncomputable def zb0:FM:=λxs S=>if xs.length<=sizeLine then some (.ref S.length,S++[.lst xs]) else none
theorem za3 {α:Type}{c:Prop} [Decidable c] {a b:α}(h:(if c then some a else none)=some b):c/\a=b:=by
 by_cases hc:c
 ·rw [if_pos hc] at h;exact ⟨hc,qoi h⟩
 ·rw [if_neg hc] at h;cases h
theorem zg2 {K:QFg}{ρ:List Addr}{S:Sto}{H:Hp}{xs:List D}{vs:List V}{Q:VK}(sim:Sim K ρ S H) (r:RDs ρ H xs vs) (p:Pv K ρ H (.tup xs) S Q):∀a,H a=none->Q (.ref a) (upd H a (.tup vs)):=λa ha =>
 p ρ _ _ (zb1 ha) (sim.laid ha) (.tup zbg (r.mono (zb1 ha)))
theorem zfm {K:QFg}{ρ:List Addr}{S:Sto}{H:Hp}{xs:List D}{vs:List V}{Q:VK}(sim:Sim K ρ S H) (r:RDs ρ H xs vs) (p:Pv K ρ H (.ref S.length) (S++[.lst xs]) Q):∀a,H a=none->Q (.ref a) (upd H a (.lst vs)):=λa ha =>
 p (ρ++[a]) _ _ (znx ha) (sim.push ha r) (.ref (by rw [<-sim.len];exact za5 ρ a))
theorem zbv {x1}(h:PA3 X es mA):PE3 X (.Tuple es x1 pos) (zaf zbk mA):=PE.imp (zm0 h) λσ H Q hx9_=>by
 obtain ⟨ρ,l,S,v,S',sim,ro,hm,p⟩:=hx9_
 obtain ⟨⟨x,S1⟩,h1,hm⟩:=bnd hm
 obtain ⟨hz,e⟩:=za3 hm
 cases e
 exact ⟨ρ,l,S,x,_,sim,ro,h1,λρ1 H1 vs e1 s1 r1=>⟨by rw [<-r1.length];exact hz,zg2 s1 r1 (p.ext e1)⟩⟩
theorem zb5 (h:PA3 X es mA):PE3 X (.List es pos) (zaf zb0 mA):=PE.imp (zt6 h) λσ H Q hx10_=>by
 obtain ⟨ρ,l,S,v,S',sim,ro,hm,p⟩:=hx10_
 obtain ⟨⟨x,S1⟩,h1,hm⟩:=bnd hm
 obtain ⟨hz,e⟩:=za3 hm
 cases e
 exact ⟨ρ,l,S,x,_,sim,ro,h1,λρ1 H1 vs e1 s1 r1=>⟨by rw [<-r1.length];exact hz,zfm s1 r1 (p.ext e1)⟩⟩
theorem zn2 {K:QFg}{f:FM}{r:List V->Hp->VK->Prop}(h3:Fn3 K f r) (σ:St) (H:Hp) (Q:VK) (q:te K (zaf f mA) σ H Q):tCB r (ta K mA) σ H Q:=by
 obtain ⟨ρ,l,S,v,S',sim,ro,hm,p⟩:=q
 obtain ⟨⟨x,S1⟩,h1,hm⟩:=bnd hm
 exact ⟨ρ,l,S,x,S1,sim,ro,h1,λρ1 H1 vs e1 s1 r1=>h3 ρ1 S1 H1 x vs v S' Q s1 r1 hm (p.ext e1)⟩
theorem zfn {x:Str}{p:Pos}{id:String}{f:FM}{r:List V->Hp->VK->Prop}(hc:CallR X (.builtin id) r) (h3:Fn3 X.K f r) (hg:Gl X x) (hm:X.mg x=none) (hv:bootBuiltins x=some (.builtin id)) (ha:PA3 X (a :: es) mA) (hn:x≠"__name__":=by decide) (hdb:(x == ("__debug__":Str))=false:=by decide)
  (he:starEach (a :: es) X.env=(false,eval a X.env) :: starEach es X.env:=by rfl) (hpl:(backTo pos (starEach es X.env)).any (·.1)=false:=by rfl):PE3 X (.Call (.Name x p) (a :: es) [] pos) (zaf f mA) :=
 PE.imp (zgx hc hg hm hv ha hn hdb he hpl) (zn2 h3)
theorem zg3 {x:Str}{p:Pos}{T:String}{f:FM}{r:List V->Hp->VK->Prop}(hc:CallR X (.type T) r) (h3:Fn3 X.K f r) (hg:Gl X x) (hm:X.mg x=none) (hv:bootBuiltins x=some (.type T)) (ha:PA3 X (a :: es) mA) (hn:x≠"__name__":=by decide) (hdb:(x == ("__debug__":Str))=false:=by decide)
  (he:starEach (a :: es) X.env=(false,eval a X.env) :: starEach es X.env:=by rfl) (hpl:(backTo pos (starEach es X.env)).any (·.1)=false:=by rfl):PE3 X (.Call (.Name x p) (a :: es) [] pos) (zaf f mA) :=
 PE.imp (zgy hc hg hm hv ha hn hdb he hpl) (zn2 h3)
end
noncomputable def oI (C:Int->Int->Bool) (g:Int->Int->D):D->D->Sto->Option (D × Sto)
 | .int i,.int j,S=>if C i j=true then some (g i j,S) else none
 | _,_,_=>none
noncomputable def oI0 (g:Int->Int->D):D->D->Sto->Option (D × Sto)
 | .int i,.int j,S=>some (g i j,S)
 | _,_,_=>none
theorem zif {K:QFg}{C:Int->Int->Bool}{C':Int->Int->Prop}{g:Int->Int->D}{g':Int->Int->V}(hC:∀i j,C i j=true->C' i j) (hg:∀ρ H i j,RD ρ H (g i j) (g' i j)):Op3 K (oI C g) (rI C' g'):=by
 intro ρ S H x y x' y' v S' Q sim rx ry h p
 unfold oI at h
 split at h
 ·rename_i i j
  cases rx;cases ry
  obtain ⟨hc,e⟩:=za3 h
  cases e
  exact ⟨i,j,rfl,rfl,hC i j hc,p ρ H _ (Ext.refl ..) sim (hg ρ H i j)⟩
 ·cases h
theorem zfo {K:QFg}{g:Int->Int->D}{g':Int->Int->V}(hg:∀ρ H i j,RD ρ H (g i j) (g' i j)):Op3 K (oI0 g) (rI0 g'):=by
 intro ρ S H x y x' y' v S' Q sim rx ry h p
 unfold oI0 at h
 split at h
 ·rename_i i j
  cases rx;cases ry
  cases h
  exact ⟨i,j,rfl,rfl,p ρ H _ (Ext.refl ..) sim (hg ρ H i j)⟩
 ·cases h
theorem Op3.or {K:QFg}{f:D->D->Sto->Option (D × Sto)}{g:D->D->Sto->Option (D × Sto)}{r r':R2}(h:Op3 K f r) (h':Op3 K g r'):Op3 K (λx y S=>match f x y S with|some v=>some v|none=>g x y S) (λx y H Q=>r x y H Q\/r' x y H Q):=by
 intro ρ S H x y x' y' v S' Q sim rx ry hm p
 dsimp only at hm
 cases e:f x y S with
 | some w=>rw [e] at hm;cases hm;exact .inl (h ρ S H x y x' y' _ _ Q sim rx ry e p)
 | none=>rw [e] at hm;exact .inr (h' ρ S H x y x' y' _ _ Q sim rx ry hm p)
noncomputable abbrev zfp:=oI0 λi j=>.int (i-j)
noncomputable abbrev zfq:=oI (λi j=>decide (0<j/\j<1073741824)) λi j=>.int (i / j)
noncomputable abbrev zb6:=oI (λi j=>decide (0<j)) λi j=>.int (i % j)
noncomputable abbrev zdx:=oI (λi j=>decide (0<=j/\j<=1000000/\i.natAbs<2 ^ 64)) λi j=>.int (i ^ j.toNat)
noncomputable abbrev dLt:=oI0 λi j=>.bl (decide (i<j))
noncomputable abbrev dLe:=oI0 λi j=>.bl (decide (i<=j))
noncomputable abbrev dGt:=oI0 λi j=>.bl (decide (j<i))
noncomputable abbrev dGe:=oI0 λi j=>.bl (decide (j<=i))
section
variable {X:Cx}{a b:Expr}{ma mb:EM}{pos:Pos}
theorem zg4 (ha:PE3 X a ma) (hb:PE3 X b mb):PE3 X (.BinOp a .Sub b pos) (eOp zfp ma mb):=zes ztg (zfo λ_ _ _ _=>.int _) ha hb
theorem zj7 (ha:PE3 X a ma) (hb:PE3 X b mb):PE3 X (.BinOp a .FloorDiv b pos) (eOp zfq ma mb):=zes zth (zif (λi j h=>by first|(unfold CMul;exact of_decide_eq_true h)|(unfold zh7;exact of_decide_eq_true h)|(unfold zfg;exact of_decide_eq_true h)|exact of_decide_eq_true h) λ_ _ _ _=>.int _) ha hb
theorem zeb (ha:PE3 X a ma) (hb:PE3 X b mb):PE3 X (.BinOp a .Mod b pos) (eOp zb6 ma mb):=zes zti (zif (λi j h=>by first|(unfold CMul;exact of_decide_eq_true h)|(unfold zh7;exact of_decide_eq_true h)|(unfold zfg;exact of_decide_eq_true h)|exact of_decide_eq_true h) λ_ _ _ _=>.int _) ha hb
theorem zig (ha:PE3 X a ma) (hb:PE3 X b mb):PE3 X (.BinOp a .Pow b pos) (eOp zdx ma mb):=zes ztj (zif (λi j h=>by first|(unfold CMul;exact of_decide_eq_true h)|(unfold zh7;exact of_decide_eq_true h)|(unfold zfg;exact of_decide_eq_true h)|exact of_decide_eq_true h) λ_ _ _ _=>.int _) ha hb
theorem zih (ha:PE3 X a ma) (hb:PE3 X b mb):PT3 X (.Compare a [.Lt] [b] pos) (tE (eOp dLt ma mb)):=zet zmy (zfo λ_ _ _ _=>.bl _) ha hb (zdv b)
theorem zg5 (ha:PE3 X a ma) (hb:PE3 X b mb):PT3 X (.Compare a [.Gt] [b] pos) (tE (eOp dGt ma mb)):=zet ztn (zfo λ_ _ _ _=>.bl _) ha hb (zdv b)
theorem zn3 (ha:PE3 X a ma) (hb:PE3 X b mb):PT3 X (.Compare a [.GtE] [b] pos) (tE (eOp dGe ma mb)):=zet zto (zfo λ_ _ _ _=>.bl _) ha hb (zdv b)
end
noncomputable def sEq:D->D->Option Bool
 | .non,.non=>some true | .non,.int _=>some false | .int _,.non=>some false | .non,.bl _=>some false | .bl _,.non=>some false | .non,.str _=>some false | .str _,.non=>some false
 | .int i,.int j=>some (decide (i=j)) | .bl i,.bl j=>some (decide (i=j)) | .str i,.str j=>some (decide (i=j))
 | .int _,.str _=>some false | .str _,.int _=>some false | .bl _,.str _=>some false | .str _,.bl _=>some false
 | _,_=>none
noncomputable def dEq:D->D->Sto->Option (D × Sto):=λx y S=>(sEq x y).bind λb=>some (.bl b,S)
noncomputable def dNe:D->D->Sto->Option (D × Sto):=λx y S=>(sEq x y).bind λb=>some (.bl (!b),S)
theorem zn4 {ρ:List Addr}{H:Hp}{x y:D}{x' y':V}{b:Bool}(rx:RD ρ H x x') (ry:RD ρ H y y') (h:sEq x y=some b):zjq x' y' = true/\decide (x' = y')=b:=by
 cases rx <;> cases ry <;> first
  | (cases (show (none:Option Bool)=some b from h))
  | (have h:=qoi h;subst h;exact ⟨rfl,rfl⟩)
  | (have h:=qoi h;subst h;exact ⟨rfl,by simp⟩)
theorem zn5 {K:QFg}:Op3 K dEq rEq:=by
 intro ρ S H x y x' y' v S' Q sim rx ry h p
 obtain ⟨b,h1,h⟩:=bnd h
 cases h
 obtain ⟨h2,h3⟩:=zn4 rx ry h1
 exact ⟨h2,by rw [h3];exact p ρ H _ (Ext.refl ..) sim (.bl b)⟩
theorem zvm {K:QFg}:Op3 K dNe rNe:=by
 intro ρ S H x y x' y' v S' Q sim rx ry h p
 obtain ⟨b,h1,h⟩:=bnd h
 cases h
 obtain ⟨h2,h3⟩:=zn4 rx ry h1
 exact ⟨h2,by rw [h3];exact p ρ H _ (Ext.refl ..) sim (.bl _)⟩
noncomputable def zii:D->Bool
 | .non=>true
 | _=>false
noncomputable def dIs:D->D->Sto->Option (D × Sto)
 | x,.non,S=>some (.bl (zii x),S)
 | _,_,_=>none
theorem zvn {ρ:List Addr}{H:Hp}{x:D}{x':V}(r:RD ρ H x x'):decide (x' = .non)=zii x:=by
 cases r <;> simp [zii]
theorem zvo {K:QFg}:Op3 K dIs (λx y H Q=>y=.non/\Q (.bl (decide (x=.non))) H):=by
 intro ρ S H x y x' y' v S' Q sim rx ry h p
 unfold dIs at h
 split at h
 ·cases h;cases ry
  exact ⟨rfl,by rw [zvn rx];exact p ρ H _ (Ext.refl ..) sim (.bl _)⟩
 ·cases h
section
variable {X:Cx}{a b:Expr}{ma mb:EM}{pos:Pos}
theorem zfr (ha:PE3 X a ma) (hb:PE3 X b mb):PE3 X (.Compare a [.Eq] [b] pos) (eOp dEq ma mb):=znz zmx zn5 ha hb (zdv b)
theorem zij (ha:PE3 X a ma) (hb:PE3 X b mb):PT3 X (.Compare a [.Eq] [b] pos) (tE (eOp dEq ma mb)):=zet zmx zn5 ha hb (zdv b)
theorem zg6 (ha:PE3 X a ma) (hb:PE3 X b mb):PT3 X (.Compare a [.NotEq] [b] pos) (tE (eOp dNe ma mb)):=zet ztl zvm ha hb (zdv b)
theorem zvp (ha:PE3 X a ma) (hb:PE3 X b mb):PT3 X (.Compare a [.Is] [b] pos) (tE (eOp dIs ma mb)):=zet ztp zvo ha hb (zdv b)
end
noncomputable def dIx:D->D->Sto->Option (D × Sto)
 | .tup xs,.int i,S=>(atI xs i).bind λv=>some (v,S)
 | .ref n,.int i,S=>(lstOf S n).bind λxs=>(atI xs i).bind λv=>some (v,S)
 | _,_,_=>none
theorem zn6 {ρ:List Addr}{H:Hp}{xs:List D}{vs:List V}{i:Int}{x:D}(r:RDs ρ H xs vs) (h:atI xs i=some x):∃v,atI vs i=some v/\RD ρ H x v:=by
 unfold atI at h ⊢
 rw [<-r.length]
 cases e:ixN xs.length i with
 | none=>rw [e] at h;cases h
 | some j =>
  rw [e] at h
  exact r.get (i:=j) h
theorem zvq {K:QFg}:Op3 K dIx (rIx K):=by
 intro ρ S H x y x' y' v S' Q sim rx ry h p
 unfold dIx at h
 split at h
 ·cases ry
  obtain ⟨w,h1,h⟩:=bnd h
  cases h
  cases rx with
  | tup ha r =>
   obtain ⟨u,h2,r2⟩:=zn6 r h1
   exact .inr (.inl ⟨_,_,_,u,rfl,rfl,SqT.of ha,h2,p ρ H u (Ext.refl ..) sim r2⟩)
 ·cases ry
  obtain ⟨xs,h0,h⟩:=bnd h
  obtain ⟨w,h1,h⟩:=bnd h
  cases h
  cases rx with
  | ref hn =>
   obtain ⟨a,vs,ha,sq,r⟩:=sim.lstOf h0
   rw [ha] at hn;cases hn
   obtain ⟨u,h2,r2⟩:=zn6 r h1
   exact .inl ⟨_,_,_,u,rfl,rfl,sq,h2,p ρ H u (Ext.refl ..) sim r2⟩
 ·cases h
section
variable {X:Cx}{a b:Expr}{ma mb:EM}{pos:Pos}
end
abbrev OM:=Lo->Sto->Option (Option Int × Sto)
noncomputable def zec:OM:=λ_ S=>some (none,S)
noncomputable def zdy (m:EM):OM:=λl S=>(m l S).bind λp=>match p.1 with
 | .int i=>some (some i,p.2)
 | _=>none
noncomputable def cutD (xs:List D) (lo hi:Option Int):List D:=(xs.drop (HT.sIx xs.length 0 lo)).take (HT.sIx xs.length xs.length hi-HT.sIx xs.length 0 lo)
inductive tO (K:QFg) (m:OM) (σ:St) (H:Hp) (Q:Option Int->Hp->Prop):Prop
 | mk (ρ:_) (l:_) (S:_) (v:_) (S':_) (_:Sim K ρ S H) (_:RO ρ H l σ) (_:m l S=some (v,S')) (_:∀ρ' H',Ext ρ H ρ' H'->Sim K ρ' S' H'->Q v H')
def PO3 (X:Cx) (e:Option Expr) (m:OM):Prop:=PO X e (tO X.K m)
section
variable {X:Cx}{a b:Expr}{ma mb:EM}{pos p2:Pos}{lo hi:Option Expr}{ml mh:OM}
theorem PO.imp {e:Option Expr}{t u:TO}(h:PO X e t) (i:∀σ H Q,u σ H Q->t σ H Q):PO X e u:=λpins s σ H Q I q=>h pins s σ H Q I (i _ _ _ q)
theorem zfs:PO3 X none zec:=PO.imp zug λσ H Q hx1_=>by
 obtain ⟨ρ,l,S,v,S',sim,ro,hm,p⟩:=hx1_
 cases hm
 exact p ρ H (Ext.refl ..) sim
theorem zft (h:PE3 X a ma):PO3 X (some a) (zdy ma):=PO.imp (zuh h) λσ H Q hx2_=>by
 obtain ⟨ρ,l,S,v,S',sim,ro,hm,p⟩:=hx2_
 obtain ⟨⟨x,S1⟩,h1,hm⟩:=bnd hm
 refine ⟨ρ,l,S,x,S1,sim,ro,h1,λρ1 H1 x' e1 s1 r1=>?_⟩
 cases r1 with
 | int i=>cases hm;exact ⟨i,rfl,p ρ1 H1 e1 s1⟩
 | _=>cases hm
end
end L3
namespace HT
open PySem PyProof.Rows
section
variable {prog:Program}{w:World}{A:Around}{E:Value->Shared->Prop}{s:Shared}
theorem getItem_tuple_whole {t sl:Addr}{items:Array Value}{vl vu:Value}{lo hi:Option Int}{Q:Value->Shared->Prop}(ht:IsTup s.heap t items) (hs:s.heap.IsSliceOf sl vl vu .none) (pl:IsPart vl lo) (pu:IsPart vu hi)
  (hw:sIx items.size 0 lo=0/\sIx items.size items.size hi=items.size)
  (h:Q (.ref t) s):wpAny (model prog w) A (getItem (.ref t) (.ref sl)) Q E s:=by
 obtain ⟨os,hos,hcs,hds⟩:=id hs
 have hTs:s.TypeIs (.ref sl) "slice":=⟨os,hos,hcs⟩
 unfold getItem
 try with_reducible refine wpAny_holding ?_
 first|refine qwb (qwp ?_)|skip
 refine qwb (wpAny_sequenceKey ht.typeIs (by decide) ?_)
 refine qwb (wpAny_callSpecial?_slot (name:=Str.ofString "__getitem__") ht.typeIs PyProof.Rows.slot_tuple_getitem
  (wpAny_call_entry PyProof.Rows.slot_tuple_getitem ht.typeIs entry_tuple_getitem ?_ (args_tuple_getitem _ _)))
 show wpAny _ _ (Builtin.Tuple.tupleItemsOf (.ref t) >>= _) _ _ s
 refine qwb (tupleItemsOf_ ht ?_)
 refine qwb (wpAny_typeOf hTs ?_)
 rw [if_pos (by decide)]
 refine qwb (zm8 hs pl pu ?_)
 have hyes:((((sIx items.size 0 lo:Nat):Int) == 0 && (1:Int) == 1 && (sIx items.size items.size hi-sIx items.size 0 lo) == items.size)=true):=by
  rw [hw.1,hw.2];simp
 show wpAny _ _ (if (((sIx items.size 0 lo:Nat):Int) == 0 && (1:Int) == 1 && (sIx items.size items.size hi-sIx items.size 0 lo) == items.size)=true then _ else _) _ _ s
 rw [if_pos hyes]
 unfold Builtin.Tuple.tupleIsExact
 refine qwb (qwb (wpAny_typeOf ht.typeIs (qwp ?_)))
 rw [if_pos (by decide)]
 exact qwb (wpAny_rule (qwb (qwp (qwp ⟨_,rfl,qwp h⟩))))
end
end HT
namespace L3
open PySem PySem.Spec PyProof.Rows L2
section
variable {X:Cx}{a b:Expr}{ma mb:EM}{pos p2:Pos}{lo hi:Option Expr}{ml mh:OM}
def zvr (K:QFg):V->Option Int->Option Int->Hp->VK->Prop:=λx lo hi H Q=>∃a xs,x=.ref a/\SqT K H a xs /\
 (HT.sIx xs.length 0 lo=0/\HT.sIx xs.length xs.length hi=xs.length)/\Q (.ref a) H
theorem zvs:SlR X (zvr X.K):=by
 intro pins s σ H x v vl vu lo hi sl Q I rx hs pl pu h
 obtain ⟨a,xs,rfl,hx,hw,q⟩:=h
 cases rx
 obtain ⟨its,r,ht,hz⟩:=I.tuple hx
 have hlen:its.toArray.size=xs.length:=by rw [List.size_toArray];exact r.length.symm
 refine ⟨"tuple",_,PyProof.Rows.slot_tuple_getitem.lookup,ht.typeIs,?_⟩
 exact HT.getItem_tuple_whole ht hs pl pu (by rw [hlen];exact hw) ⟨.ref a,H,I,rfl,q⟩
theorem zvt (xs:List D) (lo hi:Option Int) (h:HT.sIx xs.length 0 lo=0/\HT.sIx xs.length xs.length hi=xs.length):cutD xs lo hi=xs:=by
 unfold cutD;rw [h.1,h.2];simp
end
noncomputable def zj8:D->D->Sto->Option (D × Sto)
 | .tup xs,.tup ys,S=>if xs.length+ys.length<=sizeLine then some (.tup (xs++ys),S) else none
 | _,_,_=>none
def zj9 (K:QFg):R2:=λx y H Q=>∃a b ys,x=.ref a/\y=.ref b/\SqT K H a []/\SqT K H b ys/\Q (.ref b) H
theorem zvu {X:Cx}:OpR X (binaryOp .Add) (zj9 X.K):=by
 intro pins s σ H x y v u Q I rx ry h
 obtain ⟨a,b,ys,rfl,rfl,ha,hb,q⟩:=h
 cases rx
 cases ry
 obtain ⟨its,r1,p1,_⟩:=I.tuple ha
 obtain ⟨its2,r2,p2,_⟩:=I.tuple hb
 cases r1
 obtain ⟨⟨cls,dd,data,sl⟩,ho,hc,n,hd⟩:=id p1
 obtain ⟨⟨cls2,dd2,data2,sl2⟩,ho2,hc2,n2,hd2⟩:=id p2
 simp only at hc hd hc2 hd2
 subst hc hd hc2 hd2
 exact concat_meets ⟨_,ho,rfl⟩ ⟨_,ho2,rfl⟩ noFill_tuple_add seq_tuple_add PySem.F.slot_tuple_add PySem.F.entry_tuple_add (PySem.F.args_tuple_add_2 _ _)
   (tuple_addW0 a b ([]:List Value).toArray its2.toArray n n2 dd dd2 sl sl2 (by simp)) ⟨ho,ho2,⟨.ref b,H,I,rfl,q⟩⟩
theorem zvv {K:QFg}:Op3 K zj8 (λx y H Q=>zjt K x y H Q\/zj9 K x y H Q):=by
 intro ρ S H x y x' y' v S' Q sim rx ry h p
 unfold zj8 at h
 split at h
 ·obtain ⟨hz,e⟩:=za3 h
  cases e
  cases rx with
  | @tup xs a vs ha r =>
   cases ry with
   | @tup ys b ws hb q =>
    cases r with
    | nil=>exact .inr ⟨a,b,ws,rfl,rfl,SqT.of ha,SqT.of hb,p ρ H _ (Ext.refl ..) sim (.tup hb q)⟩
    | cons r1 r2 =>
     refine .inl ⟨a,b,_,ws,rfl,rfl,SqT.of ha,SqT.of hb,by simp,by rw [<-(RDs.cons r1 r2).length,<-q.length];exact hz,λe=>?_,λ_=>?_⟩
     ·subst e
      cases q
      rw [List.append_nil] at p
      exact p ρ H _ (Ext.refl ..) sim (.tup ha (.cons r1 r2))
     ·exact zg2 sim ((RDs.cons r1 r2).append q) p
 ·cases h
section
variable {X:Cx}{a b:Expr}{ma mb:EM}{pos:Pos}
end
noncomputable def zg7:FM
 | [.tup xs],S=>some (.int xs.length,S)
 | [.ref n],S=>(lstOf S n).bind λxs=>some (.int xs.length,S)
 | _,_=>none
noncomputable def zew:FM
 | [.int i],S=>some (.int (if i<0 then -i else i),S)
 | _,_=>none
noncomputable def zka:FM
 | [.int i],S=>some (.int i,S)
 | [.bl b],S=>some (.int (if b then 1 else 0),S)
 | _,_=>none
noncomputable def zex:FM
 | [.tup xs],S=>some (.tup xs,S)
 | [.ref n],S=>(lstOf S n).bind λxs=>some (.tup xs,S)
 | _,_=>none
noncomputable def zfu:FM
 | [.tup xs],S=>some (.ref S.length,S++[.lst xs])
 | [.ref n],S=>(lstOf S n).bind λxs=>some (.ref S.length,S++[.lst xs])
 | _,_=>none
noncomputable def zg8:FM
 | [.int i,.int j],S=>some (.int (if j > i then j else i),S)
 | _,_=>none
section
variable {K:QFg}
theorem zvw:Fn3 K zg7 (λxs H Q=>∃p ys,xs=[.ref p]/\(SqL K H p ys\/SqT K H p ys)/\Q (.int ys.length) H):=by
 intro ρ S H xs vs v S' Q sim r h p
 unfold zg7 at h
 split at h
 ·cases h
  obtain ⟨w,rfl,rw'⟩:=r.one
  cases rw' with
  | tup ha r2=>exact ⟨_,_,rfl,.inr (SqT.of ha),by rw [<-r2.length];exact p ρ H _ (Ext.refl ..) sim (.int _)⟩
 ·obtain ⟨ys,h1,h⟩:=bnd h
  cases h
  obtain ⟨w,rfl,rw'⟩:=r.one
  obtain ⟨a,us,ha,sq,r2⟩:=sim.lstOf h1
  cases rw' with
  | ref hn =>
   rw [ha] at hn;cases hn
   exact ⟨_,_,rfl,.inl sq,by rw [<-r2.length];exact p ρ H _ (Ext.refl ..) sim (.int _)⟩
 ·cases h
theorem zvx:Fn3 K zew (λxs H Q=>∃i,xs=[.int i]/\Q (.int (if i<0 then -i else i)) H):=by
 intro ρ S H xs vs v S' Q sim r h p
 unfold zew at h
 split at h
 ·cases h
  obtain ⟨w,rfl,rw'⟩:=r.one
  cases rw'
  exact ⟨_,rfl,p ρ H _ (Ext.refl ..) sim (.int _)⟩
 ·cases h
theorem zvy:Fn3 K zka (λxs H Q=>(∃i,xs=[.int i]/\Q (.int i) H)\/∃k,xs=[.bl k]/\Q (.int (if k then 1 else 0)) H):=by
 intro ρ S H xs vs v S' Q sim r h p
 unfold zka at h
 split at h
 ·cases h
  obtain ⟨w,rfl,rw'⟩:=r.one
  cases rw'
  exact .inl ⟨_,rfl,p ρ H _ (Ext.refl ..) sim (.int _)⟩
 ·cases h
  obtain ⟨w,rfl,rw'⟩:=r.one
  cases rw'
  exact .inr ⟨_,rfl,p ρ H _ (Ext.refl ..) sim (.int _)⟩
 ·cases h
theorem zvz:Fn3 K zg8 (λxs H Q=>∃i j,xs=[.int i,.int j]/\Q (.int (if j > i then j else i)) H):=by
 intro ρ S H xs vs v S' Q sim r h p
 unfold zg8 at h
 split at h
 ·cases h
  obtain ⟨w,u,rfl,rw',ru⟩:=r.two
  cases rw';cases ru
  exact ⟨_,_,rfl,p ρ H _ (Ext.refl ..) sim (.int _)⟩
 ·cases h
theorem zv0:Fn3 K zex (λxs H Q=>∃p ys,xs=[.ref p]/\((SqL K H p ys/\∀l,H l=none->Q (.ref l) (upd H l (.tup ys)))\/(SqT K H p ys/\Q (.ref p) H))):=by
 intro ρ S H xs vs v S' Q sim r h p
 unfold zex at h
 split at h
 ·cases h
  obtain ⟨w,rfl,rw'⟩:=r.one
  cases rw' with
  | tup ha r2=>exact ⟨_,_,rfl,.inr ⟨SqT.of ha,p ρ H _ (Ext.refl ..) sim (.tup ha r2)⟩⟩
 ·obtain ⟨ys,h1,h⟩:=bnd h
  cases h
  obtain ⟨w,rfl,rw'⟩:=r.one
  obtain ⟨a,us,ha,sq,r2⟩:=sim.lstOf h1
  cases rw' with
  | ref hn =>
   rw [ha] at hn;cases hn
   exact ⟨_,_,rfl,.inl ⟨sq,zg2 sim r2 p⟩⟩
 ·cases h
theorem zv1:Fn3 K zfu (λxs H Q=>∃p ys,xs=[.ref p]/\(SqL K H p ys\/SqT K H p ys)/\∀l,H l=none->Q (.ref l) (upd H l (.lst ys))):=by
 intro ρ S H xs vs v S' Q sim r h p
 unfold zfu at h
 split at h
 ·cases h
  obtain ⟨w,rfl,rw'⟩:=r.one
  cases rw' with
  | tup ha r2=>exact ⟨_,_,rfl,.inr (SqT.of ha),zfm sim r2 p⟩
 ·obtain ⟨ys,h1,h⟩:=bnd h
  cases h
  obtain ⟨w,rfl,rw'⟩:=r.one
  obtain ⟨a,us,ha,sq,r2⟩:=sim.lstOf h1
  cases rw' with
  | ref hn =>
   rw [ha] at hn;cases hn
   exact ⟨_,_,rfl,.inl sq,zfm sim r2 p⟩
 ·cases h
end
noncomputable def tyD (S:Sto):D->Option String
 | .non=>some "NoneType" | .bl _=>some "bool" | .int _=>some "int" | .str _=>some "str" | .tup _=>some "tuple"
 | .ref n=>match S[n]? with
  | some (.lst _)=>some "list"
  | some (.dct _)=>some "dict"
  | _=>none
 | .fn _=>none
noncomputable def isI (T U:String):Bool:=T == U || (T == "bool" && U == "int")
noncomputable def zb2 (U:String):D->Sto->Option (D × Sto):=λx S=>(tyD S x).bind λT=>some (.bl (isI T U),S)
noncomputable def zey:D->List D->Sto->Option (D × Sto)
 | .ref n,[x],S=>match S[n]? with
  | some (.lst xs)=>if xs.length<sizeLine then some (.non,S.set n (.lst (xs++[x]))) else none
  | _=>none
 | _,_,_=>none
section
variable {K:QFg}
theorem zv2:Mt3 K zey znh:=by
 intro ρ S H x x' xs vs v S' Q sim rx r h p
 unfold zey at h
 split at h
 ·split at h
  ·rename_i n y S ys e
   obtain ⟨hz,e2⟩:=za3 h
   cases e2
   obtain ⟨w,rfl,rw'⟩:=r.one
   obtain ⟨a,us,ha,hH,r2⟩:=sim.lst e
   cases rx with
   | ref hn =>
    rw [ha] at hn;cases hn
    exact ⟨a,us,w,rfl,rfl,hH,by rw [<-r2.length];exact hz,p ρ _ _ (zj5 ha hH) (sim.set ha e hH (r2.append (.cons rw' .nil))) .non⟩
  ·cases h
 ·cases h
end
noncomputable def zdg:D->Sto->Option (List D)
 | .ref n,S=>lstOf S n
 | _,_=>none
noncomputable def zc1 (f:D->List D->Sto->Option (D × Sto)) (o:EM) (as:AM):EM:=λl S=>(o l S).bind λp=>(zdg p.1 p.2).bind λ_=>(as l p.2).bind λq=>f p.1 q.1 q.2
section
variable {X:Cx}{a o e:Expr}{es:List Expr}{mo:EM}{mA:AM}{name:Str}{apos cpos pos:Pos}{id:String}{f:D->List D->Sto->Option (D × Sto)}{r:V->List V->Hp->VK->Prop}
theorem zv3 {K:QFg}{ρ:List Addr}{S:Sto}{H:Hp}{x:D}{x':V}{xs:List D}(sim:Sim K ρ S H) (rx:RD ρ H x x') (h:zdg x S=some xs):tyV K "list" x' H:=by
 unfold zdg at h
 split at h
 ·obtain ⟨a,us,ha,sq,r2⟩:=sim.lstOf h
  cases rx with
  | ref hn =>
   rw [ha] at hn;cases hn
   exact .inl ⟨rfl,us,sq⟩
 ·cases h
theorem zik (slot:Slot "list" name id) (hty:typeOf (.builtin id)=pure (.type "method_descriptor")) (hm:MtM X id r) (h3:Mt3 X.K f r) (ho:PE3 X o mo) (ha:PA3 X (e :: es) mA)
  (hbase:attributeBase o name X.env (eval o X.env)=eval o X.env:=by rfl)
  (hfew:((backTo cpos (starEach (e :: es) X.env)).all (λx=>!x.1) && (backToKw cpos (keywordEach [] X.env)).all (λx=>x.1.isSome)
   && decide ((e :: es).length+([]:List Keyword).length+(if ([]:List Keyword).isEmpty then 0 else 1)<30))=true:=by rfl)
  (hline:(apos.endLine == cpos.line)=true:=by rfl) (hs:starEach (e :: es) X.env=(false,eval e X.env) :: starEach es X.env:=by rfl) (hplain:(backTo cpos (starEach es X.env)).any (·.1)=false:=by rfl) :
  PE3 X (.Call (.Attribute o name apos) (e :: es) [] cpos) (zc1 f mo mA) :=
 PE.imp (zuv PySem.F.plainAttrs_list slot hty hm ho ha hbase hfew hline hs hplain) λσ H Q hx1_=>by
  obtain ⟨ρ,l,S,v,S',sim,ro,hq,p⟩:=hx1_
  obtain ⟨⟨x,S1⟩,h1,hq⟩:=bnd hq
  obtain ⟨xs,h2,hq⟩:=bnd hq
  obtain ⟨⟨ys,S2⟩,h4,hq⟩:=bnd hq
  exact ⟨ρ,l,S,x,S1,sim,ro,h1,λρ1 H1 x' e1 s1 r1=>⟨zv3 s1 r1 h2,ρ1,l,S1,ys,S2,s1,ro.mono e1,h4,λρ2 H2 vs e2 s2 r2=>h3 ρ2 S2 H2 x x' ys vs v S' Q s2 (r1.mono e2) r2 hq (p.ext (e1.trans e2))⟩⟩
theorem zkb {m:EM}(ho:PE3 X o mo) (he:PE3 X e m)
  (hbase:attributeBase o "append" X.env (eval o X.env)=eval o X.env:=by rfl)
  (hfew:((backTo cpos (starEach [e] X.env)).all (λx=>!x.1) && (backToKw cpos (keywordEach [] X.env)).all (λx=>x.1.isSome)
   && decide ([e].length+([]:List Keyword).length+(if ([]:List Keyword).isEmpty then 0 else 1)<30))=true:=by rfl)
  (hline:(apos.endLine == cpos.line)=true:=by rfl) (hs:starEach [e] X.env=(false,eval e X.env) :: starEach [] X.env:=by rfl) :
  PE3 X (.Call (.Attribute o "append" apos) [e] [] cpos) (zc1 zey mo (zaa m zae)) :=
 zik PySem.F.slot_list_append PySem.F.type_list_append zni zv2 ho (zac he zag hs) hbase hfew hline hs
end
section
variable {X:Cx}{a:Expr}{ma:EM}{pos p p2:Pos}
theorem zv4 {K:QFg}{T U:String}(hT:T∈["NoneType","bool","int","str","tuple","list","dict"]) (hU:U∈["bool","int","str","tuple","list"]):PySem.W.kitOne K (.type T) (.type U)=some (isI T U):=by
 simp only [List.mem_cons,List.not_mem_nil,or_false] at hT hU
 rcases hT with rfl|rfl|rfl|rfl|rfl|rfl|rfl <;> rcases hU with rfl|rfl|rfl|rfl|rfl <;> rfl
theorem zed {U:String}{y:Str}(hg:Gl X "isinstance") (hm:X.mg "isinstance" = none) (hgy:Gl X y) (hmy:X.mg y=none) (hv:bootBuiltins y=some (.type U)) (hU:U∈["bool","int","str","tuple","list"]) (ha:PE3 X a ma)
  (hn:y≠"__name__":=by decide) (hdb:(y == ("__debug__":Str))=false:=by decide)
  (he:starEach (a :: [.Name y p2]) X.env=(false,eval a X.env) :: starEach [.Name y p2] X.env:=by rfl) (he2:starEach [.Name y p2] X.env=(false,eval (.Name y p2) X.env) :: starEach [] X.env:=by rfl) (hpl:(backTo pos (starEach [.Name y p2] X.env)).any (·.1)=false:=by rfl) :
  PE3 X (.Call (.Name "isinstance" p) [a,.Name y p2] [] pos) (eUn (zb2 U) ma):=by
 have hy:PE X (.Name y p2) (tC (.ty U)):=zmh hgy hmy hv rfl hn hdb
 refine PE.imp (zgx (id:="isinstance") (r:=λxs H Q=>∃x T,xs=[x,.ty U]/\TyOf X.K H x (.type T)/\T∈["NoneType","bool","int","str","tuple","list","dict"]/\Q (.bl (isI T U)) H) ?_ hg hm (by decide +kernel) (zcn ha (zcn hy zdw he2) he) (by decide) (by decide) he hpl) ?_
 ·intro pins s σ H xs us Q I r h
  obtain ⟨x,T,rfl,ty,hT,q⟩:=h
  obtain ⟨u1,u2,rfl,r1,r2⟩:=r.two
  cases r2
  exact zt1 I r1 ty (zv4 hT hU) λtk=>⟨.bl _,H,I.tok tk,rfl,q⟩
 ·rintro σ H Q ⟨ρ,l,S,v,S',sim,ro,hq,p⟩
  obtain ⟨⟨x,S1⟩,h1,hq⟩:=bnd hq
  obtain ⟨T,h2,hq⟩:=bnd hq
  cases hq
  refine ⟨ρ,l,S,x,_,sim,ro,h1,λρ1 H1 x' e1 s1 r1=>⟨x',T,rfl,?_⟩⟩
  have fin:=p ρ1 H1 _ e1 s1 (.bl (isI T U))
  cases r1 with
  | non=>cases h2;exact ⟨.non,by decide,fin⟩
  | bl b=>cases h2;exact ⟨.bl b,by decide,fin⟩
  | int b=>cases h2;exact ⟨.int b,by decide,fin⟩
  | str b=>cases h2;exact ⟨.str b,by decide,fin⟩
  | tup hh rr=>cases h2;exact ⟨.tup hh,by decide,fin⟩
  | @ref n b hn =>
   unfold tyD at h2
   dsimp only at h2
   split at h2
   ·rename_i ys ey
    cases h2
    obtain ⟨a',us,ha',hH,r2⟩:=s1.lst ey
    rw [ha'] at hn;cases hn
    exact ⟨.lst hH,by decide,fin⟩
   ·rename_i kvs ey
    cases h2
    obtain ⟨us,hH,r2⟩:=s1.at' n b _ hn ey
    exact ⟨.dK hH,by decide,fin⟩
   ·cases h2
  | fn b=>cases h2
end
def sp3 (K:QFg) (n:Nat) (f:FM):Sp:=λvs H Q _=>vs.length=n/\∃ρ ds S v S',Sim K ρ S H/\RDs ρ H ds vs/\f ds S=some (v,S')/\Pv K ρ H v S' Q
section
variable {X:Cx}{a:Expr}{es:List Expr}{mA:AM}{pos p:Pos}{x:Str}{k:Nat}{f:Addr}{fd:FuncData}{ps:List Str}{m:FM}
theorem zv5 {n:Nat}(F:FnOk X.prog X.w X.K X.mg X.base CX0 k f fd ps (sp3 X.K n m)) (hr:Room k X.A) (hg:Gl X x) (hm:X.mg x=some (.ref f)) (hk:PySem.W.keepIn X.K (.ref f)=true) (hb:Binds X.K fd ps [])
  (ha:PA3 X (a :: es) mA) (hl:∀l S v S',mA l S=some (v,S')->v.length=n) (hdb:(x == ("__debug__":Str))=false:=by decide) (he:starEach (a :: es) X.env=(false,eval a X.env) :: starEach es X.env:=by rfl) (hpl:(backTo pos (starEach es X.env)).any (·.1)=false:=by rfl) :
  PE3 X (.Call (.Name x p) (a :: es) [] pos) (zaf m mA) :=
 PE.imp (zjr F hr hg hm hk hb .nil znn ha hdb he hpl) λσ H Q hx3_=>by
  obtain ⟨ρ,l,S,v,S',sim,ro,hq,p⟩:=hx3_
  obtain ⟨⟨xs,S1⟩,h1,hq⟩:=bnd hq
  exact ⟨ρ,l,S,xs,S1,sim,ro,h1,λρ1 H1 vs e1 s1 r1=>⟨by rw [List.append_nil,<-r1.length];exact hl _ _ _ _ h1,ρ1,xs,S1,v,S',s1,by rw [List.append_nil];exact r1,hq,p.ext e1⟩⟩
theorem za7:∀l S v S',zae l S=some (v,S')->v.length=0:=λl S v S' h=>by cases h;rfl
theorem zam {n:Nat}{m:EM}{mA:AM}(h:∀l S v S',mA l S=some (v,S')->v.length=n):∀l S v S',zaa m mA l S=some (v,S')->v.length=n+1:=λl S v S' q=>by
 obtain ⟨⟨x,S1⟩,h1,q⟩:=bnd q
 obtain ⟨⟨y,S2⟩,h2,q⟩:=bnd q
 cases q
 rw [List.length_cons,h _ _ _ _ h2]
end
noncomputable def zbi:SM:=λl S=>some (.nx,l,S)
noncomputable def zai (a b:SM):SM:=λl S=>(a l S).bind λp=>match p.1 with
 | .nx=>b p.2.1 p.2.2
 | f=>some (f,p.2)
noncomputable def zfv (e:EM):SM:=λl S=>(e l S).bind λp=>some (.nx,l,p.2)
noncomputable def zay (e:EM):SM:=λl S=>(e l S).bind λp=>some (.rt p.1,l,p.2)
noncomputable def sIf (c:TM) (a b:SM):SM:=λl S=>(c l S).bind λp=>if p.1=true then a l p.2 else b l p.2
noncomputable def zaq (e:EM) (g:GM):SM:=λl S=>(e l S).bind λp=>(g p.1 l p.2).bind λq=>some (.nx,q)
noncomputable def zao (i:Nat):GM:=λd l S=>some (l.set i (some d),S)
noncomputable def zfw:GsM
 | [],l,S=>some (l,S)
 | _,_,_=>none
noncomputable def zdm (g:GM) (r:GsM):GsM
 | x :: xs,l,S=>(g x l S).bind λp=>r xs p.1 p.2
 | _,_,_=>none
noncomputable def zfx (n:Nat) (g:GsM):GM
 | .tup xs,l,S=>if xs.length=n then g xs l S else none
 | _,_,_=>none
section
variable {X:Cx}{st:Stmt}{rest:List Stmt}{m n:SM}{e c:Expr}{me:EM}{pos:Pos}
theorem zbw:zcj X [] zbi:=PSs.imp zsp λE σ H hx1_=>by
 obtain ⟨ρ,l,S,f,l',S',sim,ro,hm,p⟩:=hx1_
 cases hm
 exact p ρ H σ (Ext.refl ..) sim ro
theorem zap (h1:PS3 X st m) (h2:zcj X rest n):zcj X (st :: rest) (zai m n):=PSs.imp (zjn h1 h2) λE σ H hx2_=>by
 obtain ⟨ρ,l,S,f,l',S',sim,ro,hm,p⟩:=hx2_
 obtain ⟨⟨g,l1,S1⟩,q1,hm⟩:=bnd hm
 refine ⟨ρ,l,S,g,l1,S1,sim,ro,q1,λρ1 H1 σ1 e1 s1 r1=>?_⟩
 cases g with
 | nx=>exact ⟨ρ1,l1,S1,f,l',S',s1,r1,hm,λρ2 H2 σ2 e2 s2 r2=>p ρ2 H2 σ2 (e1.trans e2) s2 r2⟩
 | bk=>cases hm;exact p ρ1 H1 σ1 e1 s1 r1
 | ct=>cases hm;exact p ρ1 H1 σ1 e1 s1 r1
 | rt d=>cases hm;exact p ρ1 H1 σ1 e1 s1 r1
theorem zax (h1:PS3 X st m):zcj X [st] m:=zsq h1
theorem zkc (he:PE3 X e me) (hs:swapsWith e none pos.line X.env=pure false:=by rfl):PS3 X (.Expr e pos) (zfv me):=PS.imp (zss he hs) λE σ H hx6_=>by
 obtain ⟨ρ,l,S,f,l',S',sim,ro,hm,p⟩:=hx6_
 obtain ⟨⟨x,S1⟩,q1,hm⟩:=bnd hm
 cases hm
 exact ⟨ρ,l,S,x,_,sim,ro,q1,λρ1 H1 x' e1 s1 _=>p ρ1 H1 σ e1 s1 (ro.mono e1)⟩
theorem za8 (he:PE3 X e me):PS3 X (.Return (some e) pos) (zay me):=PS.imp (zmi he) λE σ H hx7_=>by
 obtain ⟨ρ,l,S,f,l',S',sim,ro,hm,p⟩:=hx7_
 obtain ⟨⟨x,S1⟩,q1,hm⟩:=bnd hm
 cases hm
 exact ⟨ρ,l,S,x,_,sim,ro,q1,λρ1 H1 x' e1 s1 r1=>p ρ1 H1 σ e1 s1 (ro.mono e1) x' r1⟩
theorem zbx {c:Expr}{a b:List Stmt}{mc:TM}(hc:PT3 X c mc) (ha:zcj X a m) (hb:zcj X b n):PS3 X (.If c a b pos) (sIf mc m n):=PS.imp (zmj hc ha hb) λE σ H hx9_=>by
 obtain ⟨ρ,l,S,f,l',S',sim,ro,hm,p⟩:=hx9_
 obtain ⟨⟨x,S1⟩,q1,hm⟩:=bnd hm
 refine ⟨ρ,l,S,x,S1,sim,ro,q1,λρ1 H1 e1 s1=>?_⟩
 cases x with
 | true=>exact zeq ⟨ρ1,l,S1,f,l',S',s1,ro.mono e1,hm,λρ2 H2 σ2 e2 s2 r2=>p ρ2 H2 σ2 (e1.trans e2) s2 r2⟩
 | false=>exact zep ⟨ρ1,l,S1,f,l',S',s1,ro.mono e1,hm,λρ2 H2 σ2 e2 s2 r2=>p ρ2 H2 σ2 (e1.trans e2) s2 r2⟩
noncomputable def zkd:SM:=λ_ _=>none
theorem zn7:PS3 X st zkd:=PS.imp zsw λE σ H hx10_=>by obtain ⟨ρ,l,S,f,l',S',sim,ro,hm,p⟩:=hx10_;cases hm
variable {tgt o i:Expr}{g:GM}{gs:GsM}{ts':List Expr}{mo mi:EM}
theorem zcp (j:Nat) {x:Str}(hN:X.N.Nodup) (hi:X.N[j]? = some x:=by rfl) (hx:Loc X.env.scope x:=by first|exact Or.inl rfl|exact Or.inr rfl) (hf:X.fn x=true\/X.env.scope.names.lookup x=some .local:=by first|exact .inl rfl|exact .inr rfl|assumption):PG3 X (.Name x pos) (zao j) :=
 PG.imp (zsx hN hi hx hf) λv σ H Q hx11_=>by
  obtain ⟨ρ,l,S,d,l',S',sim,ro,rd,hm,p⟩:=hx11_
  cases hm
  exact p ρ H _ (Ext.refl ..) sim (ro.set j rd)
theorem zke:zid X [] zfw:=PGs.imp zs0 λv σ H Q hx12_=>by
 obtain ⟨ρ,l,S,d,l',S',sim,ro,rd,hm,p⟩:=hx12_
 cases rd with
 | nil=>cases hm;exact ⟨rfl,p ρ H _ (Ext.refl ..) sim ro⟩
 | cons _ _=>cases hm
theorem zfy (h1:PG3 X tgt g) (h2:zid X ts' gs) (hs:(assignEach (tgt :: ts') X.env).map (·.2)=assign tgt X.env :: (assignEach ts' X.env).map (·.2):=by rfl):zid X (tgt :: ts') (zdm g gs):=PGs.imp (zs1 h1 h2 hs) λv σ H Q hx13_=>by
 obtain ⟨ρ,l,S,d,l',S',sim,ro,rd,hm,p⟩:=hx13_
 cases rd with
 | nil=>cases hm
 | @cons x v' xs vs r1 r2 =>
  obtain ⟨⟨l1,S1⟩,q1,hm⟩:=bnd hm
  exact ⟨v',vs,rfl,ρ,l,S,x,l1,S1,sim,ro,r1,q1,λρ1 H1 σ1 e1 s1 ro1=>⟨ρ1,l1,S1,xs,l',S',s1,ro1,r2.mono e1,hm,λρ2 H2 σ2 e2 s2 ro2=>p ρ2 H2 σ2 (e1.trans e2) s2 ro2⟩⟩
theorem zkf {es:List Expr}{k n:Nat}(hc:X.calm=true) (h:zid X es gs) (hn:(assignEach es X.env).length=n:=by rfl) (hst:(assignEach es X.env).findIdx? (·.1)=none:=by rfl):PG3 X (.Tuple es k pos) (zfx n gs) :=
 PG.imp (zs3 hc h hn hst) λv σ H Q hx14_=>by
  obtain ⟨ρ,l,S,d,l',S',sim,ro,rd,hm,p⟩:=hx14_
  cases rd with
  | @tup xs a vs ha r =>
   have hm:(if xs.length=n then gs xs l S else none)=some (l',S'):=hm
   by_cases hl:xs.length=n
   ·rw [if_pos hl] at hm
    exact ⟨a,vs,rfl,SqT.of ha,by rw [<-r.length];exact hl,ρ,l,S,xs,l',S',sim,ro,r,hm,p⟩
   ·rw [if_neg hl] at hm;cases hm
  | _=>cases hm
theorem zkg (he:PE3 X e me) (hg:PG3 X tgt g) (hs:swapsWithSole [tgt] e pos.line X.env=pure false:=by rfl) (hw:swappedStores [tgt] e X.env=pure none:=by rfl)
  (h1:(assignEach [tgt] X.env).map (·.2)=[assign tgt X.env]:=by rfl):PS3 X (.Assign [tgt] e pos) (zaq me g):=PS.imp (zs4 he hg hs hw h1) λE σ H hx16_=>by
 obtain ⟨ρ,l,S,f,l',S',sim,ro,hm,p⟩:=hx16_
 obtain ⟨⟨x,S1⟩,q1,hm⟩:=bnd hm
 obtain ⟨⟨l2,S2⟩,q2,hm⟩:=bnd hm
 cases hm
 exact ⟨ρ,l,S,x,S1,sim,ro,q1,λρ1 H1 x' e1 s1 r1=>⟨ρ1,l,S1,x,_,_,s1,ro.mono e1,r1,q2,λρ2 H2 σ2 e2 s2 r2=>p ρ2 H2 σ2 (e1.trans e2) s2 r2⟩⟩
theorem za1 (j:Nat) {x:Str}{pos':Pos}(hN:X.N.Nodup) (he:PE3 X e me) (hi:X.N[j]? = some x:=by rfl) (hx:Loc X.env.scope x:=by first|exact Or.inl rfl|exact Or.inr rfl) (hs:swapsWith e (some (.Name x pos')) pos.line X.env=pure false:=by rfl) (hf:X.fn x=true\/X.env.scope.names.lookup x=some .local:=by first|exact .inl rfl|exact .inr rfl|assumption) :
  PS3 X (.Assign [.Name x pos'] e pos) (zaq me (zao j)):=PS.imp (zs5 hN hi hx he hs hf) λE σ H hx17_=>by
 obtain ⟨ρ,l,S,f,l',S',sim,ro,hm,p⟩:=hx17_
 obtain ⟨⟨x,S1⟩,q1,hm⟩:=bnd hm
 cases hm
 exact ⟨ρ,l,S,x,_,sim,ro,q1,λρ1 H1 x' e1 s1 r1=>p ρ1 H1 _ e1 s1 ((ro.mono e1).set j r1)⟩
end
noncomputable def zc7 (g:GM) (b:SM):List D->SM
 | [],l,S=>some (.nx,l,S)
 | x :: xs,l,S=>(g x l S).bind λp=>(b p.1 p.2).bind λq=>match q.1 with
  | .nx=>zc7 g b xs q.2.1 q.2.2
  | .ct=>zc7 g b xs q.2.1 q.2.2
  | .bk=>some (.nx,q.2)
  | .rt d=>some (.rt d,q.2)
noncomputable def zc8 (g:GM) (b:SM) (n:Nat):Nat->Nat->SM
 | 0,_,_,_=>none
 | k+1,i,l,S=>(lstOf S n).bind λxs=>match xs[i]? with
  | none=>some (.nx,l,S)
  | some x=>(g x l S).bind λp=>(b p.1 p.2).bind λq=>match q.1 with
   | .nx=>zc8 g b n k (i+1) q.2.1 q.2.2
   | .ct=>zc8 g b n k (i+1) q.2.1 q.2.2
   | .bk=>some (.nx,q.2)
   | .rt d=>some (.rt d,q.2)
noncomputable def zez (e:EM) (g:GM) (b:SM):SM:=λl S=>(e l S).bind λp=>match p.1 with
 | .tup xs=>zc7 g b xs l p.2
 | .ref n=>(lstOf p.2 n).bind λxs=>zc8 g b n (xs.length+1) 0 l p.2
 | _=>none
noncomputable def zbo (lo:Int) (n:Nat):List D:=(List.range n).map λ(i:Nat)=>.int (lo+i)
noncomputable def zb7 (as:AM):Lo->Sto->Option ((Int × Nat) × Sto):=λl S=>(as l S).bind λp=>match p.1 with
 | [.int j]=>if -(2 ^ 62)<=j/\j<2 ^ 62 then some ((0,j.toNat),p.2) else none
 | _=>none
noncomputable def zee (r:Lo->Sto->Option ((Int × Nat) × Sto)) (g:GM) (b:SM):SM:=λl S=>(r l S).bind λp=>zc7 g b (zbo p.1.1 p.1.2) l p.2
section
variable {K:QFg}{g:GM}{b:SM}{E:Ends}
theorem zn8 {next:SM}{x:D}{v:V}{ρ:List Addr}{l:Lo}{S:Sto}{H:Hp}{σ:St}{f:Fl}{l':Lo}{S':Sto}(sim:Sim K ρ S H) (ro:RO ρ H l σ) (rx:RD ρ H x v)
  (hm:((g x l S).bind λp=>(b p.1 p.2).bind λq=>match q.1 with
   | .nx=>next q.2.1 q.2.2
   | .ct=>next q.2.1 q.2.2
   | .bk=>some (.nx,q.2)
   | .rt d=>some (.rt d,q.2))=some (f,l',S')) (p:∀ρ' H' σ',Ext ρ H ρ' H'->Sim K ρ' S' H'->RO ρ' H' l' σ'->zic ρ' H' E σ' f)
  {N:St->Hp->Prop} (hN:∀ρ1 H1 σ1 l1 S1,Ext ρ H ρ1 H1->Sim K ρ1 S1 H1->RO ρ1 H1 l1 σ1->next l1 S1=some (f,l',S')->N σ1 H1) :
  tg K g v σ H λσ2 H2=>ts K b { E with nx:=N,ct:=N,bk:=E.nx } σ2 H2:=by
 obtain ⟨⟨l1,S1⟩,q1,hm⟩:=bnd hm
 obtain ⟨⟨fl,l2,S2⟩,q2,hm⟩:=bnd hm
 refine ⟨ρ,l,S,x,l1,S1,sim,ro,rx,q1,λρ1 H1 σ1 e1 s1 r1=>⟨ρ1,l1,S1,fl,l2,S2,s1,r1,q2,λρ2 H2 σ2 e2 s2 r2=>?_⟩⟩
 cases fl with
 | nx=>exact hN ρ2 H2 σ2 l2 S2 (e1.trans e2) s2 r2 hm
 | ct=>exact hN ρ2 H2 σ2 l2 S2 (e1.trans e2) s2 r2 hm
 | bk=>cases hm;exact p ρ2 H2 σ2 (e1.trans e2) s2 r2
 | rt d=>cases hm;exact p ρ2 H2 σ2 (e1.trans e2) s2 r2
end
section
variable {X:Cx}{tgt iter:Expr}{body:List Stmt}{g:GM}{b:SM}{m:EM}{pos:Pos}
theorem zn9 {K:QFg}{J:It}{vs:List V}{xs:List D}{ρ:List Addr}{l:Lo}{S:Sto}{H:Hp}{σ:St}{f:Fl}{l':Lo}{S':Sto}{E:Ends}(R:List Addr->Hp->Prop) (hR:∀ρ H ρ' H',Ext ρ H ρ' H'->R ρ H->R ρ' H')
  (hgo:∀(i:Nat) ρ H v,R ρ H->vs[i]? = some v->J.go i H) (hy:∀(i:Nat) ρ H v H',R ρ H->i<vs.length->J.yld i H v H'->H' = H/\vs[i]? = some v) (hst:∀ρ H,R ρ H->J.stop vs.length H)
  (hv:∀ρ H,R ρ H->RDs ρ H xs vs) (r0:R ρ H)
  (sim:Sim K ρ S H) (ro:RO ρ H l σ) (hm:zc7 g b xs l S=some (f,l',S')) (p:∀ρ' H' σ',Ext ρ H ρ' H'->Sim K ρ' S' H'->RO ρ' H' l' σ'->zic ρ' H' E σ' f) :
  ∃W:Nat->Nat->St->Hp->Prop,(∃m,W 0 m σ H)/\∀i m σ H,W i m σ H ->
   (J.stop i H/\E.nx σ H)\/(J.go i H/\∃N:St->Hp->Prop,(∀σ' H',N σ' H'->∃m',m' < m/\W (i+1) m' σ' H')/\∀x H',J.yld i H x H'->tg K g x σ H' λσ2 H2=>ts K b { E with nx:=N,ct:=N,bk:=E.nx } σ2 H2):=by
 refine ⟨λi m σ1 H1=>m=xs.length-i/\i<=xs.length/\∃ρ1 l1 S1,Ext ρ H ρ1 H1/\Sim K ρ1 S1 H1/\RO ρ1 H1 l1 σ1/\zc7 g b (xs.drop i) l1 S1=some (f,l',S'),⟨xs.length,by simp,Nat.zero_le _,ρ,l,S,Ext.refl ..,sim,ro,hm⟩,?_⟩
 rintro i m σ1 H1 ⟨rfl,hi,ρ1,l1,S1,e1,s1,ro1,hm1⟩
 have R1:=hR _ _ _ _ e1 r0
 have hlen:=(hv _ _ r0).length
 by_cases hlt:i<xs.length
 ·have hx:xs[i]? = some xs[i]:=qge hlt
  obtain ⟨v,hvi,rv⟩:=(hv _ _ R1).get hx
  rw [List.drop_eq_getElem_cons hlt] at hm1
  refine .inr ⟨hgo i ρ1 H1 v R1 hvi,_,λσ' H' h=>h,λy H' hyl=>?_⟩
  obtain ⟨e,hy2⟩:=hy i ρ1 H1 y H' R1 (by omega) hyl
  subst e
  rw [hvi] at hy2;cases hy2
  refine zn8 (next:=zc7 g b (xs.drop (i+1))) s1 ro1 rv hm1 (λρ' H' σ' e'=>p ρ' H' σ' (e1.trans e')) λρ2 H2 σ2 l2 S2 e2 s2 ro2 hm2=>?_
  exact ⟨xs.length-(i+1),by omega,rfl,hlt,ρ2,l2,S2,e1.trans e2,s2,ro2,hm2⟩
 ·have hil:i=xs.length:=by omega
  subst hil
  rw [List.drop_length] at hm1
  cases hm1
  exact .inl ⟨by rw [hlen];exact hst _ _ R1,p ρ1 H1 σ1 e1 s1 ro1⟩
theorem zoa (ρ:List Addr) (H:Hp) (lo:Int) (n:Nat):RDs ρ H (zbo lo n) ((List.range n).map λ(i:Nat)=>V.int (lo+i)):=by
 unfold zbo
 generalize List.range n=l
 induction l with
 | nil=>exact .nil
 | cons a r ih=>exact .cons (.int _) ih
theorem zv6 {lo:Int}{n i:Nat}{v:V}(h:i<n) (hv:v=.int (lo+i)):((List.range n).map λ(i:Nat)=>V.int (lo+i))[i]? = some v:=by
 rw [qgm,List.getElem?_range h,hv];rfl
theorem PI.or {wi wj:TI}(h:PI X tgt iter wi) (h':PI X tgt iter wj):PI X tgt iter (λσ H R=>wi σ H R\/wj σ H R):=by
 intro pins s σ H R I q
 rcases q with q|q
 ·exact h pins s σ H R I q
 ·exact h' pins s σ H R I q
theorem zv7 {K:QFg}{n:Nat}{a:Addr}{ρ:List Addr}{l:Lo}{S:Sto}{H:Hp}{σ:St}{f:Fl}{l':Lo}{S':Sto}{E:Ends}{k:Nat}(ha:ρ[n]? = some a)
  (sim:Sim K ρ S H) (ro:RO ρ H l σ) (hm:zc8 g b n k 0 l S=some (f,l',S')) (p:∀ρ' H' σ',Ext ρ H ρ' H'->Sim K ρ' S' H'->RO ρ' H' l' σ'->zic ρ' H' E σ' f) :
  ∃W:Nat->Nat->St->Hp->Prop,(∃m,W 0 m σ H)/\∀i m σ H,W i m σ H ->
   ((Itl K a).stop i H/\E.nx σ H)\/((Itl K a).go i H/\∃N:St->Hp->Prop,(∀σ' H',N σ' H'->∃m',m' < m/\W (i+1) m' σ' H')/\∀x H',(Itl K a).yld i H x H'->tg K g x σ H' λσ2 H2=>ts K b { E with nx:=N,ct:=N,bk:=E.nx } σ2 H2):=by
 refine ⟨λi m σ1 H1=>∃ρ1 l1 S1,Ext ρ H ρ1 H1/\Sim K ρ1 S1 H1/\RO ρ1 H1 l1 σ1/\zc8 g b n m i l1 S1=some (f,l',S'),⟨k,ρ,l,S,Ext.refl ..,sim,ro,hm⟩,?_⟩
 rintro i m σ1 H1 ⟨ρ1,l1,S1,e1,s1,ro1,hm1⟩
 cases m with
 | zero=>cases hm1
 | succ m =>
  have ha1:=e1.pre n a ha
  unfold zc8 at hm1
  obtain ⟨xs,hx,hm1⟩:=bnd hm1
  obtain ⟨a',vs,ha',sq,rv⟩:=s1.lstOf hx
  rw [ha1] at ha';cases ha'
  cases hi:xs[i]? with
  | none =>
   rw [hi] at hm1
   cases hm1
   have hl:xs.length<=i:=List.getElem?_eq_none_iff.mp hi
   exact .inl ⟨⟨vs,sq,by rw [<-rv.length];exact hl⟩,p ρ1 H1 σ1 e1 s1 ro1⟩
  | some x =>
   rw [hi] at hm1
   obtain ⟨v,hvi,r⟩:=rv.get hi
   refine .inr ⟨⟨vs,v,sq,hvi⟩,_,λσ' H' h=>h,λy H' hyl=>?_⟩
   obtain ⟨e,hy2⟩:=hyl
   subst e
   have hy3:=hy2 vs sq
   rw [hvi] at hy3;cases hy3
   refine zn8 (next:=zc8 g b n m (i+1)) s1 ro1 r hm1 (λρ' H' σ' e'=>p ρ' H' σ' (e1.trans e')) λρ2 H2 σ2 l2 S2 e2 s2 ro2 hm2=>?_
   exact ⟨m,Nat.lt_succ_self m,ρ2,l2,S2,e1.trans e2,s2,ro2,hm2⟩
theorem zob (hp:PassesOwn (model X.prog X.w) X.A X.env X.xe) (hc:X.calm=true) (hi:PE3 X iter m) (hg:PG3 X tgt g) (hb:zcj X body b)
  (hs:∀x,foldedSetIterable iter X.env x=pure x:=by intro _;rfl):PS3 X (.For tgt iter body [] pos) (zez m g b) :=
 PS.imp (zmp hp hc (PI.or (zmm hi) (zmn hi)) hg hb hs) λE σ H hx18_=>by
  obtain ⟨ρ,l,S,f,l',S',sim,ro,hm,p⟩:=hx18_
  obtain ⟨⟨x,S1⟩,q1,hm⟩:=bnd hm
  dsimp only at hm
  split at hm
  ·rename_i xs
   refine .inr ⟨ρ,l,S,.tup xs,S1,sim,ro,q1,λρ1 H1 x' e1 s1 r1=>?_⟩
   cases r1 with
   | @tup xs a vs ha r =>
    refine ⟨a,rfl,⟨vs,SqT.of ha⟩,zn9 (vs:=vs) (λρ' H'=>H' a=some (.tup vs)/\RDs ρ' H' xs vs) (λρ H ρ' H' e ⟨h1,h2⟩=>⟨e.tup _ _ h1,h2.mono e⟩)
     (λi ρ H v ⟨h1,_⟩ hv=>⟨vs,v,SqT.of h1,hv⟩) (λi ρ H v H' ⟨h1,_⟩ _ hy=>⟨hy.1,hy.2 vs (SqT.of h1)⟩) (λρ H ⟨h1,_⟩=>⟨vs,SqT.of h1,qlr _⟩) (λρ H h=>h.2) ⟨ha,r⟩ s1 (ro.mono e1) hm λρ' H' σ' e'=>p ρ' H' σ' (e1.trans e')⟩
  ·rename_i n
   obtain ⟨xs,hx,hm⟩:=bnd hm
   refine .inl ⟨ρ,l,S,.ref n,S1,sim,ro,q1,λρ1 H1 x' e1 s1 r1=>?_⟩
   obtain ⟨a,vs,ha,sq,rv⟩:=s1.lstOf hx
   cases r1 with
   | ref hn =>
    rw [ha] at hn;cases hn
    exact ⟨a,rfl,⟨vs,sq⟩,zv7 ha s1 (ro.mono e1) hm (λρ' H' σ' e'=>p ρ' H' σ' (e1.trans e'))⟩
  ·cases hm
theorem zil {a:Expr}{mA:AM}{p0 pos':Pos}(hp:PassesOwn (model X.prog X.w) X.A X.env X.xe) (hc:X.calm=true) (hgl:Gl X "range") (hmg:X.mg "range" = none) (ha:PA3 X [a] mA) (hg:PG3 X tgt g) (hb:zcj X body b)
  (hs:∀x,foldedSetIterable (.Call (.Name "range" p0) [a] [] pos') X.env x=pure x:=by intro _;rfl) (hst:starEach [a] X.env=[(false,eval a X.env)]:=by rfl):PS3 X (.For tgt (.Call (.Name "range" p0) [a] [] pos') body [] pos) (zee (zb7 mA) g b) :=
 PS.imp (zmp hp hc (zmo hgl hmg ha hst) hg hb hs) λE σ H hx19_=>by
  obtain ⟨ρ,l,S,f,l',S',sim,ro,hm,p⟩:=hx19_
  obtain ⟨⟨⟨lo,n⟩,S1⟩,q1,hm⟩:=bnd hm
  obtain ⟨⟨xs,S2⟩,q2,q1⟩:=bnd q1
  dsimp only at q1 hm
  split at q1
  ·rename_i j
   obtain ⟨hz,e⟩:=za3 q1
   cases e
   refine ⟨ρ,l,S,[.int j],S1,sim,ro,q2,λρ1 H1 vs e1 s1 r1=>?_⟩
   obtain ⟨v,rfl,rv⟩:=r1.one
   cases rv
   refine ⟨j,rfl,hz.1,hz.2,zn9 (vs:=(List.range j.toNat).map λ(i:Nat)=>V.int (0+i)) (λ_ _=>True) (λ_ _ _ _ _ h=>h) (λi ρ H v _ hv=>?_) (λi ρ H v H' _ hl hy=>⟨hy.1,?_⟩) (λρ H _=>?_) (λρ H _=>zoa ρ H 0 j.toNat) trivial s1 (ro.mono e1) hm λρ' H' σ' e'=>p ρ' H' σ' (e1.trans e')⟩
   ·have:=(qme hv).1
    simp at this
    show i<j.toNat
    omega
   ·obtain ⟨_,hy⟩:=hy
    exact zv6 (by simpa using hl) hy
   ·show j.toNat<=_
    simp
  ·cases q1
end
noncomputable def zbp (n:Nat) (b:SM):FM:=λds S=>(b (ds.map some++List.replicate (n-ds.length) none) S).bind λp=>match p.1 with
 | .rt d=>some (d,p.2.2)
 | .nx=>some (.non,p.2.2)
 | _=>none
theorem RDs.locals {ρ:List Addr}{H:Hp}{ds:List D}{vs:List V}(r:RDs ρ H ds vs) (N:List Str):RO ρ H (ds.map some++List.replicate (N.length-ds.length) none) (L2.start N vs):=by
 unfold L2.start
 rw [<-r.length]
 refine ⟨by simp [r.length],λi d h=>?_⟩
 by_cases hl:i<ds.length
 ·rw [List.getElem?_append_left (by simpa using hl),qgm] at h
  cases e:ds[i]? with
  | none=>rw [e] at h;cases h
  | some d' =>
   rw [e] at h
   have h':some (some d')=some (some d):=h
   cases h'
   obtain ⟨v,h1,h2⟩:=r.get e
   exact ⟨v,by rw [List.getElem?_append_left (by rw [qlm,<-r.length];exact hl),qgm,h1];rfl,h2⟩
 ·rw [List.getElem?_append_right (by simpa using hl),List.getElem?_replicate] at h
  split at h
  ·cases h
  ·cases h
theorem zoc {P:Program}{w:World}{K:QFg}{mg:Str->Option Value}{base:Heap}{x qual:Str}{st:Stmt}{f:Addr}{fd:FuncData}{N ps:List Str}{k n:Nat}{b:SM}(F:Fun K x qual st f fd) (S:FnScope N ps (zau st)) (hn:ps.length=n)
  (hbody:∀(cdv:Value),PySem.W.codeIn K cdv qual=true->∀(A:Around) (outer:List Env) (s:Shared) (H:Hp) (E:XK),Room k (A.deeper (envOfC qual (zau st) s.heap.objs.size f cdv)) ->
   zcj (zbh CX0 P w K mg base N qual (zau st) f cdv A outer s H E).nox (zch st) b):FnOk P w K mg base CX0 (k+1) f fd ps (sp3 K n (zbp N.length b)):=by
 obtain ⟨oc,od,kV,doc,pm,an,cdv,ct,osl,rfl,lk,hcd⟩:=F.ex
 refine zjs lk hcd S (λvs H Q E h=>by rw [h.1,hn]) λA outer s H vs Q E hr h=>?_
 obtain ⟨hl,ρ,ds,S0,v,S',sim,rd,hm,p⟩:=h
 refine ⟨_,PSs.nox (hbody cdv hcd A outer s H E hr),?_⟩
 obtain ⟨⟨fl,l',S1⟩,q,hm⟩:=bnd hm
 refine ⟨ρ,_,S0,fl,l',S1,sim,rd.locals N,q,λρ' H' σ' e' s' r'=>?_⟩
 cases fl with
 | nx=>cases hm;exact p ρ' H' _ e' s' .non
 | rt d=>cases hm;exact λv' rv=>p ρ' H' v' e' s' rv
 | bk=>cases hm
 | ct=>cases hm
noncomputable def zby (env:Env):List (Str × NameKind)->List (Str × Addr)->List (Str × Addr)
 | [],cs=>cs
 | (n,k) :: r,cs=>if k == .free then (match env.cells.lookup n with|some c=>zby env r ((n,c) :: cs)|none=>zby env r cs) else zby env r cs
theorem zod (env:Env):∀(names:List (Str × NameKind)) (cs:List (Str × Addr)),(∀x∈names,x.2=.free->∃c,env.cells.lookup x.1=some c) ->
  (forIn names cs (λx r=>if (x.2 == NameKind.free)=true then do let c <-cellOf env x.1;pure (ForInStep.yield ((x.1,c) :: r)) else pure (ForInStep.yield r)):Sem (List (Str × Addr)))=pure (zby env names cs)
 | [],cs,_=>rfl
 | (n,k) :: r,cs,h=>by
  have ih:=λcs=>zod env r cs λx hx=>h x (List.mem_cons_of_mem _ hx)
  rw [List.forIn_cons]
  by_cases hk:k=.free
  ·subst hk
   obtain ⟨c,hc⟩:=h (n,.free) List.mem_cons_self rfl
   simp only [beq_self_eq_true,if_true,cellOf,hc,zby,pure_bind,bind_assoc]
   exact ih _
  ·have hb:(k == NameKind.free)=false:=by simpa using hk
   simp only [hb,qbf,if_false,zby,pure_bind]
   exact ih _
theorem zv8 (scope:Scope) (env:Env) (h:∀x∈scope.names,x.2=.free->∃c,env.cells.lookup x.1=some c):closureFor scope env=pure (zby env scope.names []):=by
 have e:=zod env scope.names [] h
 unfold closureFor
 show (forIn scope.names ([]:List (Str × Addr)) (λ(x:Str × NameKind) (r:List (Str × Addr))=>if (x.2 == NameKind.free)=true then do let c <-cellOf env x.1;pure (ForInStep.yield ((x.1,c) :: r)) else pure (ForInStep.yield r)) >>= λcs=>pure cs)=_
 rw [e,pure_bind]
theorem zim (env:Env):∀(names:List (Str × NameKind)) (cs:List (Str × Addr)),(∀x c,cs.lookup x=some c->env.cells.lookup x=some c)->∀x c,(zby env names cs).lookup x=some c->env.cells.lookup x=some c
 | [],cs,h,x,c,q=>h x c q
 | (n,k) :: r,cs,h,x,c,q=>by
  unfold zby at q
  split at q
  ·split at q
   ·rename_i c' e
    refine zim env r _ (λy d hy=>?_) x c q
    rw [List.lookup_cons] at hy
    split at hy
    ·rename_i hb
     have:y=n:=by simpa using hb
     cases hy
     rw [this];exact e
    ·exact h y d hy
   ·exact zim env r cs h x c q
  ·exact zim env r cs h x c q
theorem zg9 (env:Env):∀(names:List (Str × NameKind)) (cs:List (Str × Addr)) (x:Str),((x,NameKind.free)∈names\/∃c,cs.lookup x=some c)->(∃c,env.cells.lookup x=some c)->∃c,(zby env names cs).lookup x=some c
 | [],cs,x,h,_=>by
  rcases h with h|h
  ·cases h
  ·exact h
 | (n,k) :: r,cs,x,h,hx=>by
  unfold zby
  by_cases hk:(k == NameKind.free)=true
  ·rw [if_pos hk]
   split
   ·rename_i c' e
    refine zg9 env r _ x ?_ hx
    by_cases hxn:x=n
    ·exact .inr ⟨c',by rw [hxn,List.lookup_cons];simp⟩
    ·rcases h with h|⟨c,h⟩
     ·rcases List.mem_cons.mp h with h|h
      ·cases h;exact absurd rfl hxn
      ·exact .inl h
     ·exact .inr ⟨c,by
       rw [List.lookup_cons]
       have:(x == n)=false:=by simpa using hxn
       rw [this];exact h⟩
   ·rename_i e
    refine zg9 env r _ x ?_ hx
    rcases h with h|h
    ·rcases List.mem_cons.mp h with h|h
     ·cases h
      obtain ⟨c,hc⟩:=hx
      rw [hc] at e;cases e
     ·exact .inl h
    ·exact .inr h
  ·rw [if_neg hk]
   refine zg9 env r _ x ?_ hx
   rcases h with h|h
   ·rcases List.mem_cons.mp h with h|h
    ·cases h;exact absurd rfl hk
    ·exact .inl h
   ·exact .inr h
section
variable {prog:Program}{w:World}{A:Around}{R:Result->Shared->Prop}{s:Shared}
theorem zv9 {elt target iter:Expr}{ifs:List Expr}{scope:Scope}{pos:Pos}{it acc:Value}{env:Env}(I:Nat->Shared->Prop)
  (turn:∀n s,I n s->wpAny (model prog w) A (pyNext it) (λr s₁=>match r with
   | none=>R (.ok .next) s₁
   | some v=>wpAny (model prog w) A (letOwnedTupleGo target it v) (λ_ s₁'=>wpAny (model prog w) A (assign target env v) (λ_ s₂ =>
     wpAny (model prog w) A (forIn ifs true λc r=>if r=true then do let ok <-isTrue c env (eval c env);pure (ForInStep.yield ok) else pure (ForInStep.yield r)) (λok s₃ =>
      if ok=true then wpAny (model prog w) A (eval elt env) (λx s₄ =>
       wpAny (model prog w) A (call (.builtin "list.append") [acc,x]) (λ_ s₅=>∃m,m<n/\I m s₅) (notedBy (model prog w) A env λe s'=>R (.error e) s') s₄) (notedBy (model prog w) A env λe s'=>R (.error e) s') s₃
      else ∃m,m<n/\I m s₃) (notedBy (model prog w) A env λe s'=>R (.error e) s') s₂) (notedBy (model prog w) A env λe s'=>R (.error e) s') s₁') (notedBy (model prog w) A env λe s'=>R (.error e) s') s₁) (notedBy (model prog w) A env λe s'=>R (.error e) s') s)
  (n:Nat) (h:I n s) :
  codeAny (model prog w) A (.compLoop (.ListComp elt [⟨target,iter,ifs,0⟩] scope pos) 0 it acc env) R s:=by
 refine codeAny_loop rfl I (λn s hI=>?_) n h
 show wpAny _ A ((compTurn (.ListComp elt [⟨target,iter,ifs,0⟩] scope pos) 0 it acc env).onRaise (λx=>do noteFrame x env;theTreesLotGoes x)) _ _ s
 refine wpAny_noted ?_
 rw [compTurn_list]
 refine qwb (wpAny_standAt (qwb (wpAny_mono (turn n s hI) (λr s₁ h₁=>?_) λ_ _ h'=>h')))
 cases r with
 | none=>exact qwp h₁
 | some v =>
  refine qwb (wpAny_mono h₁ (λ_ s₁' h₁=>?_) λ_ _ h'=>h')
  refine qwb (wpAny_mono h₁ (λ_ s₂ h₂=>qwb (wpAny_mono h₂ (λok s₃ h₃=>?_) λ_ _ h'=>h')) λ_ _ h'=>h')
  cases ok with
  | false=>exact qwp ⟨rfl,h₃⟩
  | true =>
   exact qwb (qwb (wpAny_mono h₃ (λx s₄ h₄=>qwb (wpAny_mono h₄ (λ_ s₅ h₅=>qwp (qwp ⟨rfl,h₅⟩)) λ_ _ h'=>h')) λ_ _ h'=>h'))
end
def PTs (X:Cx) (ifs:List Expr) (t:TT):Prop:=∀(pins:List (Addr × Obj)) (s:Shared) (σ:St) (H:Hp) (Q:Bool->Hp->Prop),Inv X pins σ H s->t σ H Q ->
 wpAny (model X.prog X.w) X.A (forIn ifs true λc r=>if r=true then do let ok <-isTrue c X.env (eval c X.env);pure (ForInStep.yield ok) else pure (ForInStep.yield r)) (TP X pins σ Q) X.xe s
theorem zwa {X:Cx}:PTs X [] (λ_ H Q=>Q true H):=λ_ _ _ H _ I h=>wpAny_tests_nil ⟨H,I,h⟩
theorem zwb {X:Cx}{c:Expr}{t:TT}(h:PT X c t):PTs X [c] t:=λpins s σ H Q I q=>wpAny_tests_one (h pins s σ H Q I q)
def zkh (K:QFg) (wi:TI) (src:St->St) (g:TG) (tts:TT) (t:TE):TE:=λσ H Q=>wi σ H λJ H1=>∀D,H1 D=none->K.lookup D=none->∃W:Nat->Nat->St->Hp->Prop,
 (∃m,W 0 m (src σ) (upd H1 D (.lst [])))/\∀i m σ' H',W i m σ' H' ->
  (J.stop i H'/\Q (.ref D) H')\/(J.go i H'/\∃N:St->Hp->Prop,(∀σ' H',N σ' H'->∃m',m' < m/\W (i+1) m' σ' H') /\
   ∀x H'',J.yld i H' x H''->g x σ' H'' λσ2 H2=>tts σ2 H2 λb H3=>if b=true then t σ2 H3 (λv H4=>∃ys,H4 D=some (.lst ys)/\ys.length<sizeLine/\N σ2 (upd H4 D (.lst (ys++[v])))) else N σ2 H3)
theorem zoe {scope:Scope}{env:Env}:∀{names:List (Str × NameKind)}{x:Str},names.lookup x=some .free ->
  ((names.map λ(n,k)=>if (k == NameKind.free && env.scope.kind == .function && env.kindOf n == some .cell) then (n,NameKind.cell) else (n,k)).lookup x=some .cell \/
   (names.map λ(n,k)=>if (k == NameKind.free && env.scope.kind == .function && env.kindOf n == some .cell) then (n,NameKind.cell) else (n,k)).lookup x=some .free)
 | [],x,h=>by simp at h
 | (n,k) :: r,x,h=>by
  have ih:=@zoe scope env r x
  show List.lookup x ((if (k == NameKind.free && env.scope.kind == .function && env.kindOf n == some .cell)=true then (n,NameKind.cell) else (n,k)) :: _)=_\/List.lookup x ((if (k == NameKind.free && env.scope.kind == .function && env.kindOf n == some .cell)=true then (n,NameKind.cell) else (n,k)) :: _)=_
  cases hx:x == n with
  | true =>
   simp only [List.lookup_cons,hx] at h
   cases h
   by_cases hc:(NameKind.free == NameKind.free && env.scope.kind == .function && env.kindOf n == some .cell)=true
   ·rw [if_pos hc];simp [List.lookup_cons,hx]
   ·rw [if_neg hc];simp [List.lookup_cons,hx]
  | false =>
   simp only [List.lookup_cons,hx] at h
   by_cases hc:(k == NameKind.free && env.scope.kind == .function && env.kindOf n == some .cell)=true
   ·rw [if_pos hc];simp only [List.lookup_cons,hx];exact ih h
   ·rw [if_neg hc];simp only [List.lookup_cons,hx];exact ih h
section
variable {K:QFg}{ρ ρ':List Addr}{H H':Hp}{S:Sto}
theorem Sim.notin {a:Addr}(s:Sim K ρ S H) (h1:H a=none) (h2:K.lookup a=none):∀n:Nat,ρ[n]?≠some a:=λn hn=>by
 have hl:n<S.length:=by rw [<-s.len];exact (qme hn).1
 have q:=s.at' n a _ hn (qge hl)
 cases e:S[n] with
 | lst xs=>rw [e] at q;obtain ⟨vs,z,_⟩:=q;rw [h1] at z;cases z
 | flst xs =>
  rw [e] at q
  obtain ⟨vs,z,_⟩:=q
  rcases z with ⟨o,z⟩|⟨o,_,_,z,_⟩
  ·rw [h1] at z;cases z
  ·rw [h2] at z;cases z
 | iset g m=>rw [e] at q;have q:H a=_:=q;rw [h1] at q;cases q
 | dct kvs=>rw [e] at q;obtain ⟨vs,z,_⟩:=q;rw [h1] at z;cases z
 | tdct kvs=>rw [e] at q;obtain ⟨vs,z,_⟩:=q;rw [h1] at z;cases z
 | fdct kvs=>rw [e] at q;obtain ⟨o,vs,z,_⟩:=q;rw [h1] at z;cases z
 | ftdct kvs=>rw [e] at q;obtain ⟨o,vs,z,_⟩:=q;rw [h1] at z;cases z
 | tset ks=>rw [e] at q;obtain ⟨xs,_,z,_⟩:=q;rw [h1] at z;cases z
 | fnc x=>rw [e] at q;obtain ⟨_,o,z⟩:=q;rw [h2] at z;cases z
 | exc c=>rw [e] at q;obtain ⟨C,_,z⟩:=q;rw [h1] at z;cases z
 | tab x=>rw [e] at q;obtain ⟨_,_,_,_,z,_⟩:=q;rw [h1] at z;cases z
 | lam g caps=>rw [e] at q;obtain ⟨_,_,_,_,z,_⟩:=q;rw [h1] at z;cases z
 | dead=>rw [e] at q;obtain ⟨_,_,z,_⟩:=q;rw [h1] at z;cases z
theorem Sim.adopt {a:Addr}{xs:List D}{vs:List V}(s:Sim K ρ S H) (ha:H a=some (.lst vs)) (hn:∀n:Nat,ρ[n]?≠some a) (r:RDs ρ H xs vs):Sim K (ρ++[a]) (S++[.lst xs]) H:=by
 refine ⟨by simp [s.len],λi j b x1 x2 h1 h2 h3 h4 m1 m2=>?_,λn b o h1 h2=>?_⟩
 ·rcases zbu h1 with g1|⟨e1,f1⟩ <;> rcases zbu h2 with g2|⟨e2,f2⟩
  ·rcases zbu h3 with h3|⟨e3,_⟩ <;> rcases zbu h4 with h4|⟨e4,_⟩
   ·exact s.nd i j b _ _ g1 g2 h3 h4 m1 m2
   ·have:=(qme g2).1;have:=s.len;omega
   ·have:=(qme g1).1;have:=s.len;omega
   ·omega
  ·subst f2;exact absurd g1 (hn i)
  ·subst f1;exact absurd g2 (hn j)
  ·omega
 ·rcases zbu h1 with h1|⟨e1,f1⟩
  ·rcases zbu h2 with h2|⟨e2,f2⟩
   ·exact (s.at' n b o h1 h2).more ext0_push
   ·have:=(qme h1).1;have:=s.len;omega
  ·subst f1
   rcases zbu h2 with h2|⟨e2,f2⟩
   ·have:=(qme h2).1;have:=s.len;omega
   ·subst f2
    exact ⟨vs,ha,r.mono0 ext0_push⟩
theorem Sim.beside {a:Addr}{ys:List V}{u:HO}(s:Sim K ρ S H) (ha:H a=some (.lst ys)) (hn:∀n:Nat,ρ[n]?≠some a):Sim K ρ S (upd H a u) :=
 ⟨s.len,s.nd,λn b o h1 h2=>(s.at' n b o h1 h2).written ha λ_ z=>hn n (by rw [h1,z])⟩
theorem Ext.beside {a:Addr}{ys:List V}{u:HO}{ρ0:List Addr}{H0:Hp}(e:Ext ρ0 H0 ρ H) (h0:H0 a=none) (ha:H a=some (.lst ys)):Ext ρ0 H0 ρ (upd H a u) :=
 ⟨⟨e.pre,λb vs h=>by rw [zaj (zcr (e.tup b vs h) ha (by intro z;cases z))];exact e.tup b vs h,λb o vs h=>by rw [zaj (zcr (e.frz b o vs h) ha (by intro z;cases z))];exact e.frz b o vs h⟩,λb vs h n=>⟨by rw [zaj (zbd h h0)];exact (e.out b vs h n).1,(e.out b vs h n).2⟩⟩
theorem Ext.adopt {a:Addr}{ρ0:List Addr}{H0:Hp}(e:Ext ρ0 H0 ρ H) (h0:H0 a=none):Ext ρ0 H0 (ρ++[a]) H :=
 ⟨⟨λn b h=>(ext0_push (H:=H)).pre n b (e.pre n b h),e.tup,e.frz⟩,λb vs h n=>⟨(e.out b vs h n).1,λi hi=>by
  rcases zbu hi with hi|⟨_,z⟩
  ·exact (e.out b vs h n).2 i hi
  ·rw [z,h0] at h;cases h⟩⟩
end
abbrev ItM:=Nat->Sto->Option (Option D)
abbrev IM:=Lo->Sto->Option (ItM × Nat × Sto)
def zin (K:QFg) (ρ:List Addr) (H:Hp) (it:ItM) (J:It):Prop:=∀(i:Nat) ρ' S' H',Ext ρ H ρ' H'->Sim K ρ' S' H' ->
 (it i S' = some none->J.stop i H')/\∀x,it i S' = some (some x)->J.go i H'/\∀y H'',J.yld i H' y H''->H'' = H'/\RD ρ' H' x y
inductive ti (K:QFg) (im:IM) (σ:St) (H:Hp) (R:It->Hp->Prop):Prop
 | mk (ρ:_) (l:_) (S:_) (it:_) (k:_) (S':_) (_:Sim K ρ S H) (_:RO ρ H l σ) (_:im l S=some (it,k,S')) (_:∀ρ' H' J,Ext ρ H ρ' H'->Sim K ρ' S' H'->zin K ρ' H' it J->R J H')
def PI3 (X:Cx) (tgt iter:Expr) (im:IM):Prop:=PI X tgt iter (ti X.K im)
theorem PI.imp {X:Cx}{tgt iter:Expr}{t u:TI}(h:PI X tgt iter t) (i:∀σ H R,u σ H R->t σ H R):PI X tgt iter u:=λpins s σ H Q I q=>h pins s σ H Q I (i _ _ _ q)
noncomputable def itX (xs:List D):ItM:=λi _=>some xs[i]?
noncomputable def itL (n:Nat):ItM:=λi S=>(lstOf S n).bind λxs=>some xs[i]?
noncomputable def zfz (e:EM):IM:=λl S=>(e l S).bind λp=>match p.1 with
 | .tup xs=>some (itX xs,xs.length+1,p.2)
 | .ref n=>(lstOf p.2 n).bind λxs=>some (itL n,xs.length+1,p.2)
 | _=>none
noncomputable def zio (r:Lo->Sto->Option ((Int × Nat) × Sto)):IM:=λl S=>(r l S).bind λp=>some (itX (zbo p.1.1 p.1.2),p.1.2+1,p.2)
section
variable {K:QFg}
theorem zwc {ρ:List Addr}{H:Hp}{a:Addr}{xs:List D}{vs:List V}(ha:H a=some (.tup vs)) (r:RDs ρ H xs vs):zin K ρ H (itX xs) (Itt K a):=by
 intro i ρ' S' H' e s
 have ha':=SqT.of (K:=K) (e.tup _ _ ha)
 have r':=r.mono e
 refine ⟨λh=>?_,λx h=>?_⟩
 ·have h:xs[i]? = none:=qoi h
  exact ⟨vs,ha',by rw [<-r.length];exact List.getElem?_eq_none_iff.mp h⟩
 ·have h:xs[i]? = some x:=qoi h
  obtain ⟨v,hv,rv⟩:=r'.get h
  refine ⟨⟨vs,v,ha',hv⟩,λy H'' ⟨e1,e2⟩=>⟨e1,?_⟩⟩
  have:=e2 vs ha'
  rw [hv] at this;cases this
  exact rv
theorem zwd {ρ:List Addr}{H:Hp}{a:Addr}{n:Nat}(ha:ρ[n]? = some a):zin K ρ H (itL n) (Itl K a):=by
 intro i ρ' S' H' e s
 have ha':=e.pre _ _ ha
 refine ⟨λh=>?_,λx h=>?_⟩
 ·obtain ⟨xs,h1,h⟩:=bnd h
  have h:xs[i]? = none:=qoi h
  obtain ⟨b,vs,hb,sq,r⟩:=s.lstOf h1
  rw [ha'] at hb;cases hb
  exact ⟨vs,sq,by rw [<-r.length];exact List.getElem?_eq_none_iff.mp h⟩
 ·obtain ⟨xs,h1,h⟩:=bnd h
  have h:xs[i]? = some x:=qoi h
  obtain ⟨b,vs,hb,sq,r⟩:=s.lstOf h1
  rw [ha'] at hb;cases hb
  obtain ⟨v,hv,rv⟩:=r.get h
  refine ⟨⟨vs,v,sq,hv⟩,λy H'' ⟨e1,e2⟩=>⟨e1,?_⟩⟩
  have:=e2 vs sq
  rw [hv] at this;cases this
  exact rv
theorem zwe {ρ:List Addr}{H:Hp}{lo:Int}{n:Nat}:zin K ρ H (itX (zbo lo n)) (Itr lo n):=by
 intro i ρ' S' H' e s
 refine ⟨λh=>?_,λx h=>?_⟩
 ·have h:(zbo lo n)[i]? = none:=qoi h
  have:=List.getElem?_eq_none_iff.mp h
  simp [zbo] at this
  exact this
 ·have h:(zbo lo n)[i]? = some x:=qoi h
  have hl:=(qme h).1
  simp only [zbo,qlm,List.length_range] at hl
  refine ⟨hl,λy H'' ⟨e1,e2⟩=>⟨e1,?_⟩⟩
  unfold zbo at h
  rw [qgm,List.getElem?_range hl] at h
  cases h
  rw [e2]
  exact .int _
end
section
variable {X:Cx}{tgt iter:Expr}{m:EM}{mA:AM}{p0 pos':Pos}{a a2:Expr}
theorem zof (hi:PE3 X iter m):PI3 X tgt iter (zfz m):=PI.imp (PI.or (zmm hi) (zmn hi)) λσ H R hx1_=>by
 obtain ⟨ρ,l,S,it,k,S',sim,ro,hm,p⟩:=hx1_
 obtain ⟨⟨x,S1⟩,q1,hm⟩:=bnd hm
 dsimp only at hm
 split at hm
 ·rename_i xs
  cases hm
  refine .inr ⟨ρ,l,S,.tup xs,_,sim,ro,q1,λρ1 H1 x' e1 s1 r1=>?_⟩
  cases r1 with
  | @tup xs a vs ha r=>exact ⟨a,rfl,⟨vs,SqT.of ha⟩,p ρ1 H1 _ e1 s1 (zwc ha r)⟩
 ·rename_i n
  obtain ⟨xs,hx,hm⟩:=bnd hm
  cases hm
  refine .inl ⟨ρ,l,S,.ref n,_,sim,ro,q1,λρ1 H1 x' e1 s1 r1=>?_⟩
  obtain ⟨a,vs,ha,sq,rv⟩:=s1.lstOf hx
  cases r1 with
  | ref hn =>
   rw [ha] at hn;cases hn
   exact ⟨a,rfl,⟨vs,sq⟩,p ρ1 H1 _ e1 s1 (zwd ha)⟩
 ·cases hm
theorem zwf (hgl:Gl X "range") (hmg:X.mg "range" = none) (ha:PA3 X [a] mA) (hst:starEach [a] X.env=[(false,eval a X.env)]:=by rfl):PI3 X tgt (.Call (.Name "range" p0) [a] [] pos') (zio (zb7 mA)) :=
 PI.imp (zmo hgl hmg ha hst) λσ H R hx2_=>by
  obtain ⟨ρ,l,S,it,k,S',sim,ro,hm,p⟩:=hx2_
  obtain ⟨⟨⟨lo,n⟩,S1⟩,q1,hm⟩:=bnd hm
  cases hm
  obtain ⟨⟨xs,S2⟩,q2,q1⟩:=bnd q1
  dsimp only at q1
  split at q1
  ·rename_i j
   obtain ⟨hz,e⟩:=za3 q1
   cases e
   refine ⟨ρ,l,S,[.int j],_,sim,ro,q2,λρ1 H1 vs e1 s1 r1=>?_⟩
   obtain ⟨v,rfl,rv⟩:=r1.one
   cases rv
   exact ⟨j,rfl,hz.1,hz.2,p ρ1 H1 _ e1 s1 zwe⟩
  ·cases q1
end
noncomputable def zc9 (it:ItM) (g:GM) (t:TM) (e:EM):Nat->Nat->Lo->Sto->Option (List D × Sto)
 | 0,_,_,_=>none
 | k+1,i,l,S=>(it i S).bind λo=>match o with
  | none=>some ([],S)
  | some x=>(g x l S).bind λp=>(t p.1 p.2).bind λq=>if q.1=true then (e p.1 q.2).bind λr=>(zc9 it g t e k (i+1) p.1 r.2).bind λz=>some (r.1 :: z.1,z.2) else zc9 it g t e k (i+1) p.1 q.2
noncomputable def zcc {α:Type}(ixs:List (Option Nat)) (l:List (Option α)):List (Option α):=ixs.map λo=>match o with
 | some j=>(l[j]?).join
 | none=>none
noncomputable def zdn (im:IM) (ixs:List (Option Nat)) (g:GM) (t:TM) (e:EM):EM:=λl S=>(im l S).bind λp=>(zc9 p.1 g t e p.2.1 0 (zcc ixs l) p.2.2).bind λz=>if z.1.length<=sizeLine then some (.ref z.2.length,z.2++[.lst z.1]) else none
noncomputable def zf0:TM:=λ_ S=>some (true,S)
theorem zwg {ρ:List Addr}{H:Hp}{l:Lo}{σ:St}(ixs:List (Option Nat)) (r:RO ρ H l σ):RO ρ H (zcc ixs l) (zcc ixs σ):=by
 refine ⟨by simp [zcc],λi d h=>?_⟩
 unfold zcc at h ⊢
 rw [qgm] at h ⊢
 cases e:ixs[i]? with
 | none=>rw [e] at h;cases h
 | some o =>
  rw [e] at h
  cases o with
  | none=>cases h
  | some j =>
   have h:((l[j]?).join:Option D)=some d:=qoi h
   cases e2:l[j]? with
   | none=>rw [e2] at h;cases h
   | some o2 =>
    rw [e2] at h
    have h:o2=some d:=h
    subst h
    obtain ⟨v,h1,h2⟩:=r.get j d e2
    exact ⟨v,by show some ((σ[j]?).join)=_;rw [h1];rfl,h2⟩
inductive CI3 (K:QFg) (it:ItM) (g:GM) (t:TM) (e:EM) (S2:Sto) (all:List D) (ρ1:List Addr) (H1:Hp) (Da:Addr) (i m:Nat) (σ':St) (H':Hp):Prop
 | mk (ρ':List Addr) (l':Lo) (S':Sto) (ds:List D) (vs:List V) (rest:List D) (_:Ext ρ1 H1 ρ' H') (_:Sim K ρ' S' H') (_:RO ρ' H' l' σ') (_:H' Da=some (.lst vs)) (_:(∀n:Nat,ρ'[n]?≠some Da)) (_:RDs ρ' H' ds vs) (_:zc9 it g t e m i l' S' = some (rest,S2)) (_:ds++rest=all)
theorem zwh {K:QFg}{im:IM}{ixs:List (Option Nat)}{g:GM}{t:TM}{e:EM}(σ:St) (H:Hp) (Q:VK) (q:te K (zdn im ixs g t e) σ H Q):zkh K (ti K im) (zcc ixs) (tg K g) (tt K t) (te K e) σ H Q:=by
 obtain ⟨ρ,l,S,v,S',sim,ro,hm,p⟩:=q
 obtain ⟨⟨it,k,S1⟩,q1,hm⟩:=bnd hm
 obtain ⟨⟨all,S2⟩,q2,hm⟩:=bnd hm
 obtain ⟨hz,he⟩:=za3 hm
 cases he
 refine ⟨ρ,l,S,it,k,S1,sim,ro,q1,λρ1 H1 J e1 s1 io D hD hK=>?_⟩
 dsimp only at q2 hz p
 refine ⟨λi m σ' H'=>CI3 K it g t e S2 all ρ1 H1 D i m σ' H',⟨k,?_⟩,?_⟩
 ·exact ⟨ρ1,zcc ixs l,S1,[],[],all,zb1 hD,s1.laid hD,(zwg ixs (ro.mono e1)).mono (zb1 hD),zbg,s1.notin hD hK,.nil,q2,rfl⟩
 ·rintro i m σ' H' ⟨ρ',l',S',ds,vs,rest,e2,s2,ro2,hD2,hn2,rd2,hc,hall⟩
  cases m with
  | zero=>cases hc
  | succ m =>
   unfold zc9 at hc
   obtain ⟨o,ho,hc⟩:=bnd hc
   obtain ⟨iStop,iGo⟩:=io i ρ' S' H' e2 s2
   cases o with
   | none =>
    cases hc
    rw [List.append_nil] at hall
    subst hall
    refine .inl ⟨iStop ho,p (ρ'++[D]) H' (.ref D) (e1.trans (e2.adopt hD)) (s2.adopt hD2 hn2 rd2) (.ref ?_)⟩
    rw [<-s2.len];exact za5 ρ' D
   | some x =>
    obtain ⟨⟨l3,S3⟩,q3,hc⟩:=bnd hc
    obtain ⟨⟨b,S4⟩,q4,hc⟩:=bnd hc
    obtain ⟨hgo,hy⟩:=iGo x ho
    refine .inr ⟨hgo,_,λσ' H' h=>h,λy H'' hyl=>?_⟩
    obtain ⟨rfl,ry⟩:=hy y H'' hyl
    refine ⟨ρ',l',S',x,l3,S3,s2,ro2,ry,q3,λρ3 H3 σ3 e3 s3 ro3=>⟨ρ3,l3,S3,b,S4,s3,ro3,q4,λρ4 H4 e4 s4=>?_⟩⟩
    obtain ⟨hD3,hn3⟩:=e3.out D _ hD2 hn2
    obtain ⟨hD4,hn4⟩:=e4.out D _ hD3 hn3
    cases b with
    | false=>exact zep ⟨m,Nat.lt_succ_self m,ρ4,l3,S4,ds,vs,rest,e2.trans (e3.trans e4),s4,ro3.mono e4,hD4,hn4,rd2.mono (e3.trans e4),hc,hall⟩
    | true =>
     have hc:((e l3 S4).bind λr=>(zc9 it g t e m (i+1) l3 r.2).bind λz=>some (r.1 :: z.1,z.2))=some (rest,S2):=hc
     obtain ⟨⟨y5,S5⟩,q5,hc⟩:=bnd hc
     obtain ⟨⟨rest',S6⟩,q6,hc⟩:=bnd hc
     cases hc
     refine zeq ⟨ρ4,l3,S4,y5,S5,s4,ro3.mono e4,q5,λρ5 H5 v5 e5 s5 r5=>?_⟩
     obtain ⟨hD5,hn5⟩:=e5.out D _ hD4 hn4
     have e25:=e2.trans (e3.trans (e4.trans e5))
     have rd5:=rd2.mono (e3.trans (e4.trans e5))
     have hlen:vs.length<sizeLine:=by
      have h1:=rd5.length
      have h2:=congrArg List.length hall
      rw [qla,List.length_cons] at h2
      omega
     refine ⟨vs,hD5,hlen,m,Nat.lt_succ_self m,ρ5,l3,S5,ds++[y5],vs++[v5],rest',e25.beside hD hD5,s5.beside hD5 hn5,?_,zbg,hn5,((rd5.append (.cons r5 .nil)).mono0 (zib hD5)),q6,by rw [<-hall];simp⟩
     have r0:=(ro3.mono e4).mono e5
     exact ⟨r0.len,λi d h=>let ⟨w,h1,h2⟩:=r0.get i d h;⟨w,h1,h2.mono0 (zib hD5)⟩⟩
theorem zog {X:Cx}:PTs X [] (tt X.K zf0):=λpins s σ H Q I hx4_=>by
 obtain ⟨ρ,l,S,v,S',sim,ro,hm,p⟩:=hx4_
 cases hm
 exact zwa pins s σ H Q I (p ρ H (Ext.refl ..) sim)
theorem zwi {X:Cx}{c:Expr}{t:TM}(h:PT3 X c t):PTs X [c] (tt X.K t):=zwb h
noncomputable def zki:D->D->Sto->Option (D × Sto)
 | .int i,.int j,S=>some (.int (i+j),S)
 | .tup xs,.tup ys,S=>if xs.length+ys.length<=sizeLine then some (.tup (xs++ys),S) else none
 | .ref n,.ref m,S=>match S[n]?,S[m]? with
  | some (.lst xs),some (.lst ys)=>if xs.length+ys.length<=sizeLine then some (.ref S.length,S++[.lst (xs++ys)]) else none
  | _,_=>none
 | _,_,_=>none
theorem zwj {K:QFg}:Op3 K zki (λx y H Q=>rI0 (λi j=>.int (i+j)) x y H Q\/(zjt K x y H Q\/zj9 K x y H Q)\/znk x y H Q):=by
 intro ρ S H x y x' y' v S' Q sim rx ry h p
 unfold zki at h
 split at h
 ·cases rx;cases ry;cases h
  exact .inl ⟨_,_,rfl,rfl,p ρ H _ (Ext.refl ..) sim (.int _)⟩
 ·refine .inr (.inl (zvv ρ S H _ _ x' y' v S' Q sim rx ry ?_ p))
  unfold zj8
  exact h
 ·split at h
  ·rename_i xs ys e1 e2
   obtain ⟨hz,e⟩:=za3 h
   cases e
   obtain ⟨a,us,ha,hH,r2⟩:=sim.lst e1
   obtain ⟨b,ws,hb,hH2,r3⟩:=sim.lst e2
   cases rx with
   | ref hn =>
    rw [ha] at hn;cases hn
    cases ry with
    | ref hm =>
     rw [hb] at hm;cases hm
     exact .inr (.inr ⟨a,b,us,ws,rfl,rfl,hH,hH2,by rw [<-r2.length,<-r3.length];exact hz,zfm sim (r2.append r3) p⟩)
  ·cases h
 ·cases h
section
variable {X:Cx}{a b:Expr}{ma mb:EM}{pos:Pos}
end
def Has (P:Program) (w:World) (K:QFg) (mg:Str->Option Value) (base:Heap) (x:Str) (k n:Nat) (m:FM):Prop :=
 ∃(f:Addr) (fd:FuncData) (ps:List Str),FnOk P w K mg base CX0 k f fd ps (sp3 K n m)/\mg x=some (.ref f)/\PySem.W.keepIn K (.ref f)=true/\Binds K fd ps []
section
variable {X:Cx}{a:Expr}{es:List Expr}{mA:AM}{pos p:Pos}{x:Str}{k j n:Nat}{m:FM}
theorem zba (F:Has X.prog X.w X.K X.mg X.base x k n m) (hr:Room j X.A) (hkj:k<=j) (hg:Gl X x)
  (ha:PA3 X (a :: es) mA) (hl:∀l S v S',mA l S=some (v,S')->v.length=n) (hdb:(x == ("__debug__":Str))=false:=by decide) (he:starEach (a :: es) X.env=(false,eval a X.env) :: starEach es X.env:=by rfl) (hpl:(backTo pos (starEach es X.env)).any (·.1)=false:=by rfl) :
  PE3 X (.Call (.Name x p) (a :: es) [] pos) (zaf m mA):=by
 obtain ⟨f,fd,ps,F,hm,hk,hb⟩:=F
 exact zv5 F (hr.mono hkj) hg hm hk hb ha hl hdb he hpl
theorem zwk:bootBuiltins "abs" = some (.builtin "abs"):=by decide +kernel
theorem zkj:bootBuiltins "int" = some (.type "int"):=by decide +kernel
theorem zha:bootBuiltins "tuple" = some (.type "tuple"):=by decide +kernel
theorem zoh:bootBuiltins "list" = some (.type "list"):=by decide +kernel
theorem zkk:bootBuiltins "bool" = some (.type "bool"):=by decide +kernel
theorem zwl:bootBuiltins "str" = some (.type "str"):=by decide +kernel
theorem zwm:bootBuiltins "max" = some (.builtin "max"):=by decide +kernel
theorem zkl (hg:Gl X "abs") (hm:X.mg "abs" = none) (ha:PA3 X (a :: es) mA) (he:starEach (a :: es) X.env=(false,eval a X.env) :: starEach es X.env:=by rfl) (hpl:(backTo pos (starEach es X.env)).any (·.1)=false:=by rfl):PE3 X (.Call (.Name "abs" p) (a :: es) [] pos) (zaf zew mA) :=
 zfn ztv zvx hg hm zwk ha (by decide) (by decide) he hpl
theorem zkm (hg:Gl X "tuple") (hm:X.mg "tuple" = none) (ha:PA3 X (a :: es) mA) (he:starEach (a :: es) X.env=(false,eval a X.env) :: starEach es X.env:=by rfl) (hpl:(backTo pos (starEach es X.env)).any (·.1)=false:=by rfl):PE3 X (.Call (.Name "tuple" p) (a :: es) [] pos) (zaf zex mA) :=
 zg3 zus zv0 hg hm zha ha (by decide) (by decide) he hpl
theorem zoi (hg:Gl X "list") (hm:X.mg "list" = none) (ha:PA3 X (a :: es) mA) (he:starEach (a :: es) X.env=(false,eval a X.env) :: starEach es X.env:=by rfl) (hpl:(backTo pos (starEach es X.env)).any (·.1)=false:=by rfl):PE3 X (.Call (.Name "list" p) (a :: es) [] pos) (zaf zfu mA) :=
 zg3 zur zv1 hg hm zoh ha (by decide) (by decide) he hpl
theorem zwn (hc:X.calm=true) (hg:Gl X "max") (hm:X.mg "max" = none) (ha:PA3 X (a :: es) mA) (he:starEach (a :: es) X.env=(false,eval a X.env) :: starEach es X.env:=by rfl) (hpl:(backTo pos (starEach es X.env)).any (·.1)=false:=by rfl):PE3 X (.Call (.Name "max" p) (a :: es) [] pos) (zaf zg8 mA) :=
 zfn (ztw hc) zvz hg hm zwm ha (by decide) (by decide) he hpl
end
theorem zwo {P:Program}{w:World}{K:QFg}{mg:Str->Option Value}{base:Heap}{x:Str}{st:Stmt}{f:Addr}{fd:FuncData}{N ps:List Str}{k n:Nat}{b:SM}(F:Fun K x x st f fd) (hm:mg x=some (.ref f)) (S:FnScope N ps (zau st)) (hn:ps.length=n) (hb:Binds K fd ps [])
  (hbody:∀(cdv:Value),PySem.W.codeIn K cdv x=true->∀(A:Around) (outer:List Env) (s:Shared) (H:Hp) (E:XK),Room k (A.deeper (envOfC x (zau st) s.heap.objs.size f cdv)) ->
   zcj (zbh CX0 P w K mg base N x (zau st) f cdv A outer s H E).nox (zch st) b):Has P w K mg base x (k+1) n (zbp N.length b) :=
 ⟨f,fd,ps,zoc F S hn hbody,hm,F.kp,hb⟩
noncomputable def top (b:List Stmt) (i:Nat):Stmt:=b.getD i (.Pass ⟨0,0,0,0⟩)
def We (m:EM) (l:Lo) (S:Sto) (Q:D->Sto->Prop):Prop:=∃v S',m l S=some (v,S')/\Q v S'
def Wt (m:TM) (l:Lo) (S:Sto) (Q:Bool->Sto->Prop):Prop:=∃v S',m l S=some (v,S')/\Q v S'
def Wa (m:AM) (l:Lo) (S:Sto) (Q:List D->Sto->Prop):Prop:=∃v S',m l S=some (v,S')/\Q v S'
def Wo (o:Option (D × Sto)) (Q:D->Sto->Prop):Prop:=∃v S',o=some (v,S')/\Q v S'
def Wg (o:Option (Lo × Sto)) (Q:Lo->Sto->Prop):Prop:=∃l S',o=some (l,S')/\Q l S'
def Wr (o:Option (Fl × Lo × Sto)) (Q:Fl->Lo->Sto->Prop):Prop:=∃f l S',o=some (f,l,S')/\Q f l S'
abbrev Ws (m:SM) (l:Lo) (S:Sto) (Q:Fl->Lo->Sto->Prop):Prop:=Wr (m l S) Q
section
variable {a b c:EM}{t u:TM}{l:Lo}{S:Sto}{Q:D->Sto->Prop}{QB:Bool->Sto->Prop}{QA:List D->Sto->Prop}{QS:Fl->Lo->Sto->Prop}{QG:Lo->Sto->Prop}
theorem zal {i:Nat}:We (zab i) l S Q = ∃d,l[i]? = some (some d)/\Q d S:=by
 apply propext;unfold We zab
 constructor
 ·rintro ⟨v,S',h,q⟩
  split at h
  ·rename_i d e;cases h;exact ⟨_,e,q⟩
  ·cases h
 ·rintro ⟨d,e,q⟩
  exact ⟨d,S,by rw [e],q⟩
theorem zaz {d:D}:We (eC d) l S Q=Q d S:=by
 apply propext;unfold We eC
 exact ⟨λhx1_=>by obtain ⟨v,S',h,q⟩:=hx1_;cases h;exact q,λq=>⟨_,_,rfl,q⟩⟩
theorem za4 {f:D->D->Sto->Option (D × Sto)}:We (eOp f a b) l S Q=We a l S λx S1=>We b l S1 λy S2=>Wo (f x y S2) Q:=by
 apply propext
 constructor
 ·rintro ⟨v,S',h,q⟩
  obtain ⟨⟨x,S1⟩,h1,h⟩:=bnd h
  obtain ⟨⟨y,S2⟩,h2,h⟩:=bnd h
  exact ⟨x,S1,h1,y,S2,h2,v,S',h,q⟩
 ·rintro ⟨x,S1,h1,y,S2,h2,v,S',h,q⟩
  exact ⟨v,S',by unfold eOp;rw [h1];show (b l S1).bind _=_;rw [h2];exact h,q⟩
theorem zb9 {f:D->Sto->Option (D × Sto)}:We (eUn f a) l S Q=We a l S λx S1=>Wo (f x S1) Q:=by
 apply propext
 constructor
 ·rintro ⟨v,S',h,q⟩
  obtain ⟨⟨x,S1⟩,h1,h⟩:=bnd h
  exact ⟨x,S1,h1,v,S',h,q⟩
 ·rintro ⟨x,S1,h1,v,S',h,q⟩
  exact ⟨v,S',by unfold eUn;rw [h1];exact h,q⟩
theorem zar:Wa zae l S QA=QA [] S:=by
 apply propext
 exact ⟨λhx2_=>by obtain ⟨v,S',h,q⟩:=hx2_;cases h;exact q,λq=>⟨_,_,rfl,q⟩⟩
theorem zas {r:AM}:Wa (zaa a r) l S QA=We a l S λx S1=>Wa r l S1 λxs S2=>QA (x :: xs) S2:=by
 apply propext
 constructor
 ·rintro ⟨v,S',h,q⟩
  obtain ⟨⟨x,S1⟩,h1,h⟩:=bnd h
  obtain ⟨⟨y,S2⟩,h2,h⟩:=bnd h
  cases h
  exact ⟨x,S1,h1,y,_,h2,q⟩
 ·rintro ⟨x,S1,h1,y,S2,h2,q⟩
  exact ⟨x :: y,S2,by unfold zaa;rw [h1];show (r l S1).bind _=_;rw [h2];rfl,q⟩
theorem zat {f:FM}{r:AM}:We (zaf f r) l S Q=Wa r l S λxs S1=>Wo (f xs S1) Q:=by
 apply propext
 constructor
 ·rintro ⟨v,S',h,q⟩
  obtain ⟨⟨x,S1⟩,h1,h⟩:=bnd h
  exact ⟨x,S1,h1,v,S',h,q⟩
 ·rintro ⟨x,S1,h1,v,S',h,q⟩
  exact ⟨v,S',by unfold zaf;rw [h1];exact h,q⟩
theorem zef {f:D->List D->Sto->Option (D × Sto)}{r:AM}:We (zc1 f a r) l S Q=We a l S λx S1=>(∃xs,zdg x S1=some xs)/\Wa r l S1 λys S2=>Wo (f x ys S2) Q:=by
 apply propext
 constructor
 ·rintro ⟨v,S',h,q⟩
  obtain ⟨⟨x,S1⟩,h1,h⟩:=bnd h
  obtain ⟨xs,h2,h⟩:=bnd h
  obtain ⟨⟨y,S2⟩,h3,h⟩:=bnd h
  exact ⟨x,S1,h1,⟨xs,h2⟩,y,S2,h3,v,S',h,q⟩
 ·rintro ⟨x,S1,h1,⟨xs,h2⟩,y,S2,h3,v,S',h,q⟩
  refine ⟨v,S',?_,q⟩
  unfold zc1;rw [h1];show (zdg x S1).bind _=_;rw [h2];show (r l S1).bind _=_;rw [h3];exact h
theorem zbl:Wt (tE a) l S QB=We a l S λx S1=>∃k,x=.bl k/\QB k S1:=by
 apply propext
 constructor
 ·rintro ⟨v,S',h,q⟩
  obtain ⟨⟨x,S1⟩,h1,h⟩:=bnd h
  refine ⟨x,S1,h1,?_⟩
  cases x with
  | bl k=>cases h;exact ⟨_,rfl,q⟩
  | _=>cases h
 ·rintro ⟨x,S1,h1,k,rfl,q⟩
  exact ⟨k,S1,by unfold tE;rw [h1];rfl,q⟩
theorem zoj:Wt (zfj t u) l S QB=Wt t l S λk S1=>if k=true then Wt u l S1 QB else QB false S1:=by
 apply propext
 constructor
 ·rintro ⟨v,S',h,q⟩
  obtain ⟨⟨x,S1⟩,h1,h⟩:=bnd h
  refine ⟨x,S1,h1,?_⟩
  cases x with
  | true=>exact ⟨v,S',h,q⟩
  | false=>cases h;exact q
 ·rintro ⟨x,S1,h1,h⟩
  cases x with
  | true=>obtain ⟨v,S',h,q⟩:=h;exact ⟨v,S',by unfold zfj;rw [h1];exact h,q⟩
  | false=>exact ⟨false,S1,by unfold zfj;rw [h1];rfl,h⟩
theorem zda:Wt (zbz t u) l S QB=Wt t l S λk S1=>if k=true then QB true S1 else Wt u l S1 QB:=by
 apply propext
 constructor
 ·rintro ⟨v,S',h,q⟩
  obtain ⟨⟨x,S1⟩,h1,h⟩:=bnd h
  refine ⟨x,S1,h1,?_⟩
  cases x with
  | false=>exact ⟨v,S',h,q⟩
  | true=>cases h;exact q
 ·rintro ⟨x,S1,h1,h⟩
  cases x with
  | false=>obtain ⟨v,S',h,q⟩:=h;exact ⟨v,S',by unfold zbz;rw [h1];exact h,q⟩
  | true=>exact ⟨true,S1,by unfold zbz;rw [h1];rfl,h⟩
theorem zct:Wt (zco t) l S QB=Wt t l S λk S1=>QB (!k) S1:=by
 apply propext
 constructor
 ·rintro ⟨v,S',h,q⟩
  obtain ⟨⟨x,S1⟩,h1,h⟩:=bnd h
  cases h
  exact ⟨x,_,h1,q⟩
 ·rintro ⟨x,S1,h1,q⟩
  exact ⟨!x,S1,by unfold zco;rw [h1];rfl,q⟩
theorem zwp:Wt zf0 l S QB=QB true S:=by
 apply propext
 exact ⟨λhx3_=>by obtain ⟨v,S',h,q⟩:=hx3_;cases h;exact q,λq=>⟨_,_,rfl,q⟩⟩
theorem zhb:We (zd9 a b) l S Q=We a l S λx S1=>∃k,x=.bl k/\if k=true then We b l S1 Q else Q (.bl false) S1:=by
 apply propext
 constructor
 ·rintro ⟨v,S',h,q⟩
  obtain ⟨⟨x,S1⟩,h1,h⟩:=bnd h
  refine ⟨x,S1,h1,?_⟩
  cases x with
  | bl k =>
   cases k with
   | true=>exact ⟨true,rfl,v,S',h,q⟩
   | false=>cases h;exact ⟨false,rfl,q⟩
  | _=>cases h
 ·rintro ⟨x,S1,h1,k,rfl,h⟩
  cases k with
  | true=>obtain ⟨v,S',h,q⟩:=h;exact ⟨v,S',by unfold zd9;rw [h1];exact h,q⟩
  | false=>exact ⟨_,S1,by unfold zd9;rw [h1];rfl,h⟩
theorem zkn:We (zie a) l S Q=We a l S λx S1=>∃k,x=.bl k/\Q (.bl (!k)) S1:=by
 apply propext
 constructor
 ·rintro ⟨v,S',h,q⟩
  obtain ⟨⟨x,S1⟩,h1,h⟩:=bnd h
  refine ⟨x,S1,h1,?_⟩
  cases x with
  | bl k=>cases h;exact ⟨k,rfl,q⟩
  | _=>cases h
 ·rintro ⟨x,S1,h1,k,rfl,h⟩
  exact ⟨_,S1,by unfold zie;rw [h1];rfl,h⟩
variable {m n:SM}
theorem zcd:Ws zbi l S QS=QS .nx l S:=by
 apply propext
 exact ⟨λhx4_=>by obtain ⟨f,v,S',h,q⟩:=hx4_;cases h;exact q,λq=>⟨_,_,_,rfl,q⟩⟩
theorem zc2:Ws (zai m n) l S QS=Ws m l S λf l1 S1=>match f with | .nx=>Ws n l1 S1 QS|f=>QS f l1 S1:=by
 apply propext
 constructor
 ·rintro ⟨f,v,S',h,q⟩
  obtain ⟨⟨g,l1,S1⟩,h1,h⟩:=bnd h
  refine ⟨g,l1,S1,h1,?_⟩
  cases g with
  | nx=>exact ⟨f,v,S',h,q⟩
  | _=>cases h;exact q
 ·rintro ⟨g,l1,S1,h1,h⟩
  cases g with
  | nx=>obtain ⟨f,v,S',h,q⟩:=h;exact ⟨f,v,S',by unfold zai;rw [h1];exact h,q⟩
  | bk=>exact ⟨_,_,_,by unfold zai;rw [h1];rfl,h⟩
  | ct=>exact ⟨_,_,_,by unfold zai;rw [h1];rfl,h⟩
  | rt d=>exact ⟨_,_,_,by unfold zai;rw [h1];rfl,h⟩
theorem za6 (R:Lo->Sto->Prop) (h1:Ws m l S λf l1 S1=>f=.nx/\R l1 S1) (h2:∀l1 S1,R l1 S1->Ws n l1 S1 QS):Ws (zai m n) l S QS:=by
 rw [zc2]
 obtain ⟨f,l1,S1,e,rfl,r⟩:=h1
 exact ⟨_,_,_,e,h2 l1 S1 r⟩
theorem zbr:Ws (sIf t m n) l S QS=Wt t l S λk S1=>if k=true then Ws m l S1 QS else Ws n l S1 QS:=by
 apply propext
 constructor
 ·rintro ⟨f,v,S',h,q⟩
  obtain ⟨⟨x,S1⟩,h1,h⟩:=bnd h
  refine ⟨x,S1,h1,?_⟩
  cases x with
  | true=>exact ⟨f,v,S',h,q⟩
  | false=>exact ⟨f,v,S',h,q⟩
 ·rintro ⟨x,S1,h1,h⟩
  cases x with
  | true=>obtain ⟨f,v,S',h,q⟩:=h;exact ⟨f,v,S',by unfold sIf;rw [h1];exact h,q⟩
  | false=>obtain ⟨f,v,S',h,q⟩:=h;exact ⟨f,v,S',by unfold sIf;rw [h1];exact h,q⟩
theorem zhc:Ws (zfv a) l S QS=We a l S λ_ S1=>QS .nx l S1:=by
 apply propext
 constructor
 ·rintro ⟨f,v,S',h,q⟩
  obtain ⟨⟨x,S1⟩,h1,h⟩:=bnd h
  cases h
  exact ⟨x,_,h1,q⟩
 ·rintro ⟨x,S1,h1,q⟩
  exact ⟨_,_,_,by unfold zfv;rw [h1];rfl,q⟩
theorem zbs:Ws (zay a) l S QS=We a l S λx S1=>QS (.rt x) l S1:=by
 apply propext
 constructor
 ·rintro ⟨f,v,S',h,q⟩
  obtain ⟨⟨x,S1⟩,h1,h⟩:=bnd h
  cases h
  exact ⟨x,_,h1,q⟩
 ·rintro ⟨x,S1,h1,q⟩
  exact ⟨_,_,_,by unfold zay;rw [h1];rfl,q⟩
theorem zbe {g:GM}:Ws (zaq a g) l S QS=We a l S λx S1=>Wg (g x l S1) λl2 S2=>QS .nx l2 S2:=by
 apply propext
 constructor
 ·rintro ⟨f,v,S',h,q⟩
  obtain ⟨⟨x,S1⟩,h1,h⟩:=bnd h
  obtain ⟨⟨l2,S2⟩,h2,h⟩:=bnd h
  cases h
  exact ⟨x,S1,h1,_,_,h2,q⟩
 ·rintro ⟨x,S1,h1,l2,S2,h2,q⟩
  refine ⟨_,_,_,?_,q⟩
  unfold zaq;rw [h1];show (g x l S1).bind _=_;rw [h2];rfl
theorem za0 {i:Nat}{d:D}:Wg (zao i d l S) QG=QG (l.set i (some d)) S:=by
 apply propext
 exact ⟨λhx7_=>by obtain ⟨v,S',h,q⟩:=hx7_;cases h;exact q,λq=>⟨_,_,rfl,q⟩⟩
theorem zko {k:Nat}{gs:GsM}{xs:List D}:Wg (zfx k gs (.tup xs) l S) QG=(xs.length=k/\Wg (gs xs l S) QG):=by
 apply propext
 constructor
 ·rintro ⟨v,S',h,q⟩
  have h:(if xs.length=k then gs xs l S else none)=some (v,S'):=h
  by_cases hl:xs.length=k
  ·rw [if_pos hl] at h;exact ⟨hl,v,S',h,q⟩
  ·rw [if_neg hl] at h;cases h
 ·rintro ⟨hl,v,S',h,q⟩
  exact ⟨v,S',by show (if xs.length=k then gs xs l S else none)=_;rw [if_pos hl];exact h,q⟩
theorem zkp:Wg (zfw [] l S) QG=QG l S:=by
 apply propext
 exact ⟨λhx8_=>by obtain ⟨v,S',h,q⟩:=hx8_;cases h;exact q,λq=>⟨_,_,rfl,q⟩⟩
theorem zkq {g:GM}{gs:GsM}{x:D}{xs:List D}:Wg (zdm g gs (x :: xs) l S) QG=Wg (g x l S) λl1 S1=>Wg (gs xs l1 S1) QG:=by
 apply propext
 constructor
 ·rintro ⟨v,S',h,q⟩
  obtain ⟨⟨l1,S1⟩,h1,h⟩:=bnd h
  exact ⟨l1,S1,h1,v,S',h,q⟩
 ·rintro ⟨l1,S1,h1,v,S',h,q⟩
  exact ⟨v,S',by show (g x l S).bind _=_;rw [h1];exact h,q⟩
theorem zav {d:D}:Wo (some (d,S)) Q=Q d S:=by
 apply propext
 exact ⟨λhx9_=>by obtain ⟨v,S',h,q⟩:=hx9_;cases h;exact q,λq=>⟨_,_,rfl,q⟩⟩
theorem zeg {α:Type}{o:Option α}{f:α->Option (D × Sto)}:Wo (o.bind f) Q = ∃x,o=some x/\Wo (f x) Q:=by
 cases o with
 | none=>simp [Wo]
 | some x=>simp [Wo]
theorem zeh {p:Prop} [Decidable p] {x:D × Sto}:Wo (if p then some x else none) Q=(p/\Q x.1 x.2):=by
 obtain ⟨a,b⟩:=x
 by_cases hp:p
 ·rw [if_pos hp]
  apply propext
  exact ⟨λhx10_=>by obtain ⟨v,S',h,q⟩:=hx10_;cases h;exact ⟨hp,q⟩,λq=>⟨a,b,rfl,q.2⟩⟩
 ·simp [hp,Wo]
theorem zdz {g:Int->Int->D}{i j:Int}:Wo (oI0 g (.int i) (.int j) S) Q=Q (g i j) S:=zav
theorem zkr {C:Int->Int->Bool}{g:Int->Int->D}{i j:Int}:Wo (oI C g (.int i) (.int j) S) Q=(C i j=true/\Q (g i j) S):=zeh
theorem zks {xs:List D}{i:Int}:Wo (dIx (.tup xs) (.int i) S) Q = ∃v,L2.atI xs i=some v/\Q v S:=by
 show Wo ((L2.atI xs i).bind λv=>some (v,S)) Q=_
 rw [zeg];simp only [zav]
theorem zkt {k:Nat}{i:Int}:Wo (dIx (.ref k) (.int i) S) Q = ∃xs,lstOf S k=some xs/\∃v,L2.atI xs i=some v/\Q v S:=by
 show Wo ((lstOf S k).bind λxs=>(L2.atI xs i).bind λv=>some (v,S)) Q=_
 rw [zeg];simp only [zeg,zav]
theorem zku {xs:List D}:Wo (zg7 [.tup xs] S) Q=Q (.int xs.length) S:=zav
theorem zkv {k:Nat}:Wo (zg7 [.ref k] S) Q = ∃xs,lstOf S k=some xs/\Q (.int xs.length) S:=by
 show Wo ((lstOf S k).bind λxs=>some (.int xs.length,S)) Q=_
 rw [zeg];simp only [zav]
theorem zok {i:Int}:Wo (zew [.int i] S) Q=Q (.int (if i<0 then -i else i)) S:=zav
theorem zcu {xs:List D}:Wo (zbk xs S) Q=(xs.length<=sizeLine/\Q (.tup xs) S):=zeh
theorem zcv {xs:List D}:Wo (zb0 xs S) Q=(xs.length<=sizeLine/\Q (.ref S.length) (S++[.lst xs])):=zeh
theorem ziq {k:Nat}:Wo (zex [.ref k] S) Q = ∃xs,lstOf S k=some xs/\Q (.tup xs) S:=by
 show Wo ((lstOf S k).bind λxs=>some (.tup xs,S)) Q=_
 rw [zeg];simp only [zav]
theorem ze0 {i j:Int}:Wo (dEq (.int i) (.int j) S) Q=Q (.bl (decide (i=j))) S:=zav
theorem zol {x:D}:Wo (dIs x .non S) Q=Q (.bl (zii x)) S:=by
 cases x <;> exact zav
theorem zkw {k:Nat}{x:D}:Wo (zey (.ref k) [x] S) Q = ∃xs,S[k]? = some (.lst xs)/\xs.length<sizeLine/\Q .non (S.set k (.lst (xs++[x]))):=by
 show Wo (match S[k]? with|some (.lst xs)=>if xs.length<sizeLine then some (.non,S.set k (.lst (xs++[x]))) else none|_=>none) Q=_
 cases e:S[k]? with
 | none=>simp [Wo]
 | some o =>
  cases o with
  | lst xs=>simp [zeh]
  | flst xs=>simp [Wo]
  | iset f n=>simp [Wo]
  | dct kvs=>simp [Wo]
  | fdct kvs=>simp [Wo]
  | ftdct kvs=>simp [Wo]
  | tset ks=>simp [Wo]
  | fnc x=>simp [Wo]
  | tdct kvs=>simp [Wo]
  | exc c=>simp [Wo]
  | tab x=>simp [Wo]
  | lam g caps=>simp [Wo]
  | dead=>simp [Wo]
theorem zb8 {k:Nat}{b:SM}{ds:List D}:Wo (zbp k b ds S) Q=Ws b (ds.map some++List.replicate (k-ds.length) none) S λf _ S1=>match f with | .rt d=>Q d S1 | .nx=>Q .non S1|_=>False:=by
 apply propext
 constructor
 ·rintro ⟨v,S',h,q⟩
  obtain ⟨⟨f,l1,S1⟩,h1,h⟩:=bnd h
  refine ⟨f,l1,S1,h1,?_⟩
  cases f with
  | rt d=>cases h;exact q
  | nx=>cases h;exact q
  | bk=>cases h
  | ct=>cases h
 ·rintro ⟨f,l1,S1,h1,q⟩
  cases f with
  | rt d=>exact ⟨_,_,by unfold zbp;rw [h1];rfl,q⟩
  | nx=>exact ⟨_,_,by unfold zbp;rw [h1];rfl,q⟩
  | bk=>cases q
  | ct=>cases q
end
theorem Wo.mono {o:Option (D × Sto)}{Q Q':D->Sto->Prop}(h:Wo o Q) (i:∀v S,Q v S->Q' v S):Wo o Q':=let ⟨v,S,e,q⟩:=h;⟨v,S,e,i v S q⟩
theorem Wr.mono {o:Option (Fl × Lo × Sto)}{Q Q':Fl->Lo->Sto->Prop}(h:Wr o Q) (i:∀f v S,Q f v S->Q' f v S):Wr o Q':=let ⟨f,v,S,e,q⟩:=h;⟨f,v,S,e,i f v S q⟩
section
variable {g:GM}{b:SM}{l:Lo}{S:Sto}{QS:Fl->Lo->Sto->Prop}
theorem zwq {as:AM}:Ws (zee (zb7 as) g b) l S QS=Wa as l S λxs S1=>∃j,xs=[.int j]/\(-(2 ^ 62)<=j/\j<2 ^ 62)/\Wr (zc7 g b (zbo 0 j.toNat) l S1) QS:=by
 apply propext
 constructor
 ·rintro ⟨f,v,S',h,q⟩
  obtain ⟨⟨⟨lo,n⟩,S1⟩,h1,h⟩:=bnd h
  obtain ⟨⟨xs,S2⟩,h2,h1⟩:=bnd h1
  dsimp only at h1
  split at h1
  ·rename_i j
   obtain ⟨hz,e⟩:=za3 h1
   cases e
   exact ⟨_,_,h2,j,rfl,hz,f,v,S',h,q⟩
  ·cases h1
 ·rintro ⟨xs,S1,h1,j,rfl,hz,f,v,S',h,q⟩
  refine ⟨f,v,S',?_,q⟩
  have:zb7 as l S=some ((0,j.toNat),S1):=by
   unfold zb7;rw [h1];show (if _ then _ else _)=_;rw [if_pos hz]
  unfold zee;show (zb7 as l S).bind _=_;rw [this];exact h
theorem zom {e:EM}:Ws (zez e g b) l S QS=We e l S λx S1=>Wr (match x with | .tup xs=>zc7 g b xs l S1 | .ref n=>(lstOf S1 n).bind λxs=>zc8 g b n (xs.length+1) 0 l S1|_=>none) QS:=by
 apply propext
 constructor
 ·rintro ⟨f,v,S',h,q⟩
  obtain ⟨⟨x,S1⟩,h1,h⟩:=bnd h
  exact ⟨x,S1,h1,f,v,S',h,q⟩
 ·rintro ⟨x,S1,h1,f,v,S',h,q⟩
  exact ⟨f,v,S',by unfold zez;rw [h1];exact h,q⟩
theorem zon {lo:Int}{n i:Nat}{x:D}(h:(zbo lo n)[i]? = some x):i<n/\x=.int (lo+i):=by
 have hl:=(qme h).1
 simp only [zbo,qlm,List.length_range] at hl
 unfold zbo at h
 rw [qgm,List.getElem?_range hl] at h
 exact ⟨hl,(qoi h).symm⟩
theorem zkx (lo:Int) (n:Nat):(zbo lo n).length=n:=by simp [zbo]
end
mutual
noncomputable def zak (S:Sto):Nat->D->Option PyData
 | 0,_=>none
 | _+1,.non=>some .none
 | _+1,.bl b=>some (.bool b)
 | _+1,.int i=>if i.natAbs.log2<1920 then some (.int i) else none
 | _+1,.str x=>some (.str x)
 | k+1,.tup xs=>(pyAll S k xs).bind λds=>some (.tuple ds)
 | k+1,.ref n=>(lstOf S n).bind λxs=>(pyAll S k xs).bind λds=>some (.list ds)
 | _+1,.fn _=>none
termination_by k=>(k,0)
noncomputable def pyAll (S:Sto):Nat->List D->Option (List PyData)
 | _,[]=>some []
 | k,x :: xs=>(zak S k x).bind λd=>(pyAll S k xs).bind λds=>some (d :: ds)
termination_by k xs=>(k,xs.length+1)
end
noncomputable def ze1:FM
 | [x],S=>(zak S 140 x).bind λd=>if d.shown.length<=sizeLine then some (.str d.shown,S) else none
 | _,_=>none
section
variable {X:Cx}{pins:List (Addr × Obj)}{σ:St}{H:Hp}{s:Shared}{ρ:List Addr}{S:Sto}
theorem zky (I:Inv X pins σ H s) (sim:Sim X.K ρ S H) {k:Nat}(ih:∀(d:D) (v:V) (u:Value) (p:PyData),RD ρ H d v->RelV v u->zak S k d=some p->(∃as,Reads s.heap u p as)/\p.showable=true/\p.hasDict=false/\p.depth<=k):∀(xs:List D) (vs:List V) (us:List Value) (ds:List PyData),RDs ρ H xs vs->Vals vs us->pyAll S k xs=some ds->(∃as,ReadsAll s.heap us ds as)/\PyData.showableAll ds=true/\PyData.hasDictAll ds=false/\PyData.depthAll ds<=k:=by
 intro xs
 induction xs with
 | nil =>
  intro vs us ds r e h
  unfold pyAll at h;cases h;cases r;cases e
  exact ⟨⟨_,.nil⟩,rfl,rfl,Nat.zero_le _⟩
 | cons x xs ihx =>
  intro vs us ds r e h
  unfold pyAll at h
  obtain ⟨d,h1,h⟩:=bnd h
  obtain ⟨ds',h2,h⟩:=bnd h
  cases h
  cases r with
  | cons r1 r2 =>
   cases e with
   | cons e1 e2 =>
    obtain ⟨⟨as,q1⟩,q2,q3,q4⟩:=ih x _ _ d r1 e1 h1
    obtain ⟨⟨bs,p1⟩,p2,p3,p4⟩:=ihx _ _ ds' r2 e2 h2
    refine ⟨⟨_,.cons q1 p1⟩,?_,?_,?_⟩
    ·unfold PyData.showableAll;rw [q2,p2];rfl
    ·unfold PyData.hasDictAll;rw [q3,p3];rfl
    ·unfold PyData.depthAll;omega
theorem zd0 (I:Inv X pins σ H s) (sim:Sim X.K ρ S H):∀(k:Nat) (d:D) (v:V) (u:Value) (p:PyData),RD ρ H d v->RelV v u->zak S k d=some p->(∃as,Reads s.heap u p as)/\p.showable=true/\p.hasDict=false/\p.depth<=k:=by
 intro k
 induction k with
 | zero=>intro d v u p _ _ h;unfold zak at h;cases h
 | succ k ih =>
  intro d v u p r e h
  cases d with
  | non  =>
   unfold zak at h;cases h;cases r;cases e
   exact ⟨⟨_,.none⟩,rfl,rfl,Nat.zero_le _⟩
  | bl b =>
   unfold zak at h;cases h;cases r;cases e
   exact ⟨⟨_,.bool b⟩,rfl,rfl,Nat.zero_le _⟩
  | int i =>
   unfold zak at h
   obtain ⟨hz,e2⟩:=za3 h
   cases e2;cases r
   obtain ⟨t,rfl⟩:=e
   exact ⟨⟨_,.int i t⟩,by unfold PyData.showable;exact decide_eq_true hz,rfl,Nat.zero_le _⟩
  | str x =>
   unfold zak at h;cases h;cases r
   obtain ⟨t,rfl⟩:=e
   exact ⟨⟨_,.str x t⟩,rfl,rfl,Nat.zero_le _⟩
  | fn _=>unfold zak at h;cases h
  | tup xs =>
   unfold zak at h
   obtain ⟨ds,h1,h⟩:=bnd h
   cases h
   cases r with
   | tup ha r =>
    cases e
    obtain ⟨its,rv,⟨o,ho,hc,n,hd⟩,hz⟩:=I.tuple (SqT.of ha)
    obtain ⟨⟨as,h2⟩,h3,h4,h5⟩:=zky I sim ih xs _ _ ds r rv h1
    refine ⟨⟨as,.tuple ho hc hd (by simpa using h2)⟩,?_,?_,?_⟩
    ·unfold PyData.showable;exact h3
    ·unfold PyData.hasDict;exact h4
    ·unfold PyData.depth;omega
  | ref n =>
   unfold zak at h
   obtain ⟨xs,h0,h⟩:=bnd h
   obtain ⟨ds,h1,h⟩:=bnd h
   cases h
   obtain ⟨a,vs,ha,sq,rd⟩:=sim.lstOf h0
   cases r with
   | ref hn =>
    rw [ha] at hn;cases hn
    cases e
    obtain ⟨its,rv,pl,hz⟩:=I.list sq
    obtain ⟨o,ho,hc,m,hd⟩:=pl.isList
    obtain ⟨⟨as,h2⟩,h3,h4,h5⟩:=zky I sim ih xs _ _ ds rd rv h1
    refine ⟨⟨_,.list ho hc hd (by simpa using h2)⟩,?_,?_,?_⟩
    ·unfold PyData.showable;exact h3
    ·unfold PyData.hasDict;exact h4
    ·unfold PyData.depth;omega
theorem zoo (I:Inv X pins σ H s) (sim:Sim X.K ρ S H):∀(k:Nat) (xs:List D) (vs:List V) (us:List Value) (ds:List PyData),RDs ρ H xs vs->Vals vs us->pyAll S k xs=some ds->(∃as,ReadsAll s.heap us ds as)/\PyData.showableAll ds=true/\PyData.hasDictAll ds=false/\PyData.depthAll ds<=k
 | k=>zky I sim (zd0 I sim k)
end
section
variable {X:Cx}{a:Expr}{es:List Expr}{mA:AM}{pos p:Pos}
theorem zwr {k:Nat}(hr:Room k X.A):CallR X (.builtin "repr") (λxs H Q=>∃v ρ S d pd,xs=[v]/\Sim X.K ρ S H/\RD ρ H d v/\zak S 140 d=some pd/\pd.shown.length<=sizeLine/\Q (.str pd.shown) H):=by
 intro pins s σ H xs us Q I r h
 obtain ⟨v,ρ,S,d,pd,rfl,sim,rd,hp,hz,q⟩:=h
 obtain ⟨u,rfl,ru⟩:=zcm r
 have key:=zd0 I sim 140 d v u pd rd ru hp
 have byRef:∀a,u=.ref a->wpAny (model X.prog X.w) X.A (call (.builtin "repr") [u]) (EP X pins σ Q) X.xe s:=λb hb=>by
  subst hb
  obtain ⟨⟨as,h1⟩,h2,h3,h4⟩:=key
  have hu:X.A.units+(pd.depth+1)<cLine:=by have:=hr.un;omega
  refine repr_of_reads' h1 h2 (λz=>by rw [h3] at z;cases z) hr.gd hu (λ_ _ e=>e) (λh' u tk hk=>?_) hz
  exact ⟨.str pd.shown,H,I.kept hk,⟨u,rfl⟩,q⟩
 have hp':=hp
 cases rd with
 | non=>cases ru;unfold zak at hp';cases hp';exact P.repr_of_none ⟨.str _,H,I.tok _,⟨_,rfl⟩,q⟩
 | bl b=>cases ru;unfold zak at hp';cases hp';exact P.repr_of_bool ⟨.str _,H,I.tok _,⟨_,by cases b <;> rfl⟩,q⟩
 | int i =>
  obtain ⟨t,rfl⟩:=ru
  unfold zak at hp'
  obtain ⟨hi,e⟩:=za3 hp'
  cases e
  exact P.repr_of_int hi ⟨.str _,H,I.tok _,⟨_,rfl⟩,q⟩
 | str x=>obtain ⟨t,rfl⟩:=ru;unfold zak at hp';cases hp';exact P.repr_of_str ⟨.str _,H,I.tok _,⟨_,rfl⟩,q⟩ hz
 | tup ha r=>exact byRef _ ru
 | ref hn=>exact byRef _ ru
 | fn b=>unfold zak at hp';cases hp'
theorem zws {K:QFg}:Fn3 K ze1 (λxs H Q=>∃v ρ S d pd,xs=[v]/\Sim K ρ S H/\RD ρ H d v/\zak S 140 d=some pd/\pd.shown.length<=sizeLine/\Q (.str pd.shown) H):=by
 intro ρ S H xs vs v S' Q sim r h p
 unfold ze1 at h
 split at h
 ·obtain ⟨pd,h1,h⟩:=bnd h
  obtain ⟨hz,e⟩:=za3 h
  cases e
  obtain ⟨w,rfl,rw'⟩:=r.one
  exact ⟨w,ρ,_,_,pd,rfl,sim,rw',h1,hz,p ρ H _ (Ext.refl ..) sim (.str _)⟩
 ·cases h
theorem zwt:bootBuiltins "repr" = some (.builtin "repr"):=by decide +kernel
end
theorem zwu:fillsNumberSlot (.type "tuple") "mul" = pure false :=
 PySem.fillsNumberSlot_seq (id:="tuple.__mul__") (r:=some (.builtin "tuple.__rmul__")) PySem.F.slot_tuple_mul.lookup (by decide +kernel) PySem.F.slot_tuple_rmul.lookup (by decide +kernel)
theorem zwv:seqRepeat? (.type "tuple")=pure (some (.builtin "tuple.__mul__")):=by
 unfold seqRepeat?
 rw [PySem.seqSlot_of (T:="tuple") (name:="__mul__") (id:="tuple.__mul__") PySem.F.slot_tuple_mul.lookup (by decide +kernel),PySem.seqSlot_of (T:="tuple") (name:="__rmul__") (id:="tuple.__rmul__") PySem.F.slot_tuple_rmul.lookup (by decide +kernel)]
 rfl
open PySem.AutoSeq1 (wpAny_loadPart')
theorem zww (a:Int) (t:Tok) (l:Addr) (items:Array Value) (n:Nat) (dd:Option Addr) (sl:Array (Option Value)) :
  Meets (Builtin.«int.__rmul__» ⟨[.int a t,.ref l],[]⟩) (λ_ R s=>s.heap.get? l=some { cls:=.type "tuple",dict:=dd,data:=.seq items n,slots:=sl }/\R (.ok (.ret Value.notImplemented)) s) :=
 .of_wp λprog w A R s h=>by obtain ⟨hp,g,d,tk,os⟩:=s;obtain ⟨hl,h⟩:=h;wp_walk;exact ⟨_,rfl,h⟩
section
variable {prog:Program}{w:World}{A:Around}{E:Value->Shared->Prop}{s:Shared}
theorem zwx {t:Addr}{items:Array Value}{k:Int}{u:Tok}{Q:Value->Shared->Prop}(ht:IsTup s.heap t items) (k0:2<=k) (k1:k<2 ^ 31) (hi:items.isEmpty=false) (hz:items.size*k.toNat<=sizeLine)
  (h:Q (.ref s.heap.objs.size) { s with heap:=s.heap.push { cls:=.type "tuple",data:=.seq ((List.replicate k.toNat items).foldl (·++·) #[]) } }) (h6:((List.replicate k.toNat items).foldl (·++·) #[]).size<=sizeLine) :
  wpAny (model prog w) A (call (.builtin "tuple.__mul__") [.ref t,.int k u]) Q E s:=by
 refine wpAny_call_entry PySem.F.slot_tuple_mul ht.typeIs PySem.F.entry_tuple_mul ?_ (PySem.F.args_tuple_mul_2 _ _)
 show wpAny _ _ (asIndex (.int k u) >>= _) _ _ s
 refine qwb ?_
 show wpAny _ _ (pure k) _ _ s
 refine qwp ?_
 have e1:(decide (k < -(2 ^ 63)) || decide (k ≥ 2 ^ 63))=false:=by
  rw [Bool.or_eq_false_iff];exact ⟨decide_eq_false (by omega),decide_eq_false (by omega)⟩
 have e2:(items.isEmpty || k == 1)=false:=by rw [hi,Bool.false_or];exact beq_false_of_ne (by omega)
 have e3:(decide (k<=0) || items.isEmpty)=false:=by rw [hi,Bool.or_false];exact decide_eq_false (by omega)
 show wpAny _ _ (if (decide (k < -(2 ^ 63)) || decide (k ≥ 2 ^ 63))=true then _ else _) _ _ s
 rw [if_neg (by rw [e1];exact Bool.false_ne_true)]
 refine qwb (tupleItemsOf_ ht ?_)
 show wpAny _ _ (if (items.isEmpty || k == 1)=true then _ else _) _ _ s
 rw [if_neg (by rw [e2];exact Bool.false_ne_true)]
 show wpAny _ _ (if (decide (k<=0) || items.isEmpty)=true then _ else _) _ _ s
 rw [if_neg (by rw [e3];exact Bool.false_ne_true)]
 have hk:(items.size:Int)*k=((items.size*k.toNat:Nat):Int):=by rw [Int.natCast_mul,Int.toNat_of_nonneg (by omega)]
 have hs:(sizeLine:Nat)=16777216:=by decide
 show wpAny _ _ (if (items.size:Int)*k > (2 ^ 63-1) / 8 then _ else _) _ _ s
 rw [if_neg (by rw [hk];omega)]
 show wpAny _ _ (if Builtin.Tuple.tupleTooMany ((items.size:Int)*k)=true then _ else _) _ _ s
 rw [if_neg (by unfold Builtin.Tuple.tupleTooMany;rw [hk];simp only [decide_eq_true_eq];omega)]
 first
  | exact qwb (m:=Builtin.Tuple.tupleExact _) (wpAny_newObj_type (qwp ⟨_,rfl,h⟩) h6)
  | exact qwb (m:=Builtin.Tuple.tupleExact _) (wpAny_newObj_type (qwp ⟨_,rfl,qwp h⟩) h6)
theorem zwy {t:Addr}{items:Array Value}{u:Tok}{Q:Value->Shared->Prop}(ht:IsTup s.heap t items) (h:Q (.ref t) s) :
  wpAny (model prog w) A (call (.builtin "tuple.__mul__") [.ref t,.int 1 u]) Q E s:=by
 refine wpAny_call_entry PySem.F.slot_tuple_mul ht.typeIs PySem.F.entry_tuple_mul ?_ (PySem.F.args_tuple_mul_2 _ _)
 show wpAny _ _ (asIndex (.int 1 u) >>= _) _ _ s
 refine qwb ?_
 show wpAny _ _ (pure (1:Int)) _ _ s
 refine qwp ?_
 show wpAny _ _ (if (decide ((1:Int) < -(2 ^ 63)) || decide ((1:Int) ≥ 2 ^ 63))=true then _ else _) _ _ s
 rw [if_neg (by decide)]
 refine qwb (tupleItemsOf_ ht ?_)
 show wpAny _ _ (if (items.isEmpty || (1:Int) == 1)=true then _ else _) _ _ s
 rw [if_pos (by simp)]
 unfold Builtin.Tuple.tupleIsExact
 refine qwb (qwb (wpAny_typeOf ht.typeIs (qwp ?_)))
 rw [if_pos (by decide)]
 exact qwb (wpAny_rule (qwp ⟨_,rfl,h⟩))
theorem zwz {t:Addr}{items:Array Value}{k:Int}{u:Tok}{Q:Value->Shared->Prop}(ht:IsTup s.heap t items) (k0:k=0) (hi:items.isEmpty=false)
  (h:Q (.ref s.heap.objs.size) { s with heap:=s.heap.push { cls:=.type "tuple",data:=.seq #[] } }) :
  wpAny (model prog w) A (call (.builtin "tuple.__mul__") [.ref t,.int k u]) Q E s:=by
 subst k0
 refine wpAny_call_entry PySem.F.slot_tuple_mul ht.typeIs PySem.F.entry_tuple_mul ?_ (PySem.F.args_tuple_mul_2 _ _)
 show wpAny _ _ (asIndex (.int 0 u) >>= _) _ _ s
 refine qwb ?_
 show wpAny _ _ (pure (0:Int)) _ _ s
 refine qwp ?_
 show wpAny _ _ (if (decide ((0:Int) < -(2 ^ 63)) || decide ((0:Int) ≥ 2 ^ 63))=true then _ else _) _ _ s
 rw [if_neg (by decide)]
 refine qwb (tupleItemsOf_ ht ?_)
 show wpAny _ _ (if (items.isEmpty || (0:Int) == 1)=true then _ else _) _ _ s
 rw [if_neg (by rw [hi];decide)]
 show wpAny _ _ (if (decide ((0:Int)<=0) || items.isEmpty)=true then _ else _) _ _ s
 rw [if_pos (by simp)]
 first
  | exact qwb (m:=Builtin.Tuple.tupleExact _) (wpAny_newObj_type (qwp ⟨_,rfl,h⟩) (Nat.zero_le _))
  | exact qwb (m:=Builtin.Tuple.tupleExact _) (wpAny_newObj_type (qwp ⟨_,rfl,h⟩) (by decide))
end
def zop (K:QFg):R2:=λx y H Q=>∃a k xs,x=.ref a/\y=.int k/\SqT K H a xs/\xs≠[]/\0<=k/\k<2 ^ 31/\xs.length*k.toNat<=sizeLine /\
 (k=1->Q (.ref a) H)/\(k≠1->∀p,H p=none->Q (.ref p) (upd H p (.tup (List.replicate k.toNat xs).flatten)))
theorem zw0 {X:Cx}:OpR X (binaryOp .Mult) (zop X.K):=by
 intro pins s σ H x y v u Q I rx ry h
 obtain ⟨a,k,xs,rfl,rfl,hx,hne,k0,k1,hz,q1,q2⟩:=h
 cases rx
 obtain ⟨t,rfl⟩:=ry
 obtain ⟨its,r,pt,_⟩:=I.tuple hx
 have hne':its≠[]:=λz=>hne (r.nil_iff.mp z)
 have hie:its.toArray.isEmpty=false:=by cases its with
  | nil=>exact absurd rfl hne'
  | cons _ _=>simp
 obtain ⟨⟨cls,dd,data,sl⟩,ho,hc,n,hd⟩:=id pt
 simp only at hc hd
 subst hc hd
 refine wpAny_binaryOp_repeat_ref (T:="tuple") (U:="int") (by decide) ⟨_,ho,rfl⟩ (λs'=>typeIs_int s' k t) zwu PySem.F.fills_int_mul PySem.F.slot_int_rmul zwv PySem.F.slot_int_index.lookup
  (call_meets PySem.F.slot_int_rmul (typeIs_int s k t) PySem.F.entry_int_rmul (PySem.F.args_int_rmul_2 _ _) (zww k t a its.toArray n dd sl) ⟨ho,rfl,⟨_,ho,rfl⟩,?_⟩)
 have f0:∀m:Nat,List.foldl (λx1 x2=>x1++x2) #[] (List.replicate m its.toArray)=(List.replicate m its).flatten.toArray:=λm=>by
  have:=zng its m []
  rw [List.nil_append] at this
  exact this
 have hl:xs.length=its.length:=r.length
 by_cases e1:k=1
 ·subst e1
  exact zwy pt ⟨.ref a,H,I,rfl,q1 rfl⟩
 ·by_cases e0:k=0
  ·refine zwz pt e0 hie ?_
   have hv:Vals ([]:List V) ([]:List Value):=.nil
   refine ⟨.ref s.heap.objs.size,_,I.laid (t':=s.toks) (o:=.tup []) (λb ob q=>qps _ q) (qlr _) ?_,rfl,?_⟩
   ·exact ⟨Nat.zero_le _,[],.nil,IsTD.new _ _⟩
   ·have:=q2 e1 _ (I.hok.fresh (qlr _))
    subst e0
    exact this
  ·have hlen:(List.replicate k.toNat its).flatten.length=k.toNat*its.length:=znl its k.toNat
   refine zwx pt (by omega) k1 hie (by rw [List.size_toArray,<-hl];exact hz) ?_ ?_
   ·rw [f0]
    refine ⟨.ref s.heap.objs.size,_,I.laid (t':=s.toks) (o:=.tup (List.replicate k.toNat xs).flatten) (λb ob q=>qps _ q) (qlr _) ?_,rfl,q2 e1 _ (I.hok.fresh (qlr _))⟩
    exact ⟨by rw [znl,Nat.mul_comm];exact hz,_,r.rep k.toNat,IsTD.new _ _⟩
   ·rw [f0,List.size_toArray,hlen,Nat.mul_comm,<-hl];exact hz
noncomputable def zdb:D->D->Sto->Option (D × Sto)
 | .int i,.int j,S=>if (-(2 ^ 64)<i/\i<2 ^ 64)\/(-(2 ^ 64)<j/\j<2 ^ 64) then some (.int (i*j),S) else none
 | .tup (x :: xs),.int k,S=>if 0<=k/\k<2 ^ 31/\(xs.length+1)*k.toNat<=sizeLine then some (.tup (List.replicate k.toNat (x :: xs)).flatten,S) else none
 | _,_,_=>none
theorem zw1 {K:QFg}:Op3 K zdb (λx y H Q=>rI CMul (λi j=>.int (i*j)) x y H Q\/zop K x y H Q):=by
 intro ρ S H x y x' y' v S' Q sim rx ry h p
 unfold zdb at h
 split at h
 ·obtain ⟨hc,e⟩:=za3 h
  cases e;cases rx;cases ry
  exact .inl ⟨_,_,rfl,rfl,hc,p ρ H _ (Ext.refl ..) sim (.int _)⟩
 ·rename_i x xs k
  obtain ⟨⟨k0,k1,hz⟩,e⟩:=za3 h
  cases e;cases ry
  cases rx with
  | @tup _ a vs ha r =>
   have hl:=r.length
   refine .inr ⟨a,k,vs,rfl,rfl,SqT.of ha,?_,k0,k1,by rw [<-hl];exact hz,λe=>?_,λ_=>zg2 sim (r.rep k.toNat) p⟩
   ·intro z;rw [z] at hl;cases hl
   ·subst e
    have e2:(List.replicate (1:Int).toNat (x :: xs)).flatten=x :: xs:=by simp
    rw [e2] at p
    exact p ρ H _ (Ext.refl ..) sim (.tup ha r)
 ·cases h
section
variable {X:Cx}{a b:Expr}{ma mb:EM}{pos:Pos}
theorem zir (ha:PE3 X a ma) (hb:PE3 X b mb):PE3 X (.BinOp a .Mult b pos) (eOp zdb ma mb):=zes (op_mul.or zw0) zw1 ha hb
end
section
variable {X:Cx}{c:Expr}{body:List Stmt}{mc:TM}{mb:SM}{pos:Pos}
end
section
variable {X:Cx}
variable {a b:Expr}{ma mb:EM}{pos:Pos}
end
noncomputable def zf1:D->D->Sto->Option (D × Sto):=λx y S=>(zak S 60 x).bind λp=>(zak S 60 y).bind λq=>if p.canLay0=true/\q.canLay0=true then some (.bl (p.eqv q),S) else none
noncomputable def zf2:D->D->Sto->Option (D × Sto):=λx y S=>(zak S 60 x).bind λp=>(zak S 60 y).bind λq=>if p.canLay0=true/\q.canLay0=true then some (.bl (!p.eqv q),S) else none
def zis (K:QFg) (neg:Bool):R2:=λx y H Q=>∃ρ S dx dy p q,Sim K ρ S H/\RD ρ H dx x/\RD ρ H dy y/\zak S 60 dx=some p/\zak S 60 dy=some q/\p.canLay0=true/\q.canLay0=true/\Q (.bl (if neg then !p.eqv q else p.eqv q)) H
section
variable {X:Cx}
theorem zw2 {k:Nat}(hr:Room k X.A):OpR X (compareOp .Eq) (zis X.K false):=by
 intro pins s σ H x y v u Q I rx ry h
 obtain ⟨ρ,S,dx,dy,p,q,sim,r1,r2,h1,h2,c1,c2,hq⟩:=h
 obtain ⟨⟨as,k1⟩,_,_,k2⟩:=zd0 I sim 60 dx x v p r1 rx h1
 obtain ⟨⟨bs,k3⟩,_,_,k4⟩:=zd0 I sim 60 dy y u q r2 ry h2
 have hu:X.A.units+min p.depth q.depth<cLine:=by have:=hr.un;have:min p.depth q.depth<=p.depth:=Nat.min_le_left _ _;omega
 exact PySem.SeqAt.compareEq_reads k1 k3 c1 c2 hu ⟨.bl _,H,I,rfl,hq⟩
theorem zw3 {k:Nat}(hr:Room k X.A):OpR X (compareOp .NotEq) (zis X.K true):=by
 intro pins s σ H x y v u Q I rx ry h
 obtain ⟨ρ,S,dx,dy,p,q,sim,r1,r2,h1,h2,c1,c2,hq⟩:=h
 obtain ⟨⟨as,k1⟩,_,_,k2⟩:=zd0 I sim 60 dx x v p r1 rx h1
 obtain ⟨⟨bs,k3⟩,_,_,k4⟩:=zd0 I sim 60 dy y u q r2 ry h2
 have hu:X.A.units+min p.depth q.depth<cLine:=by have:=hr.un;have:min p.depth q.depth<=p.depth:=Nat.min_le_left _ _;omega
 exact PySem.SeqAt.compareNe_reads k1 k3 c1 c2 hu ⟨.bl _,H,I,rfl,hq⟩
theorem zw4 {K:QFg}:Op3 K zf1 (zis K false):=by
 intro ρ S H x y x' y' v S' Q sim rx ry h p
 obtain ⟨d1,h1,h⟩:=bnd h
 obtain ⟨d2,h2,h⟩:=bnd h
 obtain ⟨hc,e⟩:=za3 h
 cases e
 exact ⟨ρ,_,x,y,d1,d2,sim,rx,ry,h1,h2,hc.1,hc.2,p ρ H _ (Ext.refl ..) sim (.bl _)⟩
theorem zw5 {K:QFg}:Op3 K zf2 (zis K true):=by
 intro ρ S H x y x' y' v S' Q sim rx ry h p
 obtain ⟨d1,h1,h⟩:=bnd h
 obtain ⟨d2,h2,h⟩:=bnd h
 obtain ⟨hc,e⟩:=za3 h
 cases e
 exact ⟨ρ,_,x,y,d1,d2,sim,rx,ry,h1,h2,hc.1,hc.2,p ρ H _ (Ext.refl ..) sim (.bl _)⟩
variable {a b:Expr}{ma mb:EM}{pos:Pos}{k:Nat}
theorem zw6 (hr:Room k X.A) (ha:PE3 X a ma) (hb:PE3 X b mb):PE3 X (.Compare a [.Eq] [b] pos) (eOp zf1 ma mb):=znz (zw2 hr) zw4 ha hb (zdv b)
theorem zw7 (hr:Room k X.A) (ha:PE3 X a ma) (hb:PE3 X b mb):PT3 X (.Compare a [.NotEq] [b] pos) (tE (eOp zf2 ma mb)):=zet (zw3 hr) zw5 ha hb (zdv b)
end
noncomputable def setOf:Sto->D->Option ((Int->Bool) × Nat)
 | S,.ref n=>match S[n]? with
  | some (.iset f k)=>some (f,k)
  | _=>none
 | _,_=>none
section
variable {X:Cx}
variable {a b:Expr}{ma mb:EM}{pos:Pos}
end
section
variable {X:Cx}
variable {o e:Expr}{mo m:EM}{apos cpos:Pos}
end
section
variable {prog:Program}{w:World}{A:Around}{E:Value->Shared->Prop}{s:Shared}
end
section
variable {X:Cx}
end
noncomputable def ze2:D->List D->Sto->Option (D × Sto)
 | .ref n,[.int i],S=>match S[n]? with
  | some (.lst xs)=>(seqIndex? i xs.length).bind λk=>(xs[k]?).bind λy=>if -(2 ^ 63)<=i/\i<2 ^ 63 then some (y,S.set n (.lst (xs.eraseIdx k))) else none
  | _=>none
 | _,_,_=>none
theorem RDs.eraseIdx {ρ:List Addr}{H:Hp}:∀{xs:List D}{vs:List V}(k:Nat),RDs ρ H xs vs->RDs ρ H (xs.eraseIdx k) (vs.eraseIdx k)
 | _,_,_,.nil=>.nil
 | _,_,0,.cons _ q=>q
 | _,_,k+1,.cons r q=>.cons r (RDs.eraseIdx k q)
theorem zw8 {K:QFg}:Mt3 K ze2 znj:=by
 intro ρ S H x x' xs vs v S' Q sim rx r h p
 unfold ze2 at h
 split at h
 ·split at h
  ·rename_i n i S ys e
   obtain ⟨k,h1,h⟩:=bnd h
   obtain ⟨y,h2,h⟩:=bnd h
   obtain ⟨hz,e2⟩:=za3 h
   cases e2
   obtain ⟨w,rfl,rw'⟩:=r.one
   cases rw'
   obtain ⟨a,us,ha,hH,r2⟩:=sim.lst e
   obtain ⟨w2,hw,rw2⟩:=r2.get h2
   cases rx with
   | ref hn =>
    rw [ha] at hn;cases hn
    exact ⟨a,us,i,k,w2,rfl,rfl,hH,hz.1,hz.2,by rw [<-r2.length];exact h1,hw,p ρ _ _ (zj5 ha hH) (sim.set ha e hH (r2.eraseIdx k)) (rw2.mono (zj5 ha hH))⟩
  ·cases h
 ·cases h
section
variable {X:Cx}{o e:Expr}{mo m:EM}{apos cpos:Pos}
theorem zw9 (ho:PE3 X o mo) (he:PE3 X e m)
  (hbase:attributeBase o "pop" X.env (eval o X.env)=eval o X.env:=by rfl)
  (hfew:((backTo cpos (starEach [e] X.env)).all (λx=>!x.1) && (backToKw cpos (keywordEach [] X.env)).all (λx=>x.1.isSome)
   && decide ([e].length+([]:List Keyword).length+(if ([]:List Keyword).isEmpty then 0 else 1)<30))=true:=by rfl)
  (hline:(apos.endLine == cpos.line)=true:=by rfl) (hs:starEach [e] X.env=(false,eval e X.env) :: starEach [] X.env:=by rfl) :
  PE3 X (.Call (.Attribute o "pop" apos) [e] [] cpos) (zc1 ze2 mo (zaa m zae)) :=
 zik PySem.F.slot_list_pop PySem.F.type_list_pop zuw zw8 ho (zac he zag hs) hbase hfew hline hs
end
section
variable {X:Cx}{o e:Expr}{mo m:EM}{apos cpos:Pos}
end
noncomputable def zf3 (lo:Int) (n:Nat):List V:=(List.range n).map λ(i:Nat)=>V.int (lo+i)
theorem zkz:∀{xs:List V}{us:List Value},xs.length=us.length->(∀(j:Nat) x u,xs[j]? = some x->us[j]? = some u->RelV x u)->Vals xs us
 | [],[],_,_=>.nil
 | [],_ :: _,h,_=>by simp at h
 | _ :: _,[],h,_=>by simp at h
 | x :: xs,u :: us,h,q=>.cons (q 0 x u rfl rfl) (zkz (by simpa using h) λj y w h1 h2=>q (j+1) y w (by simpa using h1) (by simpa using h2))
section
variable {X:Cx}
theorem zoq:CallR X (.type "range") (λxs H Q=>∃j,xs=[.int j]/\∀r,H r=none->Q (.ref r) (upd H r (.rng 0 j))):=by
 intro pins s σ H xs us Q I r h
 obtain ⟨j,rfl,q⟩:=h
 obtain ⟨u1,rfl,r1⟩:=r.one
 obtain ⟨t,rfl⟩:=r1
 exact call_range_1 ⟨.ref _,_,I.laid (o:=.rng 0 j) (λb o e=>qps _ e) (qlr _) ⟨_,_,_,Heap.get?_push_size _ rfl⟩,rfl,q _ I.fresh⟩
theorem zxa (hc:X.calm=true):CallR X (.type "list") (λxs H Q=>∃p lo hi,xs=[.ref p]/\H p=some (.rng lo hi)/\(-(2 ^ 62)<=lo/\lo<2 ^ 62/\-(2 ^ 62)<=hi/\hi<2 ^ 62)/\(hi-lo).toNat<=sizeLine/\∀l,H l=none->Q (.ref l) (upd H l (.lst (zf3 lo (hi-lo).toNat)))):=by
 intro pins s σ H xs us Q I r h
 obtain ⟨p,lo,hi,rfl,hH,⟨b1,b2,b3,b4⟩,hz,q⟩:=h
 obtain ⟨u1,rfl,r1⟩:=r.one
 cases r1
 obtain ⟨t,u,v,e⟩:=I.hok p _ hH
 have hn:Builtin.Range.rangeSize lo hi 1=((hi-lo).toNat:Nat):=by rw [rangeSize_one];split <;> omega
 have hz2:(hi-lo).toNat<=2 ^ 24:=Nat.le_trans hz (by decide)
 refine PySem.call_list_range (n:=(hi-lo).toNat) (I.ok.hd hc) e (small_one b1 b2 b3 b4) (by rw [hn]) hz2 λh' tk acc c' k he hi'=>?_
 obtain ⟨h1,h2⟩:=hi'
 refine ⟨.ref _,_,I.laid (o:=.lst (zf3 lo (hi-lo).toNat)) k (qlr _) ⟨by unfold zf3;rw [qlm,List.length_range];exact hz,acc.toList,c',zkz (by simp [zf3,h1]) λj x w e1 e2=>?_,he⟩,rfl,q _ I.fresh⟩
 rw [Array.getElem?_toList] at e2
 obtain ⟨t',rfl⟩:=h2 j w e2
 unfold zf3 at e1
 rw [qgm] at e1
 cases e3:(List.range (hi-lo).toNat)[j]? with
 | none=>rw [e3] at e1;cases e1
 | some i =>
  rw [e3] at e1
  cases e1
  have:=(qme e3).2
  simp at this
  subst this
  exact ⟨t',by rw [Int.mul_one]⟩
theorem zxb (ρ:List Addr) (H:Hp) (lo:Int) (n:Nat):RDs ρ H (zbo lo n) (zf3 lo n):=zoa ρ H lo n
theorem zor:bootBuiltins "range" = some (.type "range"):=by decide +kernel
noncomputable def zk0 (r:Lo->Sto->Option ((Int × Nat) × Sto)):EM:=λl S=>(r l S).bind λp=>if p.1.2<=sizeLine then some (.ref p.2.length,p.2++[.lst (zbo p.1.1 p.1.2)]) else none
variable {a a2:Expr}{mA:AM}{p p0 pos pos':Pos}
theorem zxc (hc:X.calm=true) (hg:Gl X "list") (hm:X.mg "list" = none) (hgr:Gl X "range") (hmr:X.mg "range" = none) (ha:PA3 X [a] mA)
  (he:starEach [.Call (.Name "range" p0) [a] [] pos'] X.env=[(false,eval (.Call (.Name "range" p0) [a] [] pos') X.env)]:=by rfl)
  (he2:starEach [a] X.env=(false,eval a X.env) :: starEach [] X.env:=by rfl) :
  PE3 X (.Call (.Name "list" p) [.Call (.Name "range" p0) [a] [] pos'] [] pos) (zk0 (zb7 mA)) :=
 PE.imp (zgy (zxa hc) hg hm zoh (zcn (zgy zoq hgr hmr zor ha (by decide) (by decide) he2 rfl) zdw he) (by decide) (by decide) he rfl) λσ H Q hx2_=>by
  obtain ⟨ρ,l,S,v,S',sim,ro,hm,p⟩:=hx2_
  obtain ⟨⟨⟨lo,n⟩,S1⟩,q1,hm⟩:=bnd hm
  obtain ⟨⟨xs,S2⟩,q2,q1⟩:=bnd q1
  dsimp only at q1 hm
  obtain ⟨hz,e⟩:=za3 hm
  cases e
  split at q1
  ·rename_i j
   obtain ⟨hb,e⟩:=za3 q1
   cases e
   refine ⟨ρ,l,S,[.int j],S1,sim,ro,q2,λρ1 H1 vs e1 s1 r1=>?_⟩
   obtain ⟨v,rfl,rv⟩:=r1.one
   cases rv
   refine ⟨j,rfl,λr hr=>⟨r,0,j,rfl,zbg,⟨by decide,by decide,hb.1,hb.2⟩,by simpa using hz,?_⟩⟩
   have:=zfm (s1.laid (u:=.rng 0 j) hr) (zxb ρ1 _ 0 j.toNat) (p.ext (e1.trans (zb1 hr)))
   simpa using this
  ·cases q1
end
noncomputable def isT:D->Bool
 | .bl b=>b
 | _=>false
noncomputable def zf4:D->Bool
 | .bl _=>true
 | _=>false
noncomputable def vT:V->Bool
 | .bl b=>b
 | _=>false
noncomputable def zit:V->Bool
 | .bl _=>true
 | _=>false
noncomputable def zf5:FM
 | [.ref n],S=>(lstOf S n).bind λxs=>if xs.all zf4=true then some (.bl (xs.all isT),S) else none
 | _,_=>none
theorem zxd {ρ:List Addr}{H:Hp}{x:D}{x':V}(r:RD ρ H x x'):vT x' = isT x/\zit x' = zf4 x:=by
 cases r <;> exact ⟨rfl,rfl⟩
theorem zos {ρ:List Addr}{H:Hp}:∀{xs:List D}{vs:List V},RDs ρ H xs vs->vs.all vT=xs.all isT/\vs.any vT=xs.any isT/\vs.all zit=xs.all zf4
 | _,_,.nil=>⟨rfl,rfl,rfl⟩
 | _,_,.cons r q=>by
  obtain ⟨h1,h2⟩:=zxd r
  obtain ⟨h3,h4,h5⟩:=zos q
  simp only [List.all_cons,List.any_cons,h1,h2,h3,h4,h5,and_self]
section
variable {X:Cx}
theorem zxe {ys:List V}(tr:Nat->Bool) (h:∀(i:Nat) y,ys[i]? = some y->tr i=vT y):(List.range ys.length).all tr=ys.all vT/\(List.range ys.length).any tr=ys.any vT:=by
 have e:(List.range ys.length).map tr=ys.map vT:=by
  apply List.ext_getElem?
  intro i
  rw [qgm,qgm]
  by_cases hi:i<ys.length
  ·rw [List.getElem?_range hi,qge hi]
   simp [h i _ (qge hi)]
  ·rw [List.getElem?_eq_none_iff.mpr (by simpa using hi),List.getElem?_eq_none_iff.mpr (by simpa using hi)];rfl
 have a1:(List.range ys.length).all tr=((List.range ys.length).map tr).all id:=by rw [List.all_map];rfl
 have a2:ys.all vT=(ys.map vT).all id:=by rw [List.all_map];rfl
 have a3:(List.range ys.length).any tr=((List.range ys.length).map tr).any id:=by rw [List.any_map];rfl
 have a4:ys.any vT=(ys.map vT).any id:=by rw [List.any_map];rfl
 exact ⟨by rw [a1,a2,e],by rw [a3,a4,e]⟩
def zot (K:QFg) (f:List V->Bool):List V->Hp->VK->Prop:=λxs H Q=>∃p ys,xs=[.ref p]/\SqL K H p ys/\ys.all zit=true/\Q (.bl (f ys)) H
theorem zxf {pins:List (Addr × Obj)}{s:Shared}{σ:St}{H:Hp}{p:Addr}{ys:List V}{E:Value->Shared->Prop}{R:Bool->Bool->Shared->Prop}(hc:X.calm=true) (I:Inv X pins σ H s) (hq:SqL X.K H p ys) (hb:ys.all zit=true)
  (h:∀s',Inv X pins σ H s'->R (ys.all vT) (ys.any vT) s') :
  wpAny (model X.prog X.w) X.A.in1 (pyIter (.ref p)) (λit s₂=>∃I fp wr n P St tr,it=.ref I/\Walks X.prog X.w X.A.in1 I fp wr n P St/\St 0 s₂.heap/\TruthOf X.prog X.w X.A.in1 P tr /\
   ∀h' tk,(∀b o,b ∉ wr->s₂.heap.get? b=some o->h'.get? b=some o)->R ((List.range n).all tr) ((List.range n).any tr) { s₂ with heap:=h',toks:=tk }) E s:=by
 obtain ⟨its,rv,pl,hz⟩:=I.list hq
 refine wpAny_pyIter_list pl.isList ?_
 have hne:p≠s.heap.objs.size:=by
  obtain ⟨o,ho,_⟩:=pl.isList
  exact Nat.ne_of_lt (Heap.lt_size ho)
 have I1:Inv X pins σ H { s with heap:=s.heap.push { cls:=.type "list_iterator",data:=.fields #[.ref p,rawInt 0] } }:=I.kept (t':=s.toks) λb o e=>qps _ e
 have fp:=I.fpOk (qlr s.heap.objs.size) I.fresh
 refine ⟨_,_,_,its.toArray.size,_,_,λi=>match its[i]? with|some (.bool b)=>b|_=>false,rfl,Walks.list (A:=X.A.in1) (I.ok.hd hc) s.heap.objs.size p hne its.toArray,?_,?_,?_⟩
 ·obtain ⟨o,ho,hc',n,hd⟩:=pl.isList
  exact ⟨⟨_,Heap.get?_push_size _ rfl,rfl,rfl⟩,⟨o,qps _ ho,hc',n,hd⟩⟩
 ·intro i v s' Q E' hP hQ
  have e1:its[i]? = some v:=by simpa using hP
  have hl:=rv.length
  have hi:i<ys.length:=by rw [hl];exact (qme e1).1
  obtain ⟨u,hu,ru⟩:=rv.get (qge hi)
  rw [e1] at hu;cases hu
  have hb2:=List.all_eq_true.mp hb _ (List.getElem_mem hi)
  dsimp only at hQ
  rw [e1] at hQ
  revert ru hb2
  generalize ys[i]=y
  intro ru hb2
  cases y with
  | bl b=>cases ru;exact wpAny_truthy_bool hQ
  | _=>exact absurd (show false=true from hb2) Bool.false_ne_true
 ·intro h' tk k
  have hs:its.toArray.size=ys.length:=by rw [List.size_toArray,rv.length]
  obtain ⟨a1,a2⟩:=zxe (ys:=ys) (λi=>match its[i]? with|some (.bool b)=>b|_=>false) (λi y hy=>by
   obtain ⟨u,hu,ru⟩:=rv.get hy
   have hb2:=List.all_eq_true.mp hb _ (qmg hy)
   rw [hu]
   cases y with
   | bl b=>cases ru;rfl
   | _=>exact absurd (show false=true from hb2) Bool.false_ne_true)
  rw [hs,a1,a2]
  exact h _ (I1.turned (t':=tk) (λb o hb' e=>k b o (by simpa using hb') e) fp.1 fp.2.1 fp.2.2.2.1 fp.2.2.2.2.1 fp.2.2.2.2.2)
theorem zxg (hc:X.calm=true):CallR X (.builtin "all") (zot X.K λys=>ys.all vT):=by
 intro pins s σ H xs us Q I r h
 obtain ⟨p,ys,rfl,hq,hb,q⟩:=h
 obtain ⟨u1,rfl,r1⟩:=r.one
 cases r1
 exact PySem.call_all_walk (zxf (R:=λa _ s'=>EP X pins σ Q (.bool a) s') hc I hq hb λs' I'=>⟨.bl _,H,I',rfl,q⟩)
theorem zxh {K:QFg}:Fn3 K zf5 (zot K λys=>ys.all vT):=by
 intro ρ S H xs vs v S' Q sim r h p
 unfold zf5 at h
 split at h
 ·obtain ⟨ys,h1,h⟩:=bnd h
  obtain ⟨hb,e⟩:=za3 h
  cases e
  obtain ⟨w,rfl,rw'⟩:=r.one
  obtain ⟨a,us,ha,sq,r2⟩:=sim.lstOf h1
  obtain ⟨t1,t2,t3⟩:=zos r2
  cases rw' with
  | ref hn =>
   rw [ha] at hn;cases hn
   exact ⟨_,us,rfl,sq,by rw [t3];exact hb,by dsimp only;rw [t1];exact p ρ H _ (Ext.refl ..) sim (.bl _)⟩
 ·cases h
theorem zxi:bootBuiltins "all" = some (.builtin "all"):=by decide +kernel
variable {a:Expr}{es:List Expr}{mA:AM}{p pos:Pos}
theorem zxj (hc:X.calm=true) (hg:Gl X "all") (hm:X.mg "all" = none) (ha:PA3 X (a :: es) mA) (he:starEach (a :: es) X.env=(false,eval a X.env) :: starEach es X.env:=by rfl) (hpl:(backTo pos (starEach es X.env)).any (·.1)=false:=by rfl):PE3 X (.Call (.Name "all" p) (a :: es) [] pos) (zaf zf5 mA) :=
 zfn (zxg hc) zxh hg hm zxi ha (by decide) (by decide) he hpl
end
noncomputable def zk1:D->Sto->Option (D × Sto)
 | .int i,S=>some (.int (-i),S)
 | _,_=>none
theorem zxk {X:Cx}{a:Expr}{ma:EM}{pos:Pos}(ha:PE3 X a ma):PE3 X (.UnaryOp .USub a pos) (eUn zk1 ma):=PE.imp (ztf ztk ha) λσ H Q hx1_=>by
 obtain ⟨ρ,l,S,v,S',sim,ro,hm,p⟩:=hx1_
 obtain ⟨⟨x,S1⟩,h1,hm⟩:=bnd hm
 refine ⟨ρ,l,S,x,S1,sim,ro,h1,λρ1 H1 x' e1 s1 r1=>?_⟩
 cases r1 with
 | int i=>cases hm;exact ⟨i,rfl,p ρ1 H1 _ e1 s1 (.int _)⟩
 | _=>cases hm
theorem zou {X:Cx}{pins:List (Addr × Obj)}{σ:St}{H:Hp}{s:Shared}(I:Inv X pins σ H s):sysModules<s.heap.objs.size:=by
 have h:mainGlobals<s.heap.objs.size:=(I.mod.glob.keeps I.bk).lt
 exact Nat.lt_trans (by decide) h
section
variable {X:Cx}{pos:Pos}
theorem zxl:PE X (.Dict [] [] pos) (λ_ H Q=>∀p,H p=none->Q (.ref p) (upd H p (.dK []))):=λpins s σ H Q I h =>
 wpAny_Dict_empty ⟨.ref s.heap.objs.size,_,I.laid (a:=s.heap.objs.size) (o:=.dK []) (t':=s.toks) (λ_ _ q=>qps _ q) (qlr _)
  ⟨Nat.zero_le _,beq_eq_false_iff_ne.mpr (Ne.symm (Nat.ne_of_lt (zou I))),[],.nil,Heap.DictOf.new s.heap⟩,rfl,h _ I.fresh⟩
noncomputable def ziu:EM:=λ_ S=>some (.ref S.length,S++[.dct []])
theorem zov:PE3 X (.Dict [] [] pos) ziu:=PE.imp zxl λσ H Q hx1_=>by
 obtain ⟨ρ,l,S,v,S',sim,ro,hm,p⟩:=hx1_
 cases hm
 intro a ha
 exact p (ρ++[a]) _ _ (zfi ha) (sim.pushG ha ⟨[],zbg,.nil⟩) (.ref (by rw [<-sim.len];exact za5 ρ a))
end
section
variable {X:Cx}{a b:Expr}{ma mb:EM}{pos:Pos}{k:Nat}
end
mutual
noncomputable def pyT (S:Sto):Nat->D->Option PyData
 | 0,_=>none
 | _+1,.non=>some .none
 | _+1,.bl b=>some (.bool b)
 | _+1,.int i=>if i.natAbs.log2<1920 then some (.int i) else none
 | _+1,.str x=>some (.str x)
 | k+1,.tup xs=>(pyTs S k xs).bind λds=>some (.tuple ds)
 | k+1,.ref n=>match S[n]? with
  | some (.dct [])=>some (.dict [])
  | some (.dct [(Sum.inl i,d)])=>if i.natAbs.log2<1920 then (pyT S k d).bind λp=>some (.dict [(.int i,p)]) else none
  | _=>none
 | _+1,.fn _=>none
termination_by k=>(k,0)
noncomputable def pyTs (S:Sto):Nat->List D->Option (List PyData)
 | _,[]=>some []
 | k,x :: xs=>(pyT S k x).bind λd=>(pyTs S k xs).bind λds=>some (d :: ds)
termination_by k xs=>(k,xs.length+1)
end
mutual
theorem zow (S:Sto):∀(k:Nat) (d:D) (p q:PyData),pyT S k d=some p->zak S k d=some q->p=q
 | 0,d,p,q,h,_=>by unfold pyT at h;cases h
 | k+1,.non,p,q,h,h'=>by unfold pyT at h;unfold zak at h';cases h;cases h';rfl
 | k+1,.bl b,p,q,h,h'=>by unfold pyT at h;unfold zak at h';cases h;cases h';rfl
 | k+1,.int i,p,q,h,h'=>by
  unfold pyT at h;unfold zak at h'
  obtain ⟨_,rfl⟩:=za3 h
  obtain ⟨_,rfl⟩:=za3 h'
  rfl
 | k+1,.str x,p,q,h,h'=>by unfold pyT at h;unfold zak at h';cases h;cases h';rfl
 | k+1,.fn a,p,q,h,h'=>by unfold pyT at h;cases h
 | k+1,.tup xs,p,q,h,h'=>by
  unfold pyT at h;unfold zak at h'
  obtain ⟨ds,h1,h⟩:=bnd h
  obtain ⟨es,h2,h'⟩:=bnd h'
  cases h;cases h'
  rw [py_agrees S k xs ds es h1 h2]
 | k+1,.ref n,p,q,h,h'=>by
  unfold pyT at h;unfold zak at h'
  obtain ⟨xs,h1,h'⟩:=bnd h'
  unfold lstOf at h1
  split at h
  ·rename_i e;rw [e] at h1;cases h1
  ·rename_i e;rw [e] at h1;cases h1
  ·cases h
termination_by k=>(k,0)
theorem py_agrees (S:Sto):∀(k:Nat) (xs:List D) (p q:List PyData),pyTs S k xs=some p->pyAll S k xs=some q->p=q
 | k,[],p,q,h,h'=>by unfold pyTs at h;unfold pyAll at h';cases h;cases h';rfl
 | k,x :: xs,p,q,h,h'=>by
  unfold pyTs at h;unfold pyAll at h'
  obtain ⟨d,h1,h⟩:=bnd h
  obtain ⟨ds,h2,h⟩:=bnd h
  obtain ⟨e,h3,h'⟩:=bnd h'
  obtain ⟨es,h4,h'⟩:=bnd h'
  cases h;cases h'
  rw [zow S k x d e h1 h3,py_agrees S k xs ds es h2 h4]
termination_by k xs=>(k,xs.length+1)
end
section
variable {X:Cx}{pins:List (Addr × Obj)}{σ:St}{H:Hp}{s:Shared}{ρ:List Addr}{S:Sto}
mutual
theorem zk2 (I:Inv X pins σ H s) (sim:Sim X.K ρ S H):∀(k:Nat) (d:D) (v:V) (u:Value) (p:PyData),RD ρ H d v->RelV v u->pyT S k d=some p->(∃as,Reads s.heap u p as/\sysModules ∉ as)/\p.showable=true/\p.depth<=k
 | 0,d,v,u,p,_,_,h=>by unfold pyT at h;cases h
 | k+1,.non,v,u,p,r,e,h=>by
  unfold pyT at h;cases h;cases r;cases e
  exact ⟨⟨_,.none,by simp⟩,rfl,Nat.zero_le _⟩
 | k+1,.bl b,v,u,p,r,e,h=>by
  unfold pyT at h;cases h;cases r;cases e
  exact ⟨⟨_,.bool b,by simp⟩,rfl,Nat.zero_le _⟩
 | k+1,.int i,v,u,p,r,e,h=>by
  unfold pyT at h
  obtain ⟨hz,e2⟩:=za3 h
  cases e2;cases r
  obtain ⟨t,rfl⟩:=e
  exact ⟨⟨_,.int i t,by simp⟩,by unfold PyData.showable;exact decide_eq_true hz,Nat.zero_le _⟩
 | k+1,.str x,v,u,p,r,e,h=>by
  unfold pyT at h;cases h;cases r
  obtain ⟨t,rfl⟩:=e
  exact ⟨⟨_,.str x t,by simp⟩,rfl,Nat.zero_le _⟩
 | k+1,.fn _,v,u,p,r,e,h=>by unfold pyT at h;cases h
 | k+1,.tup xs,v,u,p,r,e,h=>by
  unfold pyT at h
  obtain ⟨ds,h1,h⟩:=bnd h
  cases h
  cases r with
  | tup ha r =>
   cases e
   obtain ⟨its,rv,⟨o,ho,hc,n,hd⟩,hz⟩:=I.tuple (SqT.of ha)
   obtain ⟨⟨as,h2,hn⟩,h3,h5⟩:=readsTs_of I sim k xs _ _ ds r rv h1
   refine ⟨⟨as,.tuple ho hc hd (by simpa using h2),hn⟩,?_,?_⟩
   ·unfold PyData.showable;exact h3
   ·unfold PyData.depth;omega
 | k+1,.ref n,v,u,p,r,e,h=>by
  unfold pyT at h
  split at h
  ·rename_i e0
   cases h
   cases r with
   | @ref _ a hn =>
    cases e
    obtain ⟨vs,hH,r2⟩:=sim.at' n a _ hn e0
    obtain ⟨_,hd,ws,r0,o,es,ep,ho,hx,hdt,_,hp,_⟩:=I.hok a _ hH
    cases r0
    cases hes:es.toList with
    | nil =>
     refine ⟨⟨_,.dict (kvs:=[]) ho hx.1 hdt (by rw [hes];exact .nil) (by rw [hes];exact .nil),?_⟩,rfl,by unfold PyData.depth PyData.depthKv;omega⟩
     simp only [List.append_nil,List.mem_singleton]
     exact λz=>by subst z;simp at hd
    | cons e1 e2=>rw [hes] at hp;cases hp
  ·rename_i i d0 e0
   obtain ⟨hi,h⟩:i.natAbs.log2<1920/\((pyT S k d0).bind λp=>some (PyData.dict [(.int i,p)]))=some p:=by
    by_cases hi:i.natAbs.log2<1920
    ·rw [if_pos hi] at h;exact ⟨hi,h⟩
    ·rw [if_neg hi] at h;cases h
   obtain ⟨p0,h1,h⟩:=bnd h
   cases h
   cases r with
   | @ref _ a hn =>
    cases e
    obtain ⟨vs,hH,r2⟩:=sim.at' n a _ hn e0
    obtain ⟨w,rfl,rw'⟩:=r2.one
    obtain ⟨_,hd,ws,r0,o,es,ep,ho,hx,hdt,_,hp,_⟩:=I.hok a _ hH
    cases r0 with
    | @cons _ q0 _ _ hq t =>
     cases t
     obtain ⟨q1,q2⟩:=q0
     obtain ⟨hq1,hq2⟩:=hq
     cases hes:es.toList with
     | nil=>rw [hes] at hp;cases hp
     | cons e1 e2 =>
      rw [hes] at hp
      cases hp with
      | cons hk hval ht =>
       cases ht
       have hq1:Sum.inl i=q1:=hq1
       subst hq1
       have hval:e1.val=q2:=hval
       obtain ⟨⟨as,k1,k2⟩,k3,k4⟩:=zk2 I sim k d0 w q2 p0 rw' hq2 h1
       obtain ⟨i',t',e3,e4⟩|⟨x',t',e3,e4⟩:=zdj (show zeo (Sum.inl i) e1.key=true from hk)
       ·cases e3
        refine ⟨⟨_,.dict (kvs:=[(.int i,p0)]) ho hx.1 hdt (as:=[]) (bs:=as++[]) ?_ ?_,?_⟩,?_,?_⟩
        ·rw [hes]
         simp only [List.map_cons,List.map_nil]
         rw [e4]
         have:=ReadsAll.cons (h:=s.heap) (Reads.int i t') ReadsAll.nil
         simpa using this
        ·rw [hes]
         simp only [List.map_cons,List.map_nil]
         rw [hval]
         exact .cons k1 .nil
        ·simp only [List.append_nil,List.mem_append,List.mem_cons,List.not_mem_nil,or_false,not_or]
         exact ⟨λz=>by subst z;simp at hd,k2⟩
        ·unfold PyData.showable PyData.showableKv PyData.showableKv
         rw [k3]
         have:(PyData.int i).showable=true:=by unfold PyData.showable;exact decide_eq_true hi
         rw [this];rfl
        ·unfold PyData.depth PyData.depthKv PyData.depthKv
         have:(PyData.int i).depth=0:=rfl
         omega
       ·cases e3
  ·cases h
termination_by k=>(k,0)
theorem readsTs_of (I:Inv X pins σ H s) (sim:Sim X.K ρ S H):∀(k:Nat) (xs:List D) (vs:List V) (us:List Value) (ds:List PyData),RDs ρ H xs vs->Vals vs us->pyTs S k xs=some ds->(∃as,ReadsAll s.heap us ds as/\sysModules ∉ as)/\PyData.showableAll ds=true/\PyData.depthAll ds<=k
 | k,[],vs,us,ds,r,e,h=>by
  unfold pyTs at h;cases h;cases r;cases e
  exact ⟨⟨_,.nil,by simp⟩,rfl,Nat.zero_le _⟩
 | k,x :: xs,vs,us,ds,r,e,h=>by
  unfold pyTs at h
  obtain ⟨d,h1,h⟩:=bnd h
  obtain ⟨ds',h2,h⟩:=bnd h
  cases h
  cases r with
  | cons r1 r2 =>
   cases e with
   | cons e1 e2 =>
    obtain ⟨⟨as,q1,q5⟩,q2,q4⟩:=zk2 I sim k x _ _ d r1 e1 h1
    obtain ⟨⟨bs,p1,p5⟩,p2,p4⟩:=readsTs_of I sim k xs _ _ ds' r2 e2 h2
    refine ⟨⟨_,.cons q1 p1,by simp only [List.mem_append,not_or];exact ⟨q5,p5⟩⟩,?_,?_⟩
    ·unfold PyData.showableAll;rw [q2,p2];rfl
    ·unfold PyData.depthAll;omega
termination_by k xs=>(k,xs.length+1)
end
end
noncomputable def zc3:FM
 | [x],S=>(pyT S 140 x).bind λd=>if d.shown.length<=sizeLine then some (.str d.shown,S) else none
 | _,_=>none
section
variable {X:Cx}{a:Expr}{es:List Expr}{mA:AM}{pos p:Pos}
theorem zxm {k:Nat}(hr:Room k X.A):CallR X (.builtin "repr") (λxs H Q=>∃v ρ S d pd,xs=[v]/\Sim X.K ρ S H/\RD ρ H d v/\pyT S 140 d=some pd/\pd.shown.length<=sizeLine/\Q (.str pd.shown) H):=by
 intro pins s σ H xs us Q I r h
 obtain ⟨v,ρ,S,d,pd,rfl,sim,rd,hp,hz,q⟩:=h
 obtain ⟨u,rfl,ru⟩:=zcm r
 have key:=zk2 I sim 140 d v u pd rd ru hp
 have byRef:∀a,u=.ref a->wpAny (model X.prog X.w) X.A (call (.builtin "repr") [u]) (EP X pins σ Q) X.xe s:=λb hb=>by
  subst hb
  obtain ⟨⟨as,h1,hn⟩,h2,h4⟩:=key
  have hu:X.A.units+(pd.depth+1)<cLine:=by have:=hr.un;omega
  refine repr_of_reads' h1 h2 (λ_=>hn) hr.gd hu (λ_ _ e=>e) (λh' u tk hk=>?_) hz
  exact ⟨.str pd.shown,H,I.kept hk,⟨u,rfl⟩,q⟩
 have hp':=hp
 cases rd with
 | non=>cases ru;unfold pyT at hp';cases hp';exact P.repr_of_none ⟨.str _,H,I.tok _,⟨_,rfl⟩,q⟩
 | bl b=>cases ru;unfold pyT at hp';cases hp';exact P.repr_of_bool ⟨.str _,H,I.tok _,⟨_,by cases b <;> rfl⟩,q⟩
 | int i =>
  obtain ⟨t,rfl⟩:=ru
  unfold pyT at hp'
  obtain ⟨hi,e⟩:=za3 hp'
  cases e
  exact P.repr_of_int hi ⟨.str _,H,I.tok _,⟨_,rfl⟩,q⟩
 | str x=>obtain ⟨t,rfl⟩:=ru;unfold pyT at hp';cases hp';exact P.repr_of_str ⟨.str _,H,I.tok _,⟨_,rfl⟩,q⟩ hz
 | tup ha r=>exact byRef _ ru
 | ref hn=>exact byRef _ ru
 | fn b=>unfold pyT at hp';cases hp'
theorem zxn {K:QFg}:Fn3 K zc3 (λxs H Q=>∃v ρ S d pd,xs=[v]/\Sim K ρ S H/\RD ρ H d v/\pyT S 140 d=some pd/\pd.shown.length<=sizeLine/\Q (.str pd.shown) H):=by
 intro ρ S H xs vs v S' Q sim r h p
 unfold zc3 at h
 split at h
 ·obtain ⟨pd,h1,h⟩:=bnd h
  obtain ⟨hz,e⟩:=za3 h
  cases e
  obtain ⟨w,rfl,rw'⟩:=r.one
  exact ⟨w,ρ,_,_,pd,rfl,sim,rw',h1,hz,p ρ H _ (Ext.refl ..) sim (.str _)⟩
 ·cases h
theorem CallR.or3 {f:Value}{r r':List V->Hp->VK->Prop}(h:CallR X f r) (h':CallR X f r'):CallR X f (λxs H Q=>r xs H Q\/r' xs H Q):=by
 intro pins s σ H xs us Q I rr q
 rcases q with q|q
 ·exact h pins s σ H xs us Q I rr q
 ·exact h' pins s σ H xs us Q I rr q
noncomputable def zei:FM:=λxs S=>match zc3 xs S with|some v=>some v|none=>ze1 xs S
theorem zxo {K:QFg}{r r':List V->Hp->VK->Prop}(h:Fn3 K zc3 r) (h':Fn3 K ze1 r'):Fn3 K zei (λxs H Q=>r xs H Q\/r' xs H Q):=by
 intro ρ S H xs vs v S' Q sim rr hm p
 unfold zei at hm
 cases e:zc3 xs S with
 | some w=>rw [e] at hm;cases hm;exact .inl (h ρ S H xs vs _ _ Q sim rr e p)
 | none=>rw [e] at hm;exact .inr (h' ρ S H xs vs _ _ Q sim rr hm p)
end
theorem zxp {S:Sto}{x:D}{p:PyData}{Q:D->Sto->Prop}(h:zak S 140 x=some p\/pyT S 140 x=some p) (hz:p.shown.length<=sizeLine):Wo (zei [x] S) Q=Q (.str p.shown) S:=by
 have:zei [x] S=some (.str p.shown,S):=by
  unfold zei
  rcases h with h|h
  ·cases e:pyT S 140 x with
   | some q =>
    have:=zow S 140 x q p e h
    subst this
    have:zc3 [x] S=some (.str q.shown,S):=by unfold zc3;dsimp only;rw [e];show (if _ then _ else _)=_;rw [if_pos hz]
    rw [this]
   | none =>
    have:zc3 [x] S=none:=by unfold zc3;dsimp only;rw [e];rfl
    rw [this]
    unfold ze1;dsimp only;rw [h];show (if _ then _ else _)=_;rw [if_pos hz]
  ·have:zc3 [x] S=some (.str p.shown,S):=by unfold zc3;dsimp only;rw [h];show (if _ then _ else _)=_;rw [if_pos hz]
   rw [this]
 rw [this];exact zav
section
variable {prog:Program}{w:World}{A:Around}{E:Value->Shared->Prop}{s:Shared}
end
section
variable {P:Program}{w:World}{K:QFg}{elts:List Expr}{z:Nat}{tp:Pos}
end
open AutoSeq1
section
variable {prog:Program}{w:World}{A:Around}{E:Value->Shared->Prop}{s:Shared}
end
section
variable {X:Cx}{elts:List Expr}{z:Nat}{tp:Pos}
end
section
variable {K:QFg}
end
section
variable {X:Cx}{elts:List Expr}{z:Nat}{tp:Pos}{a:Expr}{mA:AM}{g:GM}{b:SM}{body:List Stmt}{p0 pos' pos:Pos}
end
theorem zk3 {α:Type}{c:Prop} [Decidable c] {a:Option α}{v:α}(h:(if c then a else none)=some v):c/\a=some v:=by
 by_cases hc:c
 ·rw [if_pos hc] at h;exact ⟨hc,h⟩
 ·rw [if_neg hc] at h;cases h
section
variable {prog:Program}{w:World}{A:Around}{E:Value->Shared->Prop}{s:Shared}
end
section
variable {X:Cx}{gs:GsM}{es:List Expr}{k n:Nat}{pos:Pos}
end
section
variable {X:Cx}{a:Expr}{ma:EM}{lo hi:Option Expr}{ml mh:OM}{p2 pos:Pos}
end
noncomputable abbrev zdc:=oI (λi j=>decide (0<=j/\j<=1000000/\i.natAbs<2 ^ 64)) λi j=>.int (i*2 ^ j.toNat)
section
variable {X:Cx}{a b:Expr}{ma mb:EM}{mA:AM}{es:List Expr}{pos p:Pos}
theorem ziv (ha:PE3 X a ma) (hb:PE3 X b mb):PE3 X (.BinOp a .LShift b pos) (eOp zdc ma mb):=zes zms (zif (λi j h=>by unfold zfg;exact of_decide_eq_true h) λ_ _ _ _=>.int _) ha hb
end
noncomputable def zk4:D->D->Sto->Option (D × Sto)
 | .str z,.int i,S=>if z.length<=sizeLine then (atI z.cps.toList i).bind λc=>some (.str ⟨#[c]⟩,S) else none
 | _,_,_=>none
noncomputable def za2:D->D->Sto->Option (D × Sto):=λx y S=>match dIx x y S with|some v=>some v|none=>zk4 x y S
theorem zxq {K:QFg}:Op3 K zk4 zjw:=by
 intro ρ S H x y x' y' v S' Q sim rx ry h p
 unfold zk4 at h
 split at h
 ·cases rx;cases ry
  split at h
  ·rename_i hz
   obtain ⟨c,h1,h⟩:=bnd h
   cases h
   exact ⟨_,_,c,rfl,rfl,hz,h1,p ρ H _ (Ext.refl ..) sim (.str _)⟩
  ·cases h
 ·cases h
theorem zxr {K:QFg}:Op3 K za2 (rIx K):=by
 intro ρ S H x y x' y' v S' Q sim rx ry hm p
 unfold za2 at hm
 cases e:dIx x y S with
 | some w=>rw [e] at hm;cases hm;exact zvq ρ S H x y x' y' _ _ Q sim rx ry e p
 | none=>rw [e] at hm;exact .inr (.inr (zxq ρ S H x y x' y' _ _ Q sim rx ry hm p))
noncomputable def zbj:FM
 | [.str z],S=>if z.length<=sizeLine then some (.int z.length,S) else none
 | xs,S=>zg7 xs S
noncomputable def zf6:FM
 | [.int i],S=>if i.natAbs.log2<1920 then some (.str (toString i),S) else none
 | [.str z],S=>none
 | _,_=>none
section
variable {X:Cx}{a b:Expr}{ma mb:EM}{mA:AM}{es:List Expr}{pos p:Pos}{K:QFg}
theorem zb3 (ha:PE3 X a ma) (hb:PE3 X b mb) (hs:zjv b:=by intro _ _;rfl):PE3 X (.Subscript a b pos) (eOp za2 ma mb):=PE.imp (zna znd ha hb hs) (zgz zxr)
theorem zxs:Fn3 K zbj (λxs H Q=>(∃p ys,xs=[.ref p]/\(SqL K H p ys\/SqT K H p ys)/\Q (.int ys.length) H)\/∃z,xs=[.str z]/\z.length<=sizeLine/\Q (.int z.length) H):=by
 intro ρ S H xs vs v S' Q sim r h p
 unfold zbj at h
 split at h
 ·obtain ⟨hz,e⟩:=za3 h
  cases e
  obtain ⟨w,rfl,rw'⟩:=r.one
  cases rw'
  exact .inr ⟨_,rfl,hz,p ρ H _ (Ext.refl ..) sim (.int _)⟩
 ·exact .inl (zvw ρ S H _ vs v S' Q sim r h p)
theorem zck (hg:Gl X "len") (hm:X.mg "len" = none) (ha:PA3 X (a :: es) mA) (he:starEach (a :: es) X.env=(false,eval a X.env) :: starEach es X.env:=by rfl) (hpl:(backTo pos (starEach es X.env)).any (·.1)=false:=by rfl):PE3 X (.Call (.Name "len" p) (a :: es) [] pos) (zaf zbj mA) :=
 zfn (call_len_seq.or zuq) zxs hg hm PySem.boot_len ha (by decide) (by decide) he hpl
theorem zxt:Fn3 K zf6 (λxs H Q=>∃i,xs=[.int i]/\i.natAbs.log2<1920/\Q (.str (toString i)) H):=by
 intro ρ S H xs vs v S' Q sim r h p
 unfold zf6 at h
 split at h
 ·obtain ⟨hz,e⟩:=za3 h
  cases e
  obtain ⟨w,rfl,rw'⟩:=r.one
  cases rw'
  exact ⟨_,rfl,hz,p ρ H _ (Ext.refl ..) sim (.str _)⟩
 ·cases h
 ·cases h
theorem zxu (hg:Gl X "str") (hm:X.mg "str" = none) (ha:PA3 X (a :: es) mA) (he:starEach (a :: es) X.env=(false,eval a X.env) :: starEach es X.env:=by rfl) (hpl:(backTo pos (starEach es X.env)).any (·.1)=false:=by rfl):PE3 X (.Call (.Name "str" p) (a :: es) [] pos) (zaf zf6 mA) :=
 zg3 zty zxt hg hm zwl ha (by decide) (by decide) he hpl
end
noncomputable def ziw:D->Option Key
 | .int i=>some (.inl i)
 | .str x=>some (.inr x)
 | _=>none
noncomputable def zej (kvs:List (Key × D)) (k:Key):Option D:=(kvs.find? λkv=>decide (kv.1=k)).map (·.2)
noncomputable def zhd (kvs:List (Key × D)) (k:Key) (v:D):List (Key × D):=if (kvs.any λkv=>decide (kv.1=k))=true then kvs.map (λkv=>if kv.1=k then (kv.1,v) else kv) else kvs++[(k,v)]
noncomputable def zhe (S:Sto) (n:Nat):Option (List (Key × D)):=match S[n]? with
 | some (.dct kvs)=>some kvs
 | _=>none
theorem zk5 {S:Sto}{n:Nat}{kvs:List (Key × D)}(h:zhe S n=some kvs):S[n]? = some (.dct kvs):=by
 unfold zhe at h
 split at h
 ·cases h;assumption
 ·cases h
section
variable {K:QFg}{ρ:List Addr}{H:Hp}{S:Sto}
theorem zox {k:Key}:∀{kvs:List (Key × D)}{vs:List V},RDs ρ H (kvs.map (·.2)) vs->(zej kvs k=none->zci ((kvs.map (·.1)).zip vs) k=none)/\∀d,zej kvs k=some d->∃v,zci ((kvs.map (·.1)).zip vs) k=some v/\RD ρ H d v
 | [],vs,r=>by
  cases r
  exact ⟨λ_=>rfl,λd h=>by cases h⟩
 | (k',d') :: kvs,vs,r=>by
  cases r with
  | @cons _ v _ vs r1 r2 =>
   by_cases e:k' = k
   ·have e1:zej ((k',d') :: kvs) k=some d':=by simp [zej,e]
    have e2:zci ((((k',d') :: kvs).map (·.1)).zip (v :: vs)) k=some v:=zh8 (p:=(k',v)) e
    rw [e1,e2]
    exact ⟨λz=>(by cases z),λd h=>(by cases h;exact ⟨v,rfl,r1⟩)⟩
   ·have e1:zej ((k',d') :: kvs) k=zej kvs k:=by simp [zej,e]
    have e2:zci ((((k',d') :: kvs).map (·.1)).zip (v :: vs)) k=zci ((kvs.map (·.1)).zip vs) k:=zh9 (p:=(k',v)) e
    rw [e1,e2]
    exact zox r2
theorem zoy (k:Key):∀{kvs:List (Key × D)}{vs:List V},RDs ρ H (kvs.map (·.2)) vs->(((kvs.map (·.1)).zip vs).any λkv=>decide (kv.1=k))=kvs.any λkv=>decide (kv.1=k)
 | [],vs,r=>by cases r;rfl
 | (k',d') :: kvs,vs,r=>by
  cases r with
  | @cons _ v _ vs r1 r2 =>
   show (decide (k' = k) || (((kvs.map (·.1)).zip vs).any λkv=>decide (kv.1=k)))=(decide (k' = k) || _)
   rw [zoy k r2]
theorem zxv {k:Key}{d:D}{v:V}(rv:RD ρ H d v) {kvs:List (Key × D)}{vs:List V}(r:RDs ρ H (kvs.map (·.2)) vs):∃ws,zb4 ((kvs.map (·.1)).zip vs) k v=((zhd kvs k d).map (·.1)).zip ws/\RDs ρ H ((zhd kvs k d).map (·.2)) ws:=by
 unfold zb4 zhd
 rw [zoy k r]
 by_cases e:(kvs.any λkv=>decide (kv.1=k))=true
 ·rw [if_pos e,if_pos e]
  clear e
  induction kvs generalizing vs with
  | nil=>cases r;exact ⟨[],rfl,.nil⟩
  | cons p kvs ih =>
   obtain ⟨k',d'⟩:=p
   cases r with
   | @cons _ u _ us r1 r2 =>
    obtain ⟨ws,h1,h2⟩:=ih r2
    by_cases e:k' = k
    ·refine ⟨v :: ws,?_,?_⟩
     ·simp only [List.map_cons,List.zip_cons_cons,if_pos e];rw [<-h1]
     ·simp only [List.map_cons,if_pos e];exact .cons rv h2
    ·refine ⟨u :: ws,?_,?_⟩
     ·simp only [List.map_cons,List.zip_cons_cons,if_neg e];rw [<-h1]
     ·simp only [List.map_cons,if_neg e];exact .cons r1 h2
 ·rw [if_neg e,if_neg e]
  refine ⟨vs++[v],?_,?_⟩
  ·rw [List.map_append,List.zip_append (by rw [qlm];have:=r.length;rw [qlm] at this;exact this)];rfl
  ·rw [List.map_append];exact r.append (.cons rv .nil)
theorem zoz {d:D}{v:V}{k:Key}(h:ziw d=some k) (r:RD ρ H d v):v=kV k:=by
 cases r <;> first|(cases h;rfl)|cases h
theorem Sim.dct {n:Nat}{kvs:List (Key × D)}(s:Sim K ρ S H) (h:S[n]? = some (.dct kvs)):∃a vs,ρ[n]? = some a/\H a=some (.dK ((kvs.map (·.1)).zip vs))/\RDs ρ H (kvs.map (·.2)) vs:=by
 have hl:n<ρ.length:=by rw [s.len];exact (qme h).1
 obtain ⟨vs,e,r⟩:=s.at' n _ _ (qge hl) h
 exact ⟨_,vs,qge hl,e,r⟩
end
noncomputable def zce:D->D->Sto->Option (D × Sto)
 | .ref n,y,S=>(zhe S n).bind λkvs=>(ziw y).bind λk=>(zej kvs k).bind λv=>some (v,S)
 | _,_,_=>none
def zxw:R2:=λx y H Q=>∃a v,x=.ref a/\DGet H a y (some v)/\Q v H
theorem zxx {K:QFg}:Op3 K zce zxw:=by
 intro ρ S H x y x' y' v S' Q sim rx ry h p
 unfold zce at h
 split at h
 ·obtain ⟨kvs,h1,h⟩:=bnd h
  obtain ⟨k,h2,h⟩:=bnd h
  obtain ⟨w,h3,h⟩:=bnd h
  cases h
  obtain ⟨a,vs,ha,hH,r⟩:=sim.dct (zk5 h1)
  obtain ⟨u,hu,ru⟩:=(zox r).2 _ h3
  cases rx with
  | ref hn =>
   rw [ha] at hn;cases hn
   have ey:=zoz h2 ry
   subst ey
   exact ⟨_,u,rfl,by rw [<-hu];exact DGet.k hH,p ρ H u (Ext.refl ..) sim ru⟩
 ·cases h
section
variable {X:Cx}{a b e:Expr}{ma mb me:EM}{pos pos':Pos}{k:Nat}
theorem zo0 (hr:Room k X.A):X.A.units+1<cLine:=by have:=hr.un;omega
theorem zek (hr:Room k X.A) (ha:PE3 X a ma) (hb:PE3 X b mb) (hs:zj2 b:=by intro _ _;rfl):PE3 X (.Subscript a b pos) (eOp zce ma mb):=PE.imp (zu9 (zo0 hr) ha hb hs) (zgz zxx)
end
noncomputable def zhf:D->D->D->Sto->Option Sto
 | .ref n,y,v,S=>(zhe S n).bind λkvs=>(ziw y).bind λk=>if kvs.length<sizeLine then some (S.set n (.dct (zhd kvs k v))) else none
 | _,_,_,_=>none
noncomputable def zf7 (o i:EM):GM:=λv l S=>(o l S).bind λp=>(i l p.2).bind λq=>(zhf p.1 q.1 v q.2).bind λS'=>some (l,S')
theorem zo1 (kvs:List (Key × V)):zfh (.dK kvs):=⟨λ_ z=>(by cases z),λ_ _ z=>(by cases z)⟩
section
variable {X:Cx}{o i value:Expr}{mo mi mv:EM}{pos pos':Pos}{k:Nat}
theorem zk6 (hr:Room k X.A) (ho:PE3 X o mo) (hi:PE3 X i mi) (hv:PE3 X value mv) (hs:swapsWith value (some (.Subscript o i pos')) pos.line X.env=pure false:=by rfl) :
  PS3 X (.Assign [.Subscript o i pos'] value pos) (zaq mv (zf7 mo mi)):=PS.imp (zva (zo0 hr) ho hi hv hs) λE σ H hx1_=>by
 obtain ⟨ρ,l,S,f,l',S',sim,ro,hm,p⟩:=hx1_
 obtain ⟨⟨d,S1⟩,h1,hm⟩:=bnd hm
 obtain ⟨⟨l2,S2⟩,h2,hm⟩:=bnd hm
 obtain ⟨⟨x,S3⟩,h3,h2⟩:=bnd h2
 obtain ⟨⟨y,S4⟩,h4,h2⟩:=bnd h2
 obtain ⟨S5,h5,h2⟩:=bnd h2
 cases h2;cases hm
 refine ⟨ρ,l,S,d,S1,sim,ro,h1,λρ1 H1 v' e1 s1 r1=>⟨ρ1,l,S1,x,S3,s1,ro.mono e1,h3,λρ2 H2 x' e2 s2 r2=>⟨ρ2,l,S3,y,S4,s2,(ro.mono e1).mono e2,h4,λρ3 H3 y' e3 s3 r3=>?_⟩⟩⟩
 cases r2 with
 | @ref n a' hn =>
  obtain ⟨kvs,q1,h5⟩:=bnd (show (zhe S4 n).bind (λkvs=>(ziw y).bind λk=>if kvs.length<sizeLine then some (S4.set n (.dct (zhd kvs k d))) else none)=some _ from h5)
  obtain ⟨ky,q2,h5⟩:=bnd h5
  obtain ⟨hz,e⟩:=za3 h5
  cases e
  obtain ⟨a,vs,ha,hH,r⟩:=s3.dct (zk5 q1)
  have r1':=r1.mono (e2.trans e3)
  have hn3:=e3.pre _ _ hn
  rw [ha] at hn3;cases hn3
  have ey:=zoz q2 r3
  subst ey
  have hl:((kvs.map (·.1)).zip vs).length=kvs.length:=by rw [List.length_zip,qlm];have:=r.length;rw [qlm] at this;omega
  obtain ⟨ws,hw1,hw2⟩:=zxv (k:=ky) r1' r
  refine ⟨_,_,rfl,DPut.k hH (by rw [hl];exact hz),?_⟩
  have ex:=znw (o:=.dK (zb4 ((kvs.map (·.1)).zip vs) ky v')) ha hH (zo1 _)
  refine p ρ3 _ σ ((e1.trans (e2.trans e3)).trans ex) (s3.setG ha (zk5 q1) rfl hH (zo1 _) ?_) ((((ro.mono e1).mono e2).mono e3).mono ex)
  exact ⟨ws,by rw [zbg,hw1],hw2.mono ex⟩
 | _=>cases h5
end
noncomputable def zk7 (k1:Str) (n:Nat) (k2:Str) (a:Int) (k3:Str) (b:Int):EM:=λl S=>match l[n]? with
 | some (some d)=>some (.ref S.length,S++[.dct [(Sum.inr k1,d),(Sum.inr k2,.int a),(Sum.inr k3,.int b)]])
 | _=>none
section
variable {X:Cx}{pos:Pos}
theorem zxy (n:Nat) {a b:Int}{j1 j2 j3 j4 j5:Nat}{p1 p2 p3 p4 p5 p6:Pos}{k1 k2 k3 x:Str}(h12:k1≠k2) (h13:k1≠k3) (h23:k2≠k3) (hN:X.N[n]? = some x:=by rfl) (hv:Vis X.env.scope x:=by first|exact Or.inl rfl|exact Or.inr (Or.inl rfl)|exact Or.inr (Or.inr rfl)) (hd:(x == ("__debug__":Str))=false:=by decide)
  (hcd:(x == ("__classdict__":Str))=false:=by decide) :
  PE3 X (.Dict [some (.Constant (.str k1) j1 p1),some (.Constant (.str k2) j2 p2),some (.Constant (.str k3) j3 p3)] [.Name x p4,.Constant (.int a) j4 p5,.Constant (.int b) j5 p6] pos) (zk7 k1 n k2 a k3 b) :=
 PE.imp (zve (zj4 zgs (zh3 hN hv hd hcd) (zj4 zgs zjm (zj4 zgs zjm zvc))) rfl rfl (by simp) (by simp)) λσ H Q hx2_=>by
  obtain ⟨ρ,l,S,v,S',sim,ro,hm,p⟩:=hx2_
  unfold zk7 at hm
  split at hm
  ·rename_i d e
   cases hm
   obtain ⟨w,h1,h2⟩:=ro.get n _ e
   intro q hq
   refine ⟨w,h1,zbg,[(Sum.inr k1,w),(Sum.inr k2,.int a),(Sum.inr k3,.int b)],rfl,by simp,?_⟩
   have em:zer [] [((Sum.inr k1:Key),w),(Sum.inr k2,.int a),(Sum.inr k3,.int b)]=[((Sum.inr k1:Key),w),(Sum.inr k2,.int a),(Sum.inr k3,.int b)]:=by
    simp [zer,zb4,h12,h13,h23]
   rw [em,zmg]
   refine p (ρ++[q]) _ _ (zfi hq) (sim.pushG hq ⟨[w,.int a,.int b],zbg,.cons (h2.mono (zfi hq)) (.cons (.int _) (.cons (.int _) .nil))⟩) (.ref (by rw [<-sim.len];exact za5 ρ q))
  ·cases hm
end
section
variable {X:Cx}
variable {o e:Expr}{mo m:EM}{apos cpos:Pos}
end
section
variable {P:Program}{w:World}{K:QFg}{elts:List Expr}{z:Nat}{tp:Pos}
end
section
variable {X:Cx}{elts:List Expr}{z:Nat}{tp:Pos}
end
section
variable {X:Cx}{elts:List Expr}{z:Nat}{tp:Pos}{a:Expr}{mA:AM}{g:GM}{b:SM}{body:List Stmt}{p0 pos' pos:Pos}
end
section
variable {X:Cx}{a b:Expr}{ma mb:EM}{pos:Pos}{k:Nat}
end
def zxz:V->Option Int->Option Int->Hp->VK->Prop:=λx lo hi H Q=>∃z,x=.str z/\z.length<=sizeLine/\Q (.str (Txt.slice z lo hi)) H
theorem zo2 {v:Value}{o:Option Int}(h:IsPart v o):∃l:Option (Int × Tok),v=partValue l/\o=l.map (·.1):=by
 cases h with
 | none=>exact ⟨none,rfl,rfl⟩
 | int i t=>exact ⟨some (i,t),rfl,rfl⟩
theorem zx0 {X:Cx}:SlR X zxz:=by
 intro pins s σ H x v vl vu lo hi sl Q I rx hs pl pu h
 obtain ⟨z,rfl,hz,q⟩:=h
 obtain ⟨t,rfl⟩:=rx
 obtain ⟨l,rfl,rfl⟩:=zo2 pl
 obtain ⟨u,rfl,rfl⟩:=zo2 pu
 refine ⟨"str",_,F.slot_str_getitem.lookup,typeIs_str _ _ _,?_⟩
 refine wpAny_getItem_str_slice (l:=l) (u:=u) (st:=none) hs rfl ?_
 refine post_val_or_str ⟨Nat.le_trans (Txt.slice_le z _ _) hz,λt' k=>?_⟩
 exact ⟨.str _,H,I.tok _,⟨t',rfl⟩,q⟩
noncomputable def zd1 (m:EM) (lo hi:OM):EM:=λl S=>(m l S).bind λp=>(lo l p.2).bind λq=>(hi l q.2).bind λr=>match p.1 with
 | .tup xs=>some (.tup (cutD xs q.1 r.1),r.2)
 | .ref n=>(lstOf r.2 n).bind λxs=>some (.ref r.2.length,r.2++[.lst (cutD xs q.1 r.1)])
 | .str z=>if z.length<=sizeLine then some (.str (Txt.slice z q.1 r.1),r.2) else none
 | _=>none
section
variable {X:Cx}{a:Expr}{ma:EM}{lo hi:Option Expr}{ml mh:OM}{p2 pos:Pos}
theorem zf8 (he:PE3 X a ma) (hl:PO3 X lo ml) (hu:PO3 X hi mh):PE3 X (.Subscript a (.Slice lo hi none p2) pos) (zd1 ma ml mh):=PE.imp (zui (((sl_tup.or zvs).or zup).or zx0) he hl hu) λσ H Q hx1_=>by
 obtain ⟨ρ,l,S,v,S',sim,ro,hm,p⟩:=hx1_
 obtain ⟨⟨x,S1⟩,h1,hm⟩:=bnd hm
 obtain ⟨⟨y,S2⟩,h2,hm⟩:=bnd hm
 obtain ⟨⟨z,S3⟩,h3,hm⟩:=bnd hm
 refine ⟨ρ,l,S,x,S1,sim,ro,h1,λρ1 H1 x' e1 s1 r1=>⟨ρ1,l,S1,y,S2,s1,ro.mono e1,h2,λρ2 H2 e2 s2=>⟨ρ2,l,S2,z,S3,s2,ro.mono (e1.trans e2),h3,λρ3 H3 e3 s3=>?_⟩⟩⟩
 have e13:=e1.trans (e2.trans e3)
 cases r1 with
 | @tup xs a vs ha r =>
  cases hm
  have ha3:=(e2.trans e3).tup _ _ ha
  have r3:=r.mono (e2.trans e3)
  have hlen:=r.length
  by_cases hw:HT.sIx vs.length 0 y=0/\HT.sIx vs.length vs.length z=vs.length
  ·refine .inl (.inl (.inr ⟨a,vs,rfl,SqT.of ha3,hw,?_⟩))
   have:=zvt xs y z (by rw [hlen];exact hw)
   dsimp only at p
   rw [this] at p
   exact p ρ3 H3 _ e13 s3 (.tup ha3 r3)
  ·refine .inl (.inl (.inl ⟨a,vs,rfl,SqT.of ha3,hw,?_⟩))
   have rc:RDs ρ3 H3 (cutD xs y z) (zdk vs y z):=by
    unfold cutD zdk
    rw [hlen]
    exact (r3.drop _).take _
   exact zg2 s3 rc (Pv.ext p e13)
 | @ref j b hj =>
  obtain ⟨xs,hx,hm⟩:=bnd (show (lstOf S3 j).bind (λxs=>some (D.ref S3.length,S3++[.lst (cutD xs y z)]))=some (v,S') from hm)
  cases hm
  obtain ⟨c,us,hc,sq,rv⟩:=s3.lstOf hx
  have:=(e2.trans e3).pre _ _ hj
  rw [this] at hc;cases hc
  have rc:RDs ρ3 H3 (cutD xs y z) (zdk us y z):=by
   unfold cutD zdk
   rw [rv.length]
   exact (rv.drop _).take _
  exact .inl (.inr ⟨b,us,rfl,sq,zfm s3 rc (Pv.ext p e13)⟩)
 | str t =>
  obtain ⟨hz,e⟩:=za3 (show (if t.length<=sizeLine then some (D.str (Txt.slice t y z),S3) else none)=some (v,S') from hm)
  cases e
  exact .inr ⟨t,rfl,hz,p ρ3 H3 _ e13 s3 (.str _)⟩
 | _=>cases hm
end
noncomputable def zk8:D->D->Sto->Option (D × Sto)
 | .str i,.str j,S=>if i.length+j.length<=sizeLine then some (.str (i++j),S) else none
 | _,_,_=>none
noncomputable def zbf:D->D->Sto->Option (D × Sto):=λx y S=>match zk8 x y S with|some v=>some v|none=>zki x y S
theorem op3_plusS {K:QFg}:Op3 K zk8 (λx y H Q=>∃i j,x=.str i/\y=.str j/\i.length+j.length<=sizeLine/\Q (.str (i++j)) H):=by
 intro ρ S H x y x' y' v S' Q sim rx ry h p
 unfold zk8 at h
 split at h
 ·obtain ⟨hz,e⟩:=za3 h
  cases e;cases rx;cases ry
  exact ⟨_,_,rfl,rfl,hz,p ρ H _ (Ext.refl ..) sim (.str _)⟩
 ·cases h
theorem zca {X:Cx}{a b:Expr}{ma mb:EM}{pos:Pos}(ha:PE3 X a ma) (hb:PE3 X b mb):PE3 X (.BinOp a .Add b pos) (eOp zbf ma mb):=zes (op_add_str.or (op_add.or ((op_catT.or zvu).or zux))) (op3_plusS.or zwj) ha hb
noncomputable def zhg:FM
 | [.str z],S=>(intText? z).bind λn=>if z.length<=640 then some (.int n,S) else none
 | xs,S=>zka xs S
section
variable {X:Cx}{a:Expr}{es:List Expr}{mA:AM}{pos p:Pos}{K:QFg}
theorem call_int_text:CallR X (.type "int") (λxs H Q=>∃z n,xs=[.str z]/\intText? z=some n/\z.length<=640/\Q (.int n) H):=by
 intro pins s σ H xs us Q I r h
 obtain ⟨z,n,rfl,h1,h2,q⟩:=h
 obtain ⟨u,rfl,ru⟩:=zcm r
 obtain ⟨t,rfl⟩:=ru
 exact PySem.W.KIN.call_text h1 h2 ⟨.int n,H,I.tok _,⟨_,rfl⟩,q⟩
theorem zx1:Fn3 K zhg (λxs H Q=>(∃z n,xs=[.str z]/\intText? z=some n/\z.length<=640/\Q (.int n) H)\/((∃i,xs=[.int i]/\Q (.int i) H)\/∃k,xs=[.bl k]/\Q (.int (if k then 1 else 0)) H)):=by
 intro ρ S H xs vs v S' Q sim r h p
 unfold zhg at h
 split at h
 ·obtain ⟨n,h1,h⟩:=bnd h
  obtain ⟨hz,e⟩:=za3 h
  cases e
  obtain ⟨w,rfl,rw'⟩:=r.one
  cases rw'
  exact .inl ⟨_,_,rfl,h1,hz,p ρ H _ (Ext.refl ..) sim (.int _)⟩
 ·exact .inr (zvy ρ S H _ vs v S' Q sim r h p)
theorem zx2 (hg:Gl X "int") (hm:X.mg "int" = none) (ha:PA3 X (a :: es) mA) (he:starEach (a :: es) X.env=(false,eval a X.env) :: starEach es X.env:=by rfl) (hpl:(backTo pos (starEach es X.env)).any (·.1)=false:=by rfl):PE3 X (.Call (.Name "int" p) (a :: es) [] pos) (zaf zhg mA) :=
 zg3 (call_int_text.or ztx) zx1 hg hm zkj ha (by decide) (by decide) he hpl
end
section
variable {X:Cx}
variable {o e f:Expr}{mo m m':EM}{apos cpos:Pos}
end
noncomputable def zdo:List D->Option (List Int)
 | []=>some []
 | .int i :: r=>(zdo r).bind λns=>some (i :: ns)
 | _=>none
theorem zk9 {ρ:List Addr}{H:Hp}:∀{xs:List D}{ns:List Int}{vs:List V},zdo xs=some ns->RDs ρ H xs vs->vs=ns.map V.int
 | [],ts,vs,h,r=>by cases h;cases r;rfl
 | x :: xs,ts,vs,h,r=>by
  cases r with
  | cons r1 r2 =>
   cases r1 with
   | int z =>
    obtain ⟨ts',h1,h⟩:=bnd (show (zdo xs).bind (λts=>some (z :: ts))=some ts from h)
    cases h
    rw [zk9 h1 r2];rfl
   | _=>cases h
section
variable {X:Cx}
variable {a:Expr}{es:List Expr}{mA:AM}{p pos:Pos}
end
section
variable {prog:Program}{w:World}{A:Around}{E:Value->Shared->Prop}{s:Shared}
end
section
variable {P:Program}{w:World}{K:QFg}{tg:Expr}
end
section
variable {X:Cx}{tg:Expr}
end
section
variable {X:Cx}{tgt:Expr}{a:Expr}{mA:AM}{p0 pos':Pos}
end
section
variable {X:Cx}
variable {a:Expr}{es:List Expr}{mA:AM}{pos p:Pos}
end
section
variable {X:Cx}{a b:Expr}{ma mb:EM}{pos:Pos}
end
section
variable {prog:Program}{w:World}{A:Around}{R:Result->Shared->Prop}{s:Shared}
end
section
variable {K:QFg}{ρ:List Addr}{H:Hp}{S:Sto}
end
section
variable {X:Cx}{tg:Expr}
end
section
variable {X:Cx}{tgt iter:Expr}{m:EM}
end
section
variable {X:Cx}{a b:Expr}{ma mb:EM}{pos:Pos}{k:Nat}
end
open PySem.W
def Fly (h:Heap) (e C T:Addr):Prop:=∃oe vs oT ts a0,h.get? e=some oe/\oe.cls=.ref C/\oe.data=.fields vs/\vs[0]? = some a0/\vs[1]? = some (.ref T)/\T≠e/\h.get? T=some oT/\oT.data=.fields ts/\ts[3]? = some .none
structure Tr (fs:List Addr) (e T:Addr) (h h':Heap):Prop where
 keep:∀b o,b ∉ fs->b≠e->b≠T->h.get? b=some o->h'.get? b=some o
 slot:∀b o,b∈fs->h.get? b=some o->(∀vs,o.data≠.fields vs)->∃sl,h'.get? b=some { o with slots:=sl }
section
variable {M:Model}{A:Around}{E:Value->Shared->Prop}{s:Shared}{base:Heap}{env:Env}{outer:List Env}{L e C T:Addr}{Q:Unit->Shared->Prop}
theorem zla {l:List Env}:∀env∈l,∀a,env.frame=some a->a∈frs l:=λenv he a ha=>List.mem_filterMap.mpr ⟨env,he,ha⟩
theorem zo3 (hfr:A.frames=some (env :: outer)) (hl:s.heap.FunFrames base (env :: outer)) (hf:env.frame=some L) (fl:Fly s.heap e C T)
  (hQ:∀h' T',Tr (frs (env :: outer)) e T s.heap h'->Fly h' e C T'->(T' = T\/s.heap.get? T' = none)->Q () { s with heap:=h' }):wpAny M A (leaving env (.ref e)) Q E s:=by
 obtain ⟨oe,vs,oT,ts,a0,he,hc,hd,h0,h1,hTe,hT,hdT,h3⟩:=fl
 refine wpAny_leaving_nextW (base:=hideAll s.heap (e :: T :: frs (env :: outer))) (cls:=.ref C) (a0:=a0) hfr (funFrames_hide hl λv hv a ha=>List.mem_cons_of_mem _ (List.mem_cons_of_mem _ (zla v hv a ha))) hf ⟨oe,vs,T,oT,ts,he,⟨hc,h0⟩,hd,h1,hideAll_none _ (by simp),hTe,hT,hdT,h3⟩ (λb o q=>of_hideAll _ q) (hideAll_none _ (by simp)) λh' hL=>?_
 obtain ⟨k1,k2,⟨oe',vs',T',oT',ts',e1,⟨c1,z1⟩,d1,f1,n1,ne1,g1,d1',t1⟩,k4⟩:=hL
 refine hQ h' T' ⟨λb o hb h2 h3 q=>k1 b o (hideAll_get _ q (by simp only [List.mem_cons,not_or];exact ⟨h2,h3,hb⟩)),λb o _ q hn=>k4 b o q hn⟩ ⟨oe',vs',oT',ts',a0,e1,c1,d1,z1,f1,ne1,g1,d1',t1⟩ ?_
 cases q:s.heap.get? T' with
 | none=>exact .inr rfl
 | some o =>
  refine .inl ?_
  by_cases hm:T'∈e :: T :: frs (env :: outer)
  ·rcases List.mem_cons.mp hm with z|z
   ·exact absurd z ne1
   ·rcases List.mem_cons.mp z with z|z
    ·exact z
    ·obtain ⟨_,o2,ho2,hnf⟩:=hl.mem z
     rw [q] at ho2;cases ho2
     obtain ⟨sl,hs⟩:=k4 T' o q hnf
     rw [g1] at hs;cases hs
     exact absurd d1' (hnf ts')
  ·rw [hideAll_get _ q hm] at n1;cases n1
def New (h:Heap) (e C:Addr):Prop:=∃oe vs a0,h.get? e=some oe/\oe.cls=.ref C/\oe.data=.fields vs/\vs[0]? = some a0/\vs[1]? = some .none
theorem zx3 (hfr:A.frames=some (env :: outer)) (hl:s.heap.FunFrames base (env :: outer)) (hf:env.frame=some L) (fl:New s.heap e C)
  (hQ:∀h' T',Tr (frs (env :: outer)) e e s.heap h'->Fly h' e C T'->s.heap.get? T' = none->Q () { s with heap:=h' }):wpAny M A (leaving env (.ref e)) Q E s:=by
 obtain ⟨oe,vs,a0,he,hc,hd,h0,h1⟩:=fl
 refine wpAny_leaving_firstW (base:=hideAll s.heap (e :: frs (env :: outer))) (a0:=a0) hfr (funFrames_hide hl λv hv a ha=>List.mem_cons_of_mem _ (zla v hv a ha)) hf he (λb o q=>of_hideAll _ q) (hideAll_none _ (by simp)) hd h1 h0 λh' hL=>?_
 obtain ⟨k1,k2,⟨oe',vs',T',oT',ts',e1,⟨c1,z1⟩,d1,f1,n1,ne1,g1,d1',t1⟩,k4⟩:=hL
 refine hQ h' T' ⟨λb o hb h2 h3 q=>k1 b o (hideAll_get _ q (by simp only [List.mem_cons,not_or];exact ⟨h2,hb⟩)),λb o _ q hn=>k4 b o q hn⟩ ⟨oe',vs',oT',ts',a0,e1,c1.trans hc,d1,z1,f1,ne1,g1,d1',t1⟩ ?_
 cases q:s.heap.get? T' with
 | none=>rfl
 | some o =>
  by_cases hm:T'∈e :: frs (env :: outer)
  ·rcases List.mem_cons.mp hm with z|z
   ·exact absurd z ne1
   ·obtain ⟨_,o2,ho2,hnf⟩:=hl.mem z
    rw [q] at ho2;cases ho2
    obtain ⟨sl,hs⟩:=k4 T' o q hnf
    rw [g1] at hs;cases hs
    exact absurd d1' (hnf ts')
  ·rw [hideAll_get _ q hm] at n1;cases n1
end
theorem ObjOk.there {P:Program}{w:World}{H:Hp}{h:Heap}{a:Addr}{o:HO}(x:ObjOk P w H h a o):∃q,h.get? a=some q:=by
 cases o with
 | lst xs=>obtain ⟨_,_,_,_,e⟩:=x;exact ⟨_,e⟩
 | tup xs=>obtain ⟨_,_,_,ob,e,_⟩:=x;exact ⟨_,e⟩
 | dK kvs=>obtain ⟨_,_,_,_,o,_,_,e,_⟩:=x;exact ⟨_,e⟩
 | dT kvs=>obtain ⟨_,_,_,_,o,_,_,e,_⟩:=x;exact ⟨_,e⟩
 | set S n=>obtain ⟨o,_,_,_,e,_⟩:=x;exact ⟨_,e⟩
 | ins C dx fs=>obtain ⟨_,_,_,e,_⟩:=x;exact ⟨_,e⟩
 | own y=>obtain ⟨_,e⟩:=x;exact ⟨_,e⟩
 | xd fs=>obtain ⟨_,⟨_,_,_,e,_⟩,_⟩:=x;exact ⟨_,e⟩
 | rng lo hi=>obtain ⟨_,_,_,e⟩:=x;exact ⟨_,e⟩
 | frz ob u=>obtain ⟨e,_⟩:=x;exact ⟨_,e⟩
 | tbl ps=>exact ⟨_,x⟩
 | met f y=>exact ⟨_,x⟩
 | ext φ=>obtain ⟨_,e,_⟩:=x;exact e
def CX1 (P:Program) (w:World):CXT:=λouter H s E x s'=>∃a C T H',x=.ref a/\s'.os=s.os/\AllBare s'.gens/\Un (frs outer) [] H H' s.heap s'.heap/\HOk P w H' s'.heap /\
 s.heap.get? a=none/\s.heap.get? T=none/\Fly s'.heap a C T/\H' a=none/\H' T=none/\E (.ref C) none H'
section
variable {P:Program}{w:World}{K:QFg}{mg:Str->Option Value}{base:Heap}{N:List Str}{qual:Str}{scope:Scope}{f:Addr}{cd:Value}{A:Around}{outer:List Env}{s:Shared}{H:Hp}{E:XK}
theorem zo4 {pins:List (Addr × Obj)}{σ:St}{H1:Hp}{s1:Shared}{a C T T':Addr}{h':Heap}(I:Inv (zbh (CX1 P w) P w K mg base N qual scope f cd A outer s H E) pins σ H1 s1)
  (na:s.heap.get? a=none) (nT:s.heap.get? T=none) (ha:H1 a=none) (hT:H1 T=none) (hE:E (.ref C) none H1)
  (tr:Tr (frs (envOfC qual scope s.heap.objs.size f cd :: outer)) a T s1.heap h') (fl:Fly h' a C T') (hT':T' = T\/s1.heap.get? T' = none) :
  CX1 P w outer H s E (.ref a) { s1 with heap:=h' }:=by
 have hsub:∀b,b∈frs (envOfC qual scope s.heap.objs.size f cd :: outer)->b=s.heap.objs.size\/b∈frs outer:=λb hb=>by
  rcases List.mem_cons.mp (I.stkSub b hb) with z|z
  ·exact .inl z
  ·exact .inr z
 have hne:∀b o,s.heap.get? b=some o->b≠a/\b≠T/\b≠s.heap.objs.size:=λb o q=>⟨λz=>(by rw [z,na] at q;cases q),λz=>(by rw [z,nT] at q;cases q),Nat.ne_of_lt (Heap.lt_size q)⟩
 have nT':s.heap.get? T' = none:=by
  rcases hT' with rfl|q
  ·exact nT
  ·cases z:s.heap.get? T' with
   | none=>rfl
   | some o=>obtain ⟨o',e⟩:=I.base.there T' o z (by simp [zbh]);rw [q] at e;cases e
 have hT'':H1 T' = none:=by
  rcases hT' with rfl|q
  ·exact hT
  ·cases z:H1 T' with
   | none=>rfl
   | some u=>obtain ⟨o',e⟩:=ObjOk.there (I.hok T' u z);rw [q] at e;cases e
 refine ⟨a,C,T',H1,rfl,I.os,I.bare,⟨λb o q n hb hx=>?_,λb o q n hb hx=>?_,λb o q n hx=>?_,λb o q hx=>?_,I.base.tups,I.base.frzs,I.base.tbls⟩,λb u e=>?_,na,nT',fl,ha,hT'',hE⟩
 ·obtain ⟨h1,h2,h3⟩:=hne b o q
  exact tr.keep b o (λz=>(hsub b z).elim h3 hb) h1 h2 (I.base.keep b o q n hb (by simp [zbh]))
 ·obtain ⟨sl,e⟩:=I.base.slot b o q n hb (by simp [zbh])
  have hb':b∈frs (envOfC qual scope s.heap.objs.size f cd :: outer):=by
   unfold frs at hb ⊢
   rw [List.filterMap_cons]
   split
   ·exact hb
   ·exact List.mem_cons_of_mem _ hb
  obtain ⟨_,o2,ho2,hnf⟩:=I.funs.mem hb
  rw [e] at ho2;cases ho2
  obtain ⟨sl',e'⟩:=tr.slot b _ hb' e hnf
  exact ⟨sl',e'⟩
 ·exact I.base.free b o q n (by simp [zbh])
 ·obtain ⟨h1,h2,h3⟩:=hne b o q
  obtain ⟨o',e⟩:=I.base.there b o q (by simp [zbh])
  by_cases hb:b∈frs (envOfC qual scope s.heap.objs.size f cd :: outer)
  ·obtain ⟨_,o2,ho2,hnf⟩:=I.stack.mem hb
   rw [e] at ho2;cases ho2
   obtain ⟨sl,e'⟩:=tr.slot b _ hb e hnf
   exact ⟨_,e'⟩
  ·exact ⟨o',tr.keep b o' hb h1 h2 e⟩
 ·refine (I.hok b u e).stay (λc v hc q=>?_) (λ_ q=>q) λ_ _ q=>q
  have hcn:H1 c≠none:=by
   rcases hc with z|z
   ·rw [z,e];intro y;cases y
   ·rw [z];intro y;cases y
  exact tr.keep c v (λz=>hcn (I.stkFree c z)) (λz=>hcn (by rw [z];exact ha)) (λz=>hcn (by rw [z];exact hT)) q
theorem zx4 {pins:List (Addr × Obj)}{σ:St}{H1:Hp}{s1:Shared}{a C T:Addr}(I:Inv (zbh (CX1 P w) P w K mg base N qual scope f cd A outer s H E) pins σ H1 s1)
  (na:s.heap.get? a=none) (nT:s.heap.get? T=none) (ha:H1 a=none) (hT:H1 T=none) (fl:Fly s1.heap a C T) (hE:E (.ref C) none H1) :
  (zbh (CX1 P w) P w K mg base N qual scope f cd A outer s H E).xe (.ref a) s1 :=
 zo3 (L:=s.heap.objs.size) I.ok.frames I.stack rfl fl λh' T' tr fl' hT'=>zo4 I na nT ha hT hE tr fl' hT'
theorem zx5 {pins:List (Addr × Obj)}{σ:St}{H1:Hp}{s1:Shared}{a C:Addr}(I:Inv (zbh (CX1 P w) P w K mg base N qual scope f cd A outer s H E) pins σ H1 s1)
  (na:s.heap.get? a=none) (ha:H1 a=none) (fl:New s1.heap a C) (hE:E (.ref C) none H1) :
  (zbh (CX1 P w) P w K mg base N qual scope f cd A outer s H E).xe (.ref a) s1 :=
 zx3 (L:=s.heap.objs.size) I.ok.frames I.stack rfl fl λh' T' tr fl' hT'=>zo4 I na na ha ha hE tr fl' (.inr hT')
theorem zx6:zgw (CX1 P w) (zbh (CX1 P w) P w K mg base N qual scope f cd A outer s H E) E:=by
 rintro pins σ H1 s1 e s2 I ⟨a,C,T,H',rfl,ho,hg,un,hok,na,nT,fl,ha,hT,hE⟩
 have I2:=I.call' (s':=s2) (ch:=[]) ho un hok hg (λb hb=>by cases hb)
 have up:∀b,s1.heap.get? b=none->s.heap.get? b=none:=λb q=>by
  cases z:s.heap.get? b with
  | none=>rfl
  | some o=>obtain ⟨o',e⟩:=I.base.there b o z (by simp [zbh]);rw [q] at e;cases e
 exact zx4 I2 (up a na) (up T nT) ha hT fl hE
end
abbrev ZM:=Lo->Sto->Option (Str × Sto)
abbrev ZF:=List D->Sto->Option (Str × Sto)
def Rz (K:QFg) (E:XK) (CA:Str->Addr) (r:ZM):L2.St->Hp->Prop:=λσ H=>∃ρ l S C S',Sim K ρ S H/\RO ρ H l σ/\r l S=some (C,S')/\∀ρ' H',Ext ρ H ρ' H'->Sim K ρ' S' H'->E (.ref (CA C)) none H'
def PEz (X:Cx) (E:XK) (CA:Str->Addr) (e:Expr) (r:ZM):Prop:=PE X e (λσ H _=>Rz X.K E CA r σ H)
def PAz (X:Cx) (E:XK) (CA:Str->Addr) (es:List Expr) (r:ZM):Prop:=PA X es (λσ H _=>Rz X.K E CA r σ H)
def PSz (X:Cx) (E:XK) (CA:Str->Addr) (st:Stmt) (r:ZM):Prop:=PS X st (λ_ σ H=>Rz X.K E CA r σ H)
def zel (X:Cx) (E:XK) (CA:Str->Addr) (st:List Stmt) (r:ZM):Prop:=PSs X st (λ_ σ H=>Rz X.K E CA r σ H)
def spZ (K:QFg) (CA:Str->Addr) (n:Nat) (rx:ZF):Sp:=λvs H _ E=>vs.length=n/\∃ρ ds S C S',Sim K ρ S H/\RDs ρ H ds vs/\rx ds S=some (C,S')/\∀ρ' H',Ext ρ H ρ' H'->Sim K ρ' S' H'->E (.ref (CA C)) none H'
noncomputable def zlb:ZM:=λ_ _=>none
noncomputable def zlc (m:SM) (r:ZM):ZM:=λl S=>(m l S).bind λq=>match q.1 with
 | .nx=>r q.2.1 q.2.2
 | _=>none
noncomputable def zIf (t:TM) (r q:ZM):ZM:=λl S=>(t l S).bind λp=>if p.1=true then r l p.2 else q l p.2
noncomputable def zf9 (m:EM) (r:ZM):ZM:=λl S=>(m l S).bind λp=>r l p.2
noncomputable def zld (rx:ZF) (mA:AM):ZM:=λl S=>(mA l S).bind λp=>rx p.1 p.2
section
variable {X:Cx}{E:XK}{CA:Str->Addr}{e:Expr}{es:List Expr}{st:Stmt}{rest:List Stmt}{r q:ZM}{m:EM}{b:SM}{pos:Pos}
theorem Rz.none {K:QFg}{σ:L2.St}{H:Hp}(h:Rz K E CA zlb σ H):False:=by
 obtain ⟨ρ,l,S,C,S',sim,ro,hm,p⟩:=h;cases hm
theorem zx7:zel X E CA rest zlb:=λ_ _ _ _ _ _ h=>h.none.elim
theorem paF:PA X es (λ_ _ _=>False):=λ_ _ _ _ _ _ _ h=>h.elim
theorem zx8:PSs X rest (λ_ _ _=>False):=λ_ _ _ _ _ _ h=>h.elim
theorem zx9 (h:PEz X E CA e r) (hs:starEach (e :: es) X.env=(false,eval e X.env) :: starEach es X.env:=by rfl):PAz X E CA (e :: es) r :=
 λpos pins s σ H Q I q=>zcn (t:=λ_ _ _=>False) h paF hs pos pins s σ H Q I q
theorem zo5 (h:PE3 X e m) (h2:PAz X E CA es r) (hs:starEach (e :: es) X.env=(false,eval e X.env) :: starEach es X.env:=by rfl):PAz X E CA (e :: es) (zf9 m r) :=
 λpos pins s σ H Q I ⟨ρ,l,S,C,S',sim,ro,hm,p⟩=>zcn h h2 hs pos pins s σ H Q I (by
  obtain ⟨⟨x,S1⟩,q1,hm⟩:=bnd hm
  exact ⟨ρ,l,S,x,S1,sim,ro,q1,λρ1 H1 x' e1 s1 r1=>⟨ρ1,l,S1,C,S',s1,ro.mono e1,hm,λρ2 H2 e2 s2=>p ρ2 H2 (e1.trans e2) s2⟩⟩)
theorem zya (h:PEz X E CA e r):PSz X E CA (.Return (some e) pos) r:=λpins s σ H D I q=>zmi h pins s σ H D I q
theorem zle (h:PSz X E CA st r):zel X E CA (st :: rest) r:=λpins s σ H D I q=>zjn (u:=λ_ _ _=>False) h zx8 pins s σ H D I q
theorem zyb (h:PS3 X st b) (h2:zel X E CA rest r):zel X E CA (st :: rest) (zlc b r):=λpins s σ H D I ⟨ρ,l,S,C,S',sim,ro,hm,p⟩=>zjn h h2 pins s σ H D I (by
 obtain ⟨⟨g,l1,S1⟩,q1,hm⟩:=bnd hm
 refine ⟨ρ,l,S,g,l1,S1,sim,ro,q1,λρ1 H1 σ1 e1 s1 r1=>?_⟩
 cases g with
 | nx=>exact ⟨ρ1,l1,S1,C,S',s1,r1,hm,λρ2 H2 e2 s2=>p ρ2 H2 (e1.trans e2) s2⟩
 | _=>cases hm)
theorem zyc {c:Expr}{a d:List Stmt}{mc:TM}(hc:PT3 X c mc) (ha:zel X E CA a r) (hb:zel X E CA d q):PSz X E CA (.If c a d pos) (zIf mc r q):=λpins s σ H D I ⟨ρ,l,S,C,S',sim,ro,hm,p⟩=>zmj hc ha hb pins s σ H D I (by
 obtain ⟨⟨x,S1⟩,q1,hm⟩:=bnd hm
 refine ⟨ρ,l,S,x,S1,sim,ro,q1,λρ1 H1 e1 s1=>?_⟩
 cases x with
 | true=>exact zeq ⟨ρ1,l,S1,C,S',s1,ro.mono e1,hm,λρ2 H2 e2 s2=>p ρ2 H2 (e1.trans e2) s2⟩
 | false=>exact zep ⟨ρ1,l,S1,C,S',s1,ro.mono e1,hm,λρ2 H2 e2 s2=>p ρ2 H2 (e1.trans e2) s2⟩)
end
def zcl (P:Program) (w:World) (K:QFg) (mg:Str->Option Value) (base:Heap) (CA:Str->Addr) (x:Str) (k n:Nat) (rx:ZF):Prop :=
 ∃(f:Addr) (fd:FuncData) (ps:List Str),FnOk P w K mg base (CX1 P w) k f fd ps (spZ K CA n rx)/\mg x=some (.ref f)/\PySem.W.keepIn K (.ref f)=true/\Binds K fd ps []
section
variable {X:Cx}{E:XK}{CA:Str->Addr}{a:Expr}{es:List Expr}{mA:AM}{pos p:Pos}{x:Str}{k j n:Nat}{rx:ZF}
theorem zyd (F:zcl X.prog X.w X.K X.mg X.base CA x k n rx) (hx:zgw (CX1 X.prog X.w) X E) (hr:Room j X.A) (hkj:k<=j) (hg:Gl X x)
  (ha:PA3 X (a :: es) mA) (hl:∀l S v S',mA l S=some (v,S')->v.length=n) (hdb:(x == ("__debug__":Str))=false:=by decide) (he:starEach (a :: es) X.env=(false,eval a X.env) :: starEach es X.env:=by rfl) (hpl:(backTo pos (starEach es X.env)).any (·.1)=false:=by rfl) :
  PEz X E CA (.Call (.Name x p) (a :: es) [] pos) (zld rx mA):=by
 obtain ⟨f,fd,ps,F,hm,hk,hb⟩:=F
 refine λpins s σ H Q I ⟨ρ,l,S,C,S',sim,ro,hz,p⟩=>zjr F (hr.mono hkj) hg hm hk hb .nil hx ha hdb he hpl pins s σ H Q I ?_
 obtain ⟨⟨ds,S1⟩,q1,hz⟩:=bnd hz
 refine ⟨ρ,l,S,ds,S1,sim,ro,q1,λρ1 H1 vs e1 s1 r1=>?_⟩
 show spZ X.K CA n rx (vs++[]) H1 Q E
 rw [List.append_nil]
 exact ⟨by rw [<-r1.length];exact hl _ _ _ _ q1,ρ1,ds,S1,C,S',s1,r1,hz,λρ2 H2 e2 s2=>p ρ2 H2 (e1.trans e2) s2⟩
end
noncomputable abbrev zc4:List Value:=[.type "ValueError",.type "Exception",.type "BaseException",.type "object"]
noncomputable def zd2 (K:QFg) (C:Addr):List Value:=match K.lookup C with
 | some ⟨_,_,.cls cd,_⟩=>cd.mro.tail
 | _=>[]
theorem zix {K:QFg}{h:Heap}{C:Addr}{bmB:List Value}{newId:String}(X:K.In h) (q:excIn K C bmB newId=true) :
  ∃N nm qn bs hdct sn sub ab col dd k0 k1 k2 k3 k5 mN,h.get? C=some (excClassObj nm qn C N bs (zd2 K C) hdct sn sub ab col dd k0 k1 k2 k3 k5 newId)/\h.Ns N mN/\mN "__init__" = none/\OwnTail h bmB (zd2 K C):=by
 unfold excIn at q
 split at q
 ·rename_i dd cd sl ho
  split at q
  ·rename_i C' bm k0 k1 k2 k3 n k5 hm hs
   simp only [Bool.and_eq_true,beq_iff_eq,Bool.not_eq_true'] at q
   obtain ⟨⟨⟨⟨⟨rfl,rfl⟩,hdel⟩,ht⟩,hok⟩,hni⟩:=q
   obtain ⟨nm,bs,mro,ns,qn,hd,sn,sub,ab,col,del⟩:=cd
   dsimp only at hm hdel hok hni
   subst hm hdel
   have hsl:sl = #[k0,k1,k2,k3,some (.builtin n),k5]:=by
    obtain ⟨l⟩:=sl
    simp only at hs
    rw [hs]
   subst hsl
   have et:zd2 K C' = bm:=by unfold zd2;rw [ho];rfl
   rw [et]
   exact ⟨ns,nm,qn,bs,hd,sn,sub,ab,col,dd,k0,k1,k2,k3,k5,_,X _ _ ho,.of_isNs (isNs_of_in X hok),nsMap_none_of_in X hok hni,tail_of_in X ht⟩
  ·cases q
 ·cases q
section
variable {P:Program}{w:World}{K:QFg}{mg:Str->Option Value}{base:Heap}{N:List Str}{qual:Str}{scope:Scope}{f:Addr}{cd:Value}{A:Around}{outer:List Env}{s:Shared}{H:Hp}{E:XK}{CA:Str->Addr}
theorem zye {x z:Str}{j:Nat}{np p1 cpos pos:Pos}(hg:Gl (zbh (CX1 P w) P w K mg base N qual scope f cd A outer s H E) x) (hm:mg x=some (.ref (CA x))) (q:excIn K (CA x) zc4 "ValueError.__new__" = true) (hd:(x == ("__debug__":Str))=false:=by decide) :
  PSz (zbh (CX1 P w) P w K mg base N qual scope f cd A outer s H E) E CA (.Raise (some (.Call (.Name x np) [.Constant (.str z) j p1] [] cpos)) none pos) (λ_ S=>some (x,S)):=by
 intro pins s1 σ H1 D I ⟨ρ,l,S,C,S',sim,ro,hz,p⟩
 cases hz
 have hE:=p ρ H1 (Ext.refl ..) sim
 obtain ⟨N',nm,qn,bs,hdct,sn,sub,ab,col,dd,k0,k1,k2,k3,k5,mN,hC,hN,hni,T⟩:=zix (h:=base) I.mod.kin q
 refine wpAny_Raise_call_subU (C:=CA x) (nm:=nm) (q:=qn) (N:=N') (bs:=bs) (bm:=zd2 K (CA x)) (hdct:=hdct) (sn:=sn) (sub:=sub) (ab:=ab) (col:=col) (dd:=dd) (k0:=k0) (k1:=k1) (k2:=k2) (k3:=k3) (k5:=k5)
  F.excBase_ValueError (by decide) F.excBase_ValueError (mN:=mN) (T.hasType F.excBase_ValueError.hasBase) (I.ok.hd rfl) rfl hni (zgt I hg hm ⟨rfl,?_⟩ hd)
 refine Calls.evalArgs_plain (thn (zcn (X:=zbh (CX1 P w) P w K mg base N qual scope f cd A outer s H E) (e:=.Constant (.str z) j p1) zgs zdw rfl cpos pins s1 σ H1 (λvs H2=>H2=H1/\vs.length=1) I ⟨rfl,rfl⟩) λus s2 ⟨vs,H2,I2,r,e2,hl⟩=>?_)
 subst e2
 refine ⟨rfl,by rw [<-r.length,hl];decide,I2.bk _ _ hC,hN.keeps I2.bk,T.keeps I2.bk,λh' e hm=>?_⟩
 have I3:=I2.kept (h':=h') (t':=s2.toks) hm.keeps
 have hne:=hm.new
 have na:s.heap.get? e=none:=by
  cases z:s.heap.get? e with
  | none=>rfl
  | some o=>obtain ⟨o',e'⟩:=I2.base.there e o z (by simp [zbh]);rw [hne] at e';cases e'
 have ha:H2 e=none:=by
  cases z:H2 e with
  | none=>rfl
  | some u=>obtain ⟨o',e'⟩:=ObjOk.there (I2.hok e u z);rw [hne] at e';cases e'
 obtain ⟨t,ht,_,_⟩:=hm.there
 exact zx5 (s1:={ s2 with heap:=h' }) I3 na ha ⟨_,_,_,ht,rfl,rfl,rfl,rfl⟩ hE
end
section
variable {M:Model}{A:Around}{E:Value->Shared->Prop}{s:Shared}{base:Heap}{env:Env}{outer l:List Env}{L e C T:Addr}{Q:Unit->Shared->Prop}
theorem zo6 (hl:s.heap.FunFrames base l) {h':Heap}{a0:Value}(held:Heap.FlyingW (hideAll s.heap (e :: T :: frs l)) l e (.ref C) a0 h') (sm:s.heap.UpToSlots h') :
  ∃T',Tr (frs l) e T s.heap h'/\Fly h' e C T'/\(T' = T\/s.heap.get? T' = none):=by
 obtain ⟨k1,k2,k3,oe',vs',T',oT',ts',e1,⟨c1,z1⟩,d1,f1,n1,ne1,g1,d1',t1⟩:=held
 refine ⟨T',⟨λb o hb h2 h3 q=>k1 b o (hideAll_get _ q (by simp only [List.mem_cons,not_or];exact ⟨h2,h3,hb⟩)),λb o _ q hn=>sm b o q hn⟩,⟨oe',vs',oT',ts',a0,e1,c1,d1,z1,f1,ne1,g1,d1',t1⟩,?_⟩
 cases q:s.heap.get? T' with
 | none=>exact .inr rfl
 | some o =>
  refine .inl ?_
  by_cases hm:T'∈e :: T :: frs l
  ·rcases List.mem_cons.mp hm with z|z
   ·exact absurd z ne1
   ·rcases List.mem_cons.mp z with z|z
    ·exact z
    ·obtain ⟨_,o2,ho2,hnf⟩:=hl.mem z
     rw [q] at ho2;cases ho2
     obtain ⟨sl,hs⟩:=sm T' o q hnf
     rw [g1] at hs;cases hs
     exact absurd d1' (hnf ts')
  ·rw [hideAll_get _ q hm] at n1;cases n1
theorem zo7 (hl:s.heap.FunFrames base l) (fl:Fly s.heap e C T):∃a0,Heap.FlyingW (hideAll s.heap (e :: T :: frs l)) l e (.ref C) a0 s.heap:=by
 obtain ⟨oe,vs,oT,ts,a0,he,hc,hd,h0,h1,hTe,hT,hdT,h3⟩:=fl
 exact ⟨a0,λb o q=>of_hideAll _ q,hideAll_none _ (by simp),funFrames_hide hl λv hv a ha=>List.mem_cons_of_mem _ (List.mem_cons_of_mem _ (zla v hv a ha)),oe,vs,T,oT,ts,he,⟨hc,h0⟩,hd,h1,hideAll_none _ (by simp),hTe,hT,hdT,h3⟩
theorem zyf (hfr:A.frames=some (env :: outer)) (hl:s.heap.FunFrames base (env :: outer)) (hf:env.frame=some L) (fl:Fly s.heap e C T)
  (hQ:∀h' T',Tr (frs (env :: outer)) e T s.heap h'->Fly h' e C T'->(T' = T\/s.heap.get? T' = none)->Q () { s with heap:=h' }) :
  wpAny M A (noteFrame (.ref e) env) (λ_ s₂=>wpAny M A (setFlight (.ref e) none) Q E s₂) E s:=by
 obtain ⟨a0,fw⟩:=zo7 hl fl
 refine wpAny_looks_onW hfr hf fw λh4 held4 sm4=>?_
 refine wpAny_landsW (s:={ s with heap:=h4 }) held4 λh5 held sm5=>?_
 obtain ⟨T',t1,t2,t3⟩:=zo6 hl held (sm4.trans sm5)
 exact hQ h5 T' t1 t2 t3
theorem zyg (hl:s.heap.FunFrames base l) (fl:Fly s.heap e C T)
  (hQ:∀h' T',Tr (frs l) e T s.heap h'->Fly h' e C T'->(T' = T\/s.heap.get? T' = none)->Q () { s with heap:=h' }):wpAny M A (setFlight (.ref e) none) Q E s:=by
 obtain ⟨a0,fw⟩:=zo7 hl fl
 refine lands_againW fw λh5 held sm5=>?_
 obtain ⟨T',t1,t2,t3⟩:=zo6 hl held sm5
 exact hQ h5 T' t1 t2 t3
end
section
variable {X:Cx}{pins:List (Addr × Obj)}{σ:L2.St}{H:Hp}{s:Shared}{h':Heap}{a T:Addr}{t':Nat}
theorem Inv.tr (I:Inv X pins σ H s) (hex:X.ex=[]) (tr:Tr (frs X.stack) a T s.heap h') (na:X.s₀.heap.get? a=none) (nT:X.s₀.heap.get? T=none) (ha:H a=none) (hT:H T=none)
  (oL:X.env.locals≠a/\X.env.locals≠T) (oC:∀x c,X.env.cells.lookup x=some c->c≠a/\c≠T) (oP:∀p∈X.pn++pins,p.1≠a/\p.1≠T):Inv X pins σ H { s with heap:=h',toks:=t' }:=by
 have kp:∀b o,(∀vs,o.data≠.fields vs)->b≠a->b≠T->s.heap.get? b=some o->∃sl,h'.get? b=some { o with slots:=sl }:=λb o hn h1 h2 q=>by
  by_cases hb:b∈frs X.stack
  ·exact tr.slot b o hb q hn
  ·exact ⟨o.slots,tr.keep b o hb h1 h2 q⟩
 have hne:∀b o,X.s₀.heap.get? b=some o->b≠a/\b≠T/\b≠X.env.locals:=λb o q=>⟨λz=>(by rw [z,na] at q;cases q),λz=>(by rw [z,nT] at q;cases q),Nat.ne_of_lt (Nat.lt_of_lt_of_le (Heap.lt_size q) I.ok.above)⟩
 have nex:∀b,b ∉ X.ex:=λb=>by rw [hex];simp
 refine ⟨I.ok,I.os,I.bare,⟨λb o q n hb hx=>?_,λb o q n hb hx=>?_,I.base.free,λb o q hx=>?_,I.base.tups,I.base.frzs,I.base.tbls⟩,?_,λx c e=>?_,I.free,I.freeC,λp hp=>?_,λb u e=>?_,I.len⟩
 ·obtain ⟨h1,h2,h3⟩:=hne b o q
  exact tr.keep b o (λz=>(List.mem_cons.mp (I.stkSub b z)).elim h3 hb) h1 h2 (I.base.keep b o q n hb hx)
 ·obtain ⟨h1,h2,h3⟩:=hne b o q
  obtain ⟨sl,e⟩:=I.base.slot b o q n hb hx
  obtain ⟨_,o2,ho2,hnf⟩:=I.funs.mem hb
  rw [e] at ho2;cases ho2
  obtain ⟨sl',e'⟩:=kp b _ hnf h1 h2 e
  exact ⟨sl',e'⟩
 ·obtain ⟨h1,h2,h3⟩:=hne b o q
  obtain ⟨o',e⟩:=I.base.there b o q hx
  by_cases hb:b∈frs X.stack
  ·obtain ⟨_,o2,ho2,hnf⟩:=I.stack.mem hb
   rw [e] at ho2;cases ho2
   obtain ⟨sl,e'⟩:=tr.slot b _ hb e hnf
   exact ⟨_,e'⟩
  ·exact ⟨o',tr.keep b o' hb h1 h2 e⟩
 ·obtain ⟨m,⟨o,es,ep,ho,hd,hr⟩,hl⟩:=I.loc
  obtain ⟨sl,e'⟩:=kp _ o (λvs z=>by rw [hd] at z;cases z) oL.1 oL.2 ho
  refine ⟨m,⟨_,es,ep,e',hd,hr⟩,λi x v h1 h2 h3=>?_⟩
  obtain ⟨u,r,lk⟩:=hl i x v h1 h2 h3
  refine ⟨u,r,?_⟩
  rcases lk with lk|⟨k,c,hc,oc,hoc,hdc⟩
  ·exact .inl lk
  ·obtain ⟨sl2,e2⟩:=kp c oc (λvs z=>by rw [hdc] at z;cases z) (oC x c hc).1 (oC x c hc).2 hoc
   exact .inr ⟨k,c,hc,_,e2,hdc⟩
 ·obtain ⟨v,o,ho,hd⟩:=I.cell x c e
  obtain ⟨sl2,e2⟩:=kp c o (λvs z=>by rw [hd] at z;cases z) (oC x c e).1 (oC x c e).2 ho
  exact ⟨v,_,e2,hd⟩
 ·obtain ⟨e,n,ne,nf,d⟩:=I.pin p hp
  exact ⟨tr.keep _ _ (λz=>(List.mem_cons.mp (I.stkSub _ z)).elim ne nf) (oP p hp).1 (oP p hp).2 e,n,ne,nf,d⟩
 ·refine (I.hok b u e).stay (λc v hc q=>?_) (λ_ q=>q) λ_ _ q=>q
  have hcn:H c≠none:=by
   rcases hc with z|z
   ·rw [z,e];intro y;cases y
   ·rw [z];intro y;cases y
  exact tr.keep c v (λz=>hcn (I.stkFree c z)) (λz=>hcn (by rw [z];exact ha)) (λz=>hcn (by rw [z];exact hT)) q
end
section
variable {M:Model}{A:Around}{E:Value->Shared->Prop}{h:Heap}{g:Array GenState}{d:Drawn}{t:Nat}{os:OsState}
variable {nm q nm' q':Str}{C N D N':Addr}{bs bm bs' bm':List Value}{hdct hdct':Bool}{sn sn':List Str}{sub sub':List Value}{ab ab':Bool}{col col':Option Bool}{dd dd':Option Addr}{k0 k1 k2 k3 k5 k0' k1' k2' k3' k5':Option Value}{newId newId':String}
theorem zyh {e:Addr}{oe:Obj}{Q:Bool->Shared->Prop}
  (hC:h.get? C=some (excClassObj nm q C N bs bm hdct sn sub ab col dd k0 k1 k2 k3 k5 newId)) (hD:h.get? D=some (excClassObj nm' q' D N' bs' bm' hdct' sn' sub' ab' col' dd' k0' k1' k2' k3' k5' newId'))
  (he:h.get? e=some oe) (hcls:oe.cls=.ref C) (hbase:bm'.contains (.type "BaseException")=true) (hin:(Value.ref C :: bm).contains (.ref D)=true)
  (hq:Q true ⟨h,g,d,t,os⟩):wpAny M A (excMatches (.ref e) (.ref D)) Q E ⟨h,g,d,t,os⟩:=by
 have hcB:(Value.ref D :: bm').contains (.type "BaseException")=true:=by rw [List.contains_cons,hbase,Bool.or_true]
 have f:=tc_notTuple
 unfold excMatches
 repeat (first|(with_reducible refine wpAny_loadPart_at he ?_;rw [hcls])|with_reducible refine wpAny_loadPart_at hD ?_|with_reducible refine wpAny_loadPart_at hC ?_|(with_reducible refine wpAny_isSubtype_exc hD ?_;rw [hcB])|(with_reducible refine wpAny_isSubtype_exc hC ?_;rw [hin])|wp_step)
 exact hq
end
noncomputable abbrev mk1 (X:Cx) (e:Value):Cx:={ X with A:=X.A.mark (some e),calm:=false,xe:=λ_ _=>False }
def phi (e C:Addr):Heap->Prop:=λh=>∃o,h.get? e=some o/\o.cls=.ref C
section
variable {X:Cx}{pins:List (Addr × Obj)}{σ:L2.St}{H:Hp}{s:Shared}{a C T:Addr}{e:Value}
theorem Inv.mk1 (I:Inv X pins σ H s):Inv (L3.mk1 X e) pins σ H s :=
 ⟨⟨I.ok.mod,I.ok.kind,I.ok.glob,I.ok.blt,I.ok.above,I.ok.inj,I.ok.has,I.ok.cab,λh=>absurd (show false=true from h) Bool.false_ne_true,I.ok.frames,I.ok.stk,I.ok.exf,I.ok.bs,I.ok.bsz,I.ok.noex,I.ok.exfs,I.ok.funs,I.ok.frf⟩,I.os,I.bare,I.base,I.loc,I.cell,I.free,I.freeC,I.pin,I.hok,I.len⟩
theorem Inv.unmk1 (ok:X.Ok) (I:Inv (L3.mk1 X e) pins σ H s):Inv X pins σ H s:=⟨ok,I.os,I.bare,I.base,I.loc,I.cell,I.free,I.freeC,I.pin,I.hok,I.len⟩
theorem Inv.track (I:Inv X pins σ H s) (ha:H a=none) (na:X.s₀.heap.get? a=none) (oL:X.env.locals≠a) (oC:∀x c,X.env.cells.lookup x=some c->c≠a) (oP:∀p∈X.pn++pins,p.1≠a)
  (he:phi a C s.heap):Inv X pins σ (upd H a (.ext (phi a C))) s:=by
 have up:∀b u,H b=some u->upd H a (.ext (phi a C)) b=some u:=λb u q=>by rw [zaj (zbd q ha)];exact q
 refine ⟨I.ok,I.os,I.bare,⟨I.base.keep,I.base.slot,λb o q n hx=>?_,I.base.there,λb xs q=>up _ _ (I.base.tups b xs q),λb o u q=>up _ _ (I.base.frzs b o u q),λb ps q=>?_⟩,I.loc,I.cell,?_,λx c q=>?_,λp hp=>?_,λb u q=>?_,I.len⟩
 ·rw [zaj (λz=>by rw [z,na] at q;cases q)]
  exact I.base.free b o q n hx
 ·obtain ⟨more,z⟩:=I.base.tbls b ps q
  exact ⟨more,up _ _ z⟩
 ·rw [zaj oL];exact I.free
 ·rw [zaj (oC x c q)];exact I.freeC x c q
 ·obtain ⟨z,n,ne,nf,d⟩:=I.pin p hp
  exact ⟨z,by rw [zaj (oP p hp)];exact n,ne,nf,d⟩
 ·by_cases hb:b=a
  ·subst hb
   rw [zbg] at q;cases q
   obtain ⟨o,h1,h2⟩:=he
   exact ⟨⟨o,h1,h2⟩,⟨o,h1⟩,λh1 h2 ⟨o,z1,z2⟩ k=>⟨o,k o z1,z2⟩⟩
  ·rw [zaj hb] at q
   exact (I.hok b u q).stay (λc v _ z=>z) (λc z=>up _ _ z) λc xs z=>up _ _ z
theorem Inv.unbound {n:Str}{i:Nat}{h':Heap}{m:Str->Option Value}{v:Option Value}{t':Nat}(I:Inv X pins σ H s) (hN:X.N.Nodup) (hi:X.N[i]? = some n)
  (hm:s.heap.Ns X.env.locals m) (hn:h'.Ns X.env.locals (λx=>if x=n then v else m x)) (sb:Heap.SameBut X.env.locals s.heap h'):Inv X pins (σ.set i none) H { s with heap:=h',toks:=t' }:=by
 have kp:∀b o,b≠X.env.locals->s.heap.get? b=some o->h'.get? b=some o:=λb o hb q=>sb.extBut b o hb q
 have hL:∀b o,X.s₀.heap.get? b=some o->b≠X.env.locals:=λb o q=>Nat.ne_of_lt (Nat.lt_of_lt_of_le (Heap.lt_size q) I.ok.above)
 have nfs:X.env.locals ∉ X.fs:=λz=>by
  obtain ⟨_,o,ho,_⟩:=I.ok.funs.mem z
  exact hL _ o ho rfl
 refine ⟨I.ok,I.os,I.bare,⟨λb o q n hb hx=>kp b o (hL b o q) (I.base.keep b o q n hb hx),λb o q n hb hx=>?_,I.base.free,λb o q hx=>?_,I.base.tups,I.base.frzs,I.base.tbls⟩,⟨_,hn,λj x u h1 h2 h3=>?_⟩,λx c q=>?_,I.free,I.freeC,λp hp=>?_,λb u q=>?_,by rw [List.length_set];exact I.len⟩
 ·obtain ⟨sl,z⟩:=I.base.slot b o q n hb hx
  exact ⟨sl,kp b _ (hL b o q) z⟩
 ·obtain ⟨o',z⟩:=I.base.there b o q hx
  exact ⟨o',kp b _ (hL b o q) z⟩
 ·have hji:i≠j:=λz=>by
   subst z
   rw [List.getElem?_set_self (by have:=(qme hi).1;rw [I.len];exact this)] at h2
   cases h2
  rw [List.getElem?_set_ne hji] at h2
  have hxn:x≠n:=λz=>hji (zjk hN hi (by rw [h1,z]))
  obtain ⟨m0,hn0,hl⟩:=I.loc
  obtain ⟨w,r,lk⟩:=hl j x u h1 h2 h3
  have em:m0=m:=by
   obtain ⟨o1,es1,ep1,ho1,hd1,hk1,hf1⟩:=hn0
   obtain ⟨o2,es2,ep2,ho2,hd2,hk2,hf2⟩:=hm
   rw [ho1] at ho2;cases ho2
   rw [hd1] at hd2;cases hd2
   funext y;rw [<-hf1 y,<-hf2 y]
  subst em
  refine ⟨w,r,?_⟩
  rcases lk with ⟨k,z⟩|⟨k,c,hc,o,ho,hd⟩
  ·exact .inl ⟨k,by show (if x=n then v else m0 x)=some w;rw [if_neg hxn];exact z⟩
  ·exact .inr ⟨k,c,hc,o,kp c o (I.cne x c hc) ho,hd⟩
 ·obtain ⟨w,o,ho,hd⟩:=I.cell x c q
  exact ⟨w,o,kp c o (I.cne x c q) ho,hd⟩
 ·obtain ⟨z,n,ne,nf,d⟩:=I.pin p hp
  exact ⟨kp _ _ ne z,n,ne,nf,d⟩
 ·refine (I.hok b u q).stay (λc w hc z=>kp c w (λy=>?_) z) (λ_ z=>z) λ_ _ z=>z
  have hcn:H c≠none:=by
   rcases hc with y|y
   ·rw [y,q];intro z;cases z
   ·rw [y];intro z;cases z
  exact hcn (by rw [y];exact I.free)
end
def EH (X:Cx) (Dh:Addr) (tS:TS) (i:Nat) (D:Ends) (σ:L2.St):XK:=λc _ H'=>∃C,c=.ref C/\excIn X.K C zc4 "ValueError.__new__" = true/\(Value.ref C :: zd2 X.K C).contains (.ref Dh)=true /\
 ∀e,H' e=none->tS { nx:=λσ' H''=>D.nx (σ'.set i none) H'',rt:=λ_ _=>False } (σ.set i (some (.ref e))) (upd H' e (.ext (phi e C)))
section
variable {X:Cx}{pins:List (Addr × Obj)}{σ:L2.St}{tS:TS}{i:Nat}{Dh:Addr}{n hx:Str}{np hpos:Pos}{b0:Stmt}{suite:List Stmt}
theorem zyi (hstk:X.stack=X.env :: X.outer) (hfm:X.env.frame=some X.env.locals) (hex:X.ex=[]) (hg:Gl X hx) (hm:X.mg hx=some (.ref Dh)) (qD:excIn X.K Dh zc4 "ValueError.__new__" = true)
  (hS:∀e,PSs (mk1 X e) (b0 :: suite) tS) (hN:X.N.Nodup) (hi:X.N[i]? = some n) (hln:X.env.scope.names.lookup n=some .local) (hd:(hx == ("__debug__":Str))=false)
  {H1:Hp} {s1 s2:Shared} {e:Value} {D:Ends} (I1:Inv X pins σ H1 s1) (cx:CX1 X.prog X.w X.stack H1 s1 (EH X Dh tS i D σ) e s2) :
  wpAny (model X.prog X.w) X.A (noteFrame e X.env) (λ_ s₂=>wpAny (model X.prog X.w) X.A (setFlight e none) (λ_ s₃ =>
   wpAny (model X.prog X.w) X.A (handleBy e X.env [.ExceptHandler (some (.Name hx np)) (some n) (b0 :: suite) hpos]) (SP X pins D) X.xe s₃) X.xe s₂) X.xe s2:=by
 obtain ⟨a,C,T,H',rfl,ho,hgn,un,hok,na,nT,fl,ha,hT,hE⟩:=cx
 obtain ⟨C',hCe,qC,hin,hE⟩:=hE
 cases hCe
 have I2:Inv X pins σ H' s2:=I1.call' (s':=s2) (ch:=[]) ho un hok hgn (λb hb=>by cases hb)
 have up:∀b,s1.heap.get? b=none->X.s₀.heap.get? b=none:=λb q=>by
  cases z:X.s₀.heap.get? b with
  | none=>rfl
  | some o=>obtain ⟨o',e⟩:=I1.base.there b o z (by rw [hex];simp);rw [q] at e;cases e
 have out:∀b,s1.heap.get? b=none->X.env.locals≠b/\(∀x c,X.env.cells.lookup x=some c->c≠b)/\∀p∈X.pn++pins,p.1≠b:=λb q=>by
  refine ⟨λz=>?_,λx c hc z=>?_,λp hp z=>?_⟩
  ·obtain ⟨m,⟨o,_,_,h1,_⟩,_⟩:=I1.loc
   rw [z,q] at h1;cases h1
  ·obtain ⟨v,o,h1,_⟩:=I1.cell x c hc
   rw [z,q] at h1;cases h1
  ·have:=(I1.pin p hp).1
   rw [z,q] at this;cases this
 have stk:∀{σ':L2.St} {H'':Hp} {s':Shared},Inv X pins σ' H'' s'->s'.heap.FunFrames X.base (X.env :: X.outer):=λI=>by have:=I.stack;rw [hstk] at this;exact this
 have oa:=out a na
 have oT:=out T nT
 refine zyf (L:=X.env.locals) (by rw [I2.ok.frames,hstk]) (stk I2) hfm fl λh3 T3 tr3 fl3 hT3=>?_
 rw [<-hstk] at tr3
 have I3:Inv X pins σ H' { s2 with heap:=h3 }:=Inv.tr (t':=s2.toks) I2 hex tr3 (up a na) (up T nT) ha hT ⟨oa.1,oT.1⟩ (λx c q=>⟨oa.2.1 x c q,oT.2.1 x c q⟩) (λp q=>⟨oa.2.2 p q,oT.2.2 p q⟩)
 have nT3:s1.heap.get? T3=none:=by
  rcases hT3 with rfl|q
  ·exact nT
  ·cases z:s1.heap.get? T3 with
   | none=>rfl
   | some o=>obtain ⟨o',e⟩:=un.there T3 o z (by simp);rw [q] at e;cases e
 have hT3':H' T3=none:=by
  rcases hT3 with rfl|q
  ·exact hT
  ·cases z:H' T3 with
   | none=>rfl
   | some u=>obtain ⟨o',e⟩:=ObjOk.there (hok T3 u z);rw [q] at e;cases e
 have oT3:=out T3 nT3
 obtain ⟨N1,nm1,qn1,bs1,hdct1,sn1,sub1,ab1,col1,dd1,k01,k11,k21,k31,k51,mN1,hC1,_,_,_⟩:=zix (h:=h3) I3.kIn qC
 obtain ⟨N2,nm2,qn2,bs2,hdct2,sn2,sub2,ab2,col2,dd2,k02,k12,k22,k32,k52,mN2,hC2,_,_,TL2⟩:=zix (h:=h3) I3.kIn qD
 obtain ⟨oe,vs,oT',ts,a0,he,hcl,_⟩:=id fl3
 refine wpAny_handleBy_cons (codeAny_handlers_test (Calls.Name_function_global I3.ok.kind hg (Calls.loadGlobal_global (by rw [I3.ok.glob];exact I3.mod.glob.keeps I3.bk) hm ?_) hd)) (by intro q;cases q)
 refine zyh hC1 hC2 he hcl (TL2.hasType F.excBase_ValueError.hasBase) hin ?_
 refine codeAny_handlers_suite_as ?_
 refine zyg (s:={ s2 with heap:=h3 }) (stk I3) fl3 λh4 T4 tr4 fl4 hT4=>?_
 rw [<-hstk] at tr4
 have I4:Inv X pins σ H' { s2 with heap:=h4 }:=Inv.tr (s:={ s2 with heap:=h3 }) (t':=s2.toks) I3 hex tr4 (up a na) (up T3 nT3) ha hT3' ⟨oa.1,oT3.1⟩ (λx c q=>⟨oa.2.1 x c q,oT3.2.1 x c q⟩) (λp q=>⟨oa.2.2 p q,oT3.2.2 p q⟩)
 obtain ⟨oe4,vs4,oT4,ts4,a04,he4,hcl4,_⟩:=id fl4
 have I5:=Inv.track (C:=C) I4 ha (up a na) oa.1 oa.2.1 oa.2.2 ⟨oe4,he4,hcl4⟩
 refine zjl (v:=.ref a) I5 hN hi (.inl hln) rfl (λs6 I6=>?_) (.inr hln)
 refine wpAny_mono (hS (.ref a) pins s6 (σ.set i (some (.ref a))) _ _ (Inv.mk1 I6) (hE a ha)) (λf s7 hf=>?_) λ_ _ z=>False.elim z
 cases f with
 | next =>
  obtain ⟨σ',H'',I7,q7⟩:=hf
  have I7:=Inv.unmk1 I6.ok I7
  obtain ⟨m,hn,_⟩:=I7.loc
  show wpAny _ X.A (do bindName X.env n .none;unbindBehindTheSuite X.env n hpos) _ _ s7
  exact wpAny_nameGoes_keeps hln hn (by rw [I7.ok.kind];rfl) λh8 v hn8 sb8=>⟨σ'.set i none,H'',Inv.unbound I7 hN hi hn hn8 sb8,q7⟩
 | ret v=>obtain ⟨_,_,_,_,_,q⟩:=hf;exact q.elim
 | brk=>obtain ⟨_,_,_,q⟩:=hf;exact q.elim
 | cont=>obtain ⟨_,_,_,q⟩:=hf;exact q.elim
end
noncomputable def zga (k:Nat) (r:ZM):ZF:=λds S=>r (ds.map some++List.replicate (k-ds.length) none) S
theorem zyj {P:Program}{w:World}{K:QFg}{mg:Str->Option Value}{base:Heap}{CA:Str->Addr}{x:Str}{st:Stmt}{f:Addr}{fd:FuncData}{N ps:List Str}{k n:Nat}{r:ZM}(F:Fun K x x st f fd) (hm:mg x=some (.ref f)) (S:FnScope N ps (zau st)) (hn:ps.length=n) (hb:Binds K fd ps [])
  (hbody:∀(cdv:Value),PySem.W.codeIn K cdv x=true->∀(A:Around) (outer:List Env) (s:Shared) (H:Hp) (E:XK),Room k (A.deeper (envOfC x (zau st) s.heap.objs.size f cdv)) ->
   zel (zbh (CX1 P w) P w K mg base N x (zau st) f cdv A outer s H E) E CA (zch st) r):zcl P w K mg base CA x (k+1) n (zga N.length r):=by
 refine ⟨f,fd,ps,?_,hm,F.kp,hb⟩
 obtain ⟨oc,od,kV,doc,pm,an,cdv,ct,osl,rfl,lk,hcd⟩:=F.ex
 refine zjs lk hcd S (λvs H Q E h=>by rw [h.1,hn]) λA outer s H vs Q E hr h=>?_
 obtain ⟨hl,ρ,ds,S0,C,S',sim,rd,hz,p⟩:=h
 exact ⟨_,hbody cdv hcd A outer s H E hr,ρ,_,S0,C,S',sim,rd.locals N,hz,p⟩
section
variable {X:Cx}{E:XK}{CA:Str->Addr}{a:Expr}{es:List Expr}{mA:AM}{cpos p apos py tpos:Pos}{x y:Str}{k j n:Nat}{rx:ZF}
variable {tN tS:TS}{i:Nat}{Dh:Addr}{nm hx:Str}{np hpos:Pos}{b0:Stmt}{suite:List Stmt}
end
theorem RO.unset {ρ:List Addr}{H:Hp}{l:Lo}{σ:L2.St}(r:RO ρ H l σ) (i:Nat):RO ρ H (l.set i none) (σ.set i none):=by
 refine ⟨by rw [List.length_set,List.length_set];exact r.len,λj d h=>?_⟩
 by_cases e:i=j
 ·subst e
  have hl:i<l.length:=by
   have:=(qme h).1
   rw [List.length_set] at this;exact this
  rw [List.getElem?_set_self hl] at h;cases h
 ·rw [List.getElem?_set_ne e] at h ⊢
  exact r.get j d h
noncomputable def zhh (i:Nat) (ok:Str->Bool) (mN:SM) (r:ZM) (mS:SM):SM:=λl S=>match mN l S with
 | some q=>some q
 | none=>match r l S with
  | some (c,S')=>if ok c=true then (mS (l.set i (some (.ref S'.length))) (S'++[.exc c])).bind λq=>(match q.1 with
   | .nx=>some (.nx,q.2.1.set i none,q.2.2)
   | _=>none) else none
  | none=>none
section
variable {X:Cx}{E:XK}{CA:Str->Addr}{a:Expr}{es:List Expr}{mA:AM}{cpos p apos py tpos:Pos}{x y:Str}{k j n:Nat}{rx:ZF}{i:Nat}{Dh:Addr}{nm hx:Str}{np hpos:Pos}{b0:Stmt}{suite:List Stmt}{mN mS:SM}{ok:Str->Bool}
end
open PySem.Builtin PySem.Builtin.ObjectAttr PySem.Builtin.Getset_descriptor
theorem zo8 {a C:Addr}(M:Model) (h:Heap) (p:phi a C h):Looks M h (typeOf (.ref a)) (.ref C):=by
 obtain ⟨o,h1,h2⟩:=p
 exact h2 ▸ (Looks.ld h1).andThen .now
section
variable {prog:Program}{w:World}{A:Around}{E:Value->Shared->Prop}{h:Heap}{g:Array GenState}{d:Drawn}{t:Nat}{os:OsState}{a:Addr}{o:Obj}{K:QFg}{C:Addr}
theorem zyk {tp:Value}{R:Result->Shared->Prop}{s:Shared}(X:K.In s.heap) (p:phi a C s.heap) (hm:mroIn K C (.type "object")=some true) (hq:R (.ok (.ret (.ref C))) s) :
  codeAny (model prog w) A (.call (.builtin "getset_descriptor.__get__") ⟨[.builtin "object.__class__",.ref a,tp],[]⟩) R s:=by
 obtain ⟨hh,g,dr,t,os⟩:=s
 have L0:=zo8 (model prog w) hh p
 have L1:=looks_mroIn (M:=model prog w) X hm
 refine codeAny_call_builtin KF.slot_gs.plain KF.entry_gs (KF.slot_gs.check _ _ _ _ _ _ _ _ KF.type_class (KF.args_gs _ _ _) ?_)
 unfold Builtin.«getset_descriptor.__get__» descrGet
 rw [dga_obj]
 refine qwb (qwp ?_)
 unfold descrGetter descrCheckInstance descrNameAndClass isInstance
 simp only [KF.owner_class]
 repeat lk
 refine ⟨Code.quiet_builtin _ (by decide +kernel),codeAny_builtin KF.entry_class ?_⟩
 unfold Builtin.«object.__class__» shownTypeOf
 repeat lk
 exact hq
theorem zyl {tk:Tok}{Q:Fin->Shared->Prop}(X:K.In h) (hx:h.get? a=some o) (hc:o.cls=.ref C) (hm:mroIn K C (.type "object")=some true) (hf:findIn K (.ref C) "__class__" = some (some (.builtin "object.__class__")))
  (hq:Q (.done (.ret (.ref C))) ⟨h,g,d,t,os⟩):wpAny (model prog w) A (Builtin.«object.__getattribute__» ⟨[.ref a,.str "__class__" tk],[]⟩) Q E ⟨h,g,d,t,os⟩:=by
 have hT5:(⟨h,g,d,t,os⟩:Shared).TypeIs (.builtin "object.__class__") "getset_descriptor":=F.typeOf_object_class
 have f5:=F.typeOf_object_class
 have f6:=F.slot_gs_get.lookup
 have f7:=F.slot_gs_set.lookup
 have L:=looks_findIn (M:=model prog w) X hf
 repeat (any_goals (first|assumption|(with_reducible refine wpAny_loadPart_at hx ?_;rw [hc])|with_reducible refine L.at ?_|wp_step))
 refine zyk (s:=⟨h,g,d,t,os⟩) X ⟨o,hx,hc⟩ hm ?_
 repeat (any_goals (first|assumption|wp_step))
theorem zym {M:Model}{nameV:Value}{Q:Unit->Shared->Prop}{nm q:Str}{N:Addr}{bs bm:List Value}{hdct:Bool}{sn:List Str}{sub:List Value}{ab:Bool}{col:Option Bool}{dd:Option Addr}{k0 k1 k2 k3 k5:Option Value}{newId:String}
  (hC:h.get? C=some (excClassObj nm q C N bs bm hdct sn sub ab col dd k0 k1 k2 k3 k5 newId)) (T:OwnTail h zc4 bm)
  (hx:h.get? a=some o) (hc:o.cls=.ref C) (hq:Q () ⟨h,g,d,t,os⟩):wpAny M A (checkBuiltinCall "BaseException.__getattribute__" ⟨[.ref a,nameV],[]⟩) Q E ⟨h,g,d,t,os⟩:=by
 have hk:builtinKind "BaseException.__getattribute__" = some .slot:=by decide +kernel
 have hsplit:splitId "BaseException.__getattribute__" = some ("BaseException","__getattribute__"):=by decide +kernel
 have hcB:(Value.ref C :: bm).contains (.type "BaseException")=true:=by rw [List.contains_cons,T.hasType F.excBase_ValueError.hasBase];rfl
 have ha:=F.args_bexc_ga (.ref a) nameV
 simp only [checkBuiltinCall,hk,hsplit]
 refine qwb ?_
 ·unfold isInstance
  repeat (first|(with_reducible refine wpAny_loadPart_at hx ?_;rw [hc])|(with_reducible refine wpAny_isSubtype_exc hC ?_;rw [hcB])|wp_step)
  exact hq
end
structure ExcQ (K:QFg) (C:Addr):Prop where
 exc:excIn K C zc4 "ValueError.__new__" = true
 obj:mroIn K C (.type "object")=some true
 cls:findIn K (.ref C) "__class__" = some (some (.builtin "object.__class__"))
 ga:findIn K (.ref C) "__getattribute__" = some (some (.builtin "BaseException.__getattribute__"))
 gr:findIn K (.ref C) "__getattr__" = some none
 is:(clsIn K C).isSome=true
section
variable {prog:Program}{w:World}{A:Around}{E:Value->Shared->Prop}{h:Heap}{g:Array GenState}{d:Drawn}{t:Nat}{os:OsState}{a:Addr}{o:Obj}{K:QFg}{C:Addr}
theorem zyn {tk:Tok}{R:Result->Shared->Prop}(X:K.In h) (c:ExcQ K C) (hx:h.get? a=some o) (hc:o.cls=.ref C) (hq:R (.ok (.ret (.ref C))) ⟨h,g,d,t,os⟩) :
  codeAny (model prog w) A (.call (.builtin "BaseException.__getattribute__") ⟨[.ref a,.str "__class__" tk],[]⟩) R ⟨h,g,d,t,os⟩:=by
 obtain ⟨N,nm,qn,bs,hdct,sn,sub,ab,col,dd,k0,k1,k2,k3,k5,mN,hC,hN,hni,T⟩:=zix X c.exc
 exact codeAny_call_builtin F.attrBase_ValueError.ga.plain F.entry_bexc_ga (zym hC T hx hc (zyl X hx hc c.obj c.cls hq))
theorem zyo {tk:Tok}{Q:Value->Shared->Prop}(X:K.In h) (c:ExcQ K C) (hx:h.get? a=some o) (hc:o.cls=.ref C) (hq:Q (.ref C) ⟨h,g,d,t,os⟩) :
  wpAny (model prog w) A (getAttrBy (.ref a) (.str "__class__" tk) false) Q E ⟨h,g,d,t,os⟩:=by
 have f3:=F.attrBase_ValueError.ga.bind (.ref a)
 have hx2:(Value.builtin "BaseException.__getattribute__" == Value.builtin "object.__getattribute__")=false:=by decide +kernel
 have hx1:(onTheHeap (Value.ref C) && Value.builtin "BaseException.__getattribute__" == Value.builtin "object.__getattribute__")=false:=by rw [hx2];rfl
 have L1:=looks_findIn (M:=model prog w) X c.ga
 have L2:=looks_findIn (M:=model prog w) X c.gr
 repeat (any_goals (first|assumption|(with_reducible refine wpAny_loadPart_at hx ?_;rw [hc])|with_reducible refine L1.at ?_|with_reducible refine L2.at ?_|wp_step))
 refine zyn X c hx hc ?_
 repeat (any_goals (first|assumption|wp_step))
theorem zyp {Q:Option Value->Shared->Prop}{s:Shared}(X:K.In s.heap) (c:ExcQ K C) (p:phi a C s.heap) (hq:Q (some (.ref C)) { s with toks:=s.toks+1 }) :
  wpAny (model prog w) A (getAttr? (.ref a) "__class__") Q E s:=by
 obtain ⟨hh,g,d,t,os⟩:=s
 obtain ⟨o,hx,hc⟩:=p
 unfold getAttr? getAttrBy?
 repeat (any_goals (first|assumption|with_reducible apply zyo X c hx hc|wp_step))
theorem zo9 (c:ExcQ K C):KitX K (.ref a) (.ref C) (phi a C) where
 ty:=λM h _ p=>zo8 M h p
 it:=λ_ _ X _=>by
  obtain ⟨cdD,hcD⟩:=Option.isSome_iff_exists.mp c.is
  unfold clsIn at hcD
  split at hcD
  ·rename_i c' d' cd' sl' ho
   intro A' Q' E' s' k q
   unfold isType loadHead
   exact qwb (wpAny_loadPart (k _ _ (X _ _ ho)) (qwp q))
  ·cases hcD
 ne:=λh tp dd its n sl X htp=>by
  obtain ⟨cdD,hcD⟩:=Option.isSome_iff_exists.mp c.is
  refine Bool.eq_false_iff.mpr λq=>?_
  have e:C=tp:=Value.ref.inj (beq_iff_eq.mp q)
  subst e
  unfold clsIn at hcD
  split at hcD
  ·rename_i c' d' cd' sl' ho
   have z:=(X _ _ ho).symm.trans htp
   cases z
  ·cases hcD
 ca:=λX p k=>zyp X c p k
end
def PN (X:Cx) (es:List Expr) (Cs:List Addr):Prop:=PA X es (λ_ H Q=>Q (Cs.map V.ref) H)
section
variable {X:Cx}{es:List Expr}{Cs:List Addr}{y:Str}{C:Addr}{p:Pos}
theorem zpa (hg:Gl X y) (hm:X.mg y=some (.ref C)) (hd:(y == ("__debug__":Str))=false:=by decide):PE X (.Name y p) (tC (.ref C)):=λ_ _ _ H _ I h=>zgt I hg hm ⟨.ref C,H,I,rfl,h⟩ hd
theorem zpb:PN X [] []:=λpos pins s σ H Q I h=>zdw pos pins s σ H Q I h
theorem zdp (hg:Gl X y) (hm:X.mg y=some (.ref C)) (h:PN X es Cs) (hd:(y == ("__debug__":Str))=false:=by decide) (hs:starEach (.Name y p :: es) X.env=(false,eval (.Name y p) X.env) :: starEach es X.env:=by rfl):PN X (.Name y p :: es) (C :: Cs) :=
 λpos pins s σ H Q I q=>zcn (zpa hg hm hd) h hs pos pins s σ H Q I q
theorem zpc:∀{Cs:List Addr}{us:List Value},Vals (Cs.map V.ref) us->us=Cs.map Value.ref
 | [],us,h=>by cases h;rfl
 | C :: Cs,us,h=>by
  cases h with
  | cons r q =>
   rw [zpc q]
   cases (show _=Value.ref C from r)
   rfl
def zyq (K:QFg):List V->Hp->VK->Prop:=λxs H Q=>∃(a tp C:Addr) (Cs:List Addr) (b:Bool),xs=[.ref a,.ref tp]/\H a=some (.ext (phi a C))/\H tp=some (.tup (Cs.map V.ref))/\ExcQ K C/\kitAny K (.ref C) (Cs.map Value.ref)=some b/\Q (.bl b) H
theorem zyr:CallR X (.builtin "isinstance") (zyq X.K):=by
 intro pins s σ H xs us Q I r h
 obtain ⟨a,tp,C,Cs,b,rfl,ha,ht,hc,hk,q⟩:=h
 obtain ⟨u1,u2,rfl,r1,r2⟩:=r.two
 cases (show u1=Value.ref a from r1)
 cases (show u2=Value.ref tp from r2)
 obtain ⟨ph,_⟩:=(show ObjOk X.prog X.w H s.heap a (.ext (phi a C)) from I.hok a _ ha)
 obtain ⟨its,rv,pt,_⟩:=I.tuple (SqT.of (K:=X.K) ht)
 have e:=zpc rv
 subst e
 obtain ⟨ob,h1,h2,h3⟩:=pt
 obtain ⟨n,h3⟩:=h3
 obtain ⟨c,dd,dt,sl⟩:=ob
 cases h2;cases h3
 exact kia_tup (zo9 hc) I.kIn ph h1 hk (λz=>nomatch z) λtk=>⟨.bl b,H,I.tok tk,rfl,q⟩
def zys (K:QFg) (c:V) (cv:Value):List V->Hp->VK->Prop:=λxs H Q=>∃(a C:Addr) (b:Bool),xs=[.ref a,c]/\H a=some (.ext (phi a C))/\ExcQ K C/\kitOne K (.ref C) cv=some b/\Q (.bl b) H
theorem zpd {c:V}{cv:Value}(hcv:∀u,RelV c u->u=cv):CallR X (.builtin "isinstance") (zys X.K c cv):=by
 intro pins s σ H xs us Q I r h
 obtain ⟨a,C,b,rfl,ha,hc,hk,q⟩:=h
 obtain ⟨u1,u2,rfl,r1,r2⟩:=r.two
 cases (show u1=Value.ref a from r1)
 cases hcv u2 r2
 obtain ⟨ph,_⟩:=(show ObjOk X.prog X.w H s.heap a (.ext (phi a C)) from I.hok a _ ha)
 exact kia_one (zo9 hc) I.kIn ph hk (λz=>nomatch z) λtk=>⟨.bl b,H,I.tok tk,rfl,q⟩
end
noncomputable def zdd (tab:List (Str × Bool)):D->Sto->Option (D × Sto):=λx S=>match x with
 | .ref n=>(match S[n]? with
  | some (.exc c)=>(tab.lookup c).bind λb=>some (.bl b,S)
  | _=>none)
 | _=>none
theorem zlf {K:QFg}{ρ:List Addr}{S:Sto}{H:Hp}{x v:D}{S':Sto}{x':V}{tab:List (Str × Bool)}(sim:Sim K ρ S H) (r:RD ρ H x x') (h:zdd tab x S=some (v,S')) :
  S' = S/\∃a c C b,x' = .ref a/\tab.lookup c=some b/\v=.bl b/\nsIn K mainGlobals c=some (some (.ref C))/\H a=some (.ext (phi a C)):=by
 unfold zdd at h
 split at h
 ·split at h
  ·rename_i n S c e
   obtain ⟨b,hb,h⟩:=bnd h
   cases h
   cases r with
   | @ref _ a hn =>
    obtain ⟨C,hc,hH⟩:=sim.at' n a _ hn e
    exact ⟨rfl,a,c,C,b,rfl,hb,rfl,hc,hH⟩
  ·cases h
 ·cases h
section
variable {X:Cx}{a:Expr}{ma:EM}{pos p tp p2:Pos}{es:List Expr}{Cs:List Addr}{x1:Nat}{tab:List (Str × Bool)}{y:Str}{D0:Addr}
theorem zlg:bootBuiltins "isinstance" = some (.builtin "isinstance"):=by decide +kernel
theorem zpe (hg:Gl X "isinstance") (hm:X.mg "isinstance" = none) (ha:PE3 X a ma) (hn:PN X es Cs) (hl:Cs.length<=sizeLine)
  (hk:∀c b C,tab.lookup c=some b->nsIn X.K mainGlobals c=some (some (.ref C))->ExcQ X.K C/\kitAny X.K (.ref C) (Cs.map Value.ref)=some b)
  (he:starEach (a :: [.Tuple es x1 tp]) X.env=(false,eval a X.env) :: starEach [.Tuple es x1 tp] X.env:=by rfl) (he2:starEach [.Tuple es x1 tp] X.env=(false,eval (.Tuple es x1 tp) X.env) :: starEach [] X.env:=by rfl) (hpl:(backTo pos (starEach [.Tuple es x1 tp] X.env)).any (·.1)=false:=by rfl) :
  PE3 X (.Call (.Name "isinstance" p) [a,.Tuple es x1 tp] [] pos) (eUn (zdd tab) ma) :=
 PE.imp (zgx zyr hg hm zlg (zcn ha (zcn (zm0 hn) zdw he2) he) (by decide) (by decide) he hpl) λσ H Q hx1_=>by
  obtain ⟨ρ,l,S,v,S',sim,ro,hq,pz⟩:=hx1_
  obtain ⟨⟨x,S1⟩,h1,hq⟩:=bnd hq
  refine ⟨ρ,l,S,x,S1,sim,ro,h1,λρ1 H1 x' e1 s1 r1=>?_⟩
  obtain ⟨rfl,a',c,C,b,rfl,hb,rfl,hc,hH⟩:=zlf s1 r1 hq
  obtain ⟨q1,q2⟩:=hk c b C hb hc
  refine ⟨by rw [qlm];exact hl,λt ht=>?_⟩
  refine ⟨a',t,C,Cs,b,rfl,?_,zbg,q1,q2,?_⟩
  ·rw [zaj (zbd hH ht)];exact hH
  ·exact pz ρ1 _ _ (e1.trans (zb1 ht)) (s1.laid ht) (.bl b)
theorem zpf (hg:Gl X "isinstance") (hm:X.mg "isinstance" = none) (ha:PE3 X a ma) (hgy:Gl X y) (hmy:X.mg y=some (.ref D0))
  (hk:∀c b C,tab.lookup c=some b->nsIn X.K mainGlobals c=some (some (.ref C))->ExcQ X.K C/\kitOne X.K (.ref C) (.ref D0)=some b) (hd:(y == ("__debug__":Str))=false:=by decide)
  (he:starEach (a :: [.Name y p2]) X.env=(false,eval a X.env) :: starEach [.Name y p2] X.env:=by rfl) (he2:starEach [.Name y p2] X.env=(false,eval (.Name y p2) X.env) :: starEach [] X.env:=by rfl) (hpl:(backTo pos (starEach [.Name y p2] X.env)).any (·.1)=false:=by rfl) :
  PE3 X (.Call (.Name "isinstance" p) [a,.Name y p2] [] pos) (eUn (zdd tab) ma) :=
 PE.imp (zgx (zpd (c:=.ref D0) (cv:=.ref D0) λu h=>h) hg hm zlg (zcn ha (zcn (zpa hgy hmy hd) zdw he2) he) (by decide) (by decide) he hpl) λσ H Q hx2_=>by
  obtain ⟨ρ,l,S,v,S',sim,ro,hq,pz⟩:=hx2_
  obtain ⟨⟨x,S1⟩,h1,hq⟩:=bnd hq
  refine ⟨ρ,l,S,x,S1,sim,ro,h1,λρ1 H1 x' e1 s1 r1=>?_⟩
  obtain ⟨rfl,a',c,C,b,rfl,hb,rfl,hc,hH⟩:=zlf s1 r1 hq
  obtain ⟨q1,q2⟩:=hk c b C hb hc
  exact ⟨a',C,b,rfl,hH,q1,q2,pz ρ1 _ _ e1 s1 (.bl b)⟩
theorem zyt {U:String}(hg:Gl X "isinstance") (hm:X.mg "isinstance" = none) (ha:PE3 X a ma) (hgy:Gl X y) (hmy:X.mg y=none) (hv:bootBuiltins y=some (.type U))
  (hk:∀c b C,tab.lookup c=some b->nsIn X.K mainGlobals c=some (some (.ref C))->ExcQ X.K C/\kitOne X.K (.ref C) (.type U)=some b) (hn:y≠"__name__":=by decide) (hdb:(y == ("__debug__":Str))=false:=by decide)
  (he:starEach (a :: [.Name y p2]) X.env=(false,eval a X.env) :: starEach [.Name y p2] X.env:=by rfl) (he2:starEach [.Name y p2] X.env=(false,eval (.Name y p2) X.env) :: starEach [] X.env:=by rfl) (hpl:(backTo pos (starEach [.Name y p2] X.env)).any (·.1)=false:=by rfl) :
  PE3 X (.Call (.Name "isinstance" p) [a,.Name y p2] [] pos) (eUn (zdd tab) ma) :=
 PE.imp (zgx (zpd (c:=.ty U) (cv:=.type U) λu h=>h) hg hm zlg (zcn ha (zcn (zmh (v:=.ty U) hgy hmy hv rfl hn hdb) zdw he2) he) (by decide) (by decide) he hpl) λσ H Q hx3_=>by
  obtain ⟨ρ,l,S,v,S',sim,ro,hq,pz⟩:=hx3_
  obtain ⟨⟨x,S1⟩,h1,hq⟩:=bnd hq
  refine ⟨ρ,l,S,x,S1,sim,ro,h1,λρ1 H1 x' e1 s1 r1=>?_⟩
  obtain ⟨rfl,a',c,C,b,rfl,hb,rfl,hc,hH⟩:=zlf s1 r1 hq
  obtain ⟨q1,q2⟩:=hk c b C hb hc
  exact ⟨a',C,b,rfl,hH,q1,q2,pz ρ1 _ _ e1 s1 (.bl b)⟩
end
theorem zhi {K:QFg}{c0:Str}{b0:Bool}{C0:Addr}{R:Addr->Bool->Prop}(hn:nsIn K mainGlobals c0=some (some (.ref C0))) (h:R C0 b0) :
  ∀c b C,([(c0,b0)]:List (Str × Bool)).lookup c=some b->nsIn K mainGlobals c=some (some (.ref C))->R C b:=λc b C hl hc=>by
 rw [List.lookup_cons] at hl
 split at hl
 ·rename_i q
  cases hl
  have e:c=c0:=by simpa using q
  subst e
  rw [hn] at hc;cases hc
  exact h
 ·cases hl
theorem zyu {c0:Str}{R:Str->Prop}(h:R c0):∀c,(c == c0)=true->R c:=λc hc=>by
 have e:c=c0:=by simpa using hc
 rw [e];exact h
def zpg (X:Cx) (T:String) (ty:V->Hp->Prop):Prop:=∀(pins:List (Addr × Obj)) (s:Shared) (σ:St) (H:Hp) (x:V) (v:Value),Inv X pins σ H s->RelV x v->ty x H ->
 s.TypeIs v T/\∀a,v=.ref a->∃ob,s.heap.get? a=some ob/\ob.dict=none
section
variable {X:Cx}{o e:Expr}{es:List Expr}{to:TE}{t:TA}{name:Str}{apos cpos:Pos}{T id:String}{r:V->List V->Hp->VK->Prop}{ty:V->Hp->Prop}
theorem zyv (tok:zpg X T ty) (pa:PlainAttrs T) (slot:Slot T name id) (hty:typeOf (.builtin id)=pure (.type "method_descriptor")) (hm:MtM X id r) (ho:PE X o to) (ha:PA X (e :: es) t)
  (hbase:attributeBase o name X.env (eval o X.env)=eval o X.env:=by rfl)
  (hfew:((backTo cpos (starEach (e :: es) X.env)).all (λx=>!x.1) && (backToKw cpos (keywordEach [] X.env)).all (λx=>x.1.isSome)
   && decide ((e :: es).length+([]:List Keyword).length+(if ([]:List Keyword).isEmpty then 0 else 1)<30))=true:=by rfl)
  (hline:(apos.endLine == cpos.line)=true:=by rfl) (hs:starEach (e :: es) X.env=(false,eval e X.env) :: starEach es X.env:=by rfl) (hplain:(backTo cpos (starEach es X.env)).any (·.1)=false:=by rfl) :
  PE X (.Call (.Attribute o name apos) (e :: es) [] cpos) (λσ H Q=>to σ H λx H1=>ty x H1/\t σ H1 λxs H2=>r x xs H2 Q):=by
 intro pins s σ H Q I h
 refine wpAny_Call_method_late hbase hfew hline rfl (thn (ho pins s σ H _ I h) λv s1 ⟨x,H1,I1,r1,ty1,q1⟩=>?_)
 obtain ⟨h1,h2⟩:=tok pins s1 σ H1 x v I1 r1 ty1
 refine ⟨T,id,pa,slot,hty,h1,h2,?_⟩
 have hA:=ha cpos pins s1 σ H1 _ I1 q1
 rw [hs] at hA ⊢
 refine Calls.callWith_builtin (by show (false || (backTo cpos (starEach es X.env)).any (·.1))=false;rw [hplain] <;> rfl) (Calls.evalArgs_plain ?_)
 exact thn hA λus s2 ⟨vs,H2,I2,r2,q2⟩=>hm pins s2 σ H2 x vs v us Q I2 r1 r2 q2
end
theorem zyw (is:List Int):zdo (is.map D.int)=some is:=by
 induction is with
 | nil=>rfl
 | cons i r ih=>show (zdo (r.map D.int)).bind _=_;rw [ih];rfl
section
variable {X:Cx}{j:Nat}
end
section
variable {X:Cx}{j:Nat}{o e:Expr}{mo m:EM}{apos cpos:Pos}
variable {a b:Expr}{ma mb:EM}{pos:Pos}
end
section
variable {K:QFg}{ρ:List Addr}{H:Hp}{S:Sto}
end
section
variable {X:Cx}{a b e f o i value:Expr}{ma mb me mf mo mi mv:EM}{pos pos' apos cpos:Pos}{k:Nat}
end
section
variable {X:Cx}{pos:Pos}
end
section
variable {X:Cx}{o i value:Expr}{mo mi mv:EM}{pos pos':Pos}{k:Nat}
end
def Fnc (K:QFg) (mg:Str->Option Value) (x:Str):Prop:=∃f o,PySem.W.nsIn K mainGlobals x=some (some (.ref f))/\K.lookup f=some o/\mg x=some (.ref f)
section
variable {K:QFg}{ρ:List Addr}{H:Hp}{S:Sto}
end
section
variable {X:Cx}{x y:Str}{pos p:Pos}{a:Expr}{es:List Expr}
end
section
variable {k:Nat}{names:List (Str × NameKind)}{acc:List (Str × Addr)}
theorem zlh:∀{names:List (Str × NameKind)}{k:Nat}{acc:List (Str × Addr)}{x:Str}{c:Addr},(x,c)∈cellsFrom k names acc->(x,c)∈acc\/(k<=c/\(x,NameKind.cell)∈names)
 | [],_,_,_,_,h=>.inl h
 | (n,kd) :: r,k,acc,x,c,h=>by
  unfold cellsFrom at h
  split at h
  ·rename_i hk
   have hk:kd=.cell:=by simpa using hk
   subst hk
   rcases zlh h with h|⟨h1,h2⟩
   ·rcases List.mem_cons.mp h with e|h
    ·cases e;exact .inr ⟨qlr _,List.mem_cons_self⟩
    ·exact .inl h
   ·exact .inr ⟨by omega,List.mem_cons_of_mem _ h2⟩
  ·rcases zlh h with h|⟨h1,h2⟩
   ·exact .inl h
   ·exact .inr ⟨h1,List.mem_cons_of_mem _ h2⟩
theorem zli:∀{names:List (Str × NameKind)}{k:Nat}{acc:List (Str × Addr)},(∀x y c,(x,c)∈acc->(y,c)∈acc->x=y)->(∀x c,(x,c)∈acc->c<k)->∀x y c,(x,c)∈cellsFrom k names acc->(y,c)∈cellsFrom k names acc->x=y
 | [],_,_,hi,_,x,y,c,h1,h2=>hi x y c h1 h2
 | (n,kd) :: r,k,acc,hi,hl,x,y,c,h1,h2=>by
  unfold cellsFrom at h1 h2
  split at h1
  ·rename_i hk
   rw [if_pos hk] at h2
   refine zli (λx y c g1 g2=>?_) (λx c g=>?_) x y c h1 h2
   ·rcases List.mem_cons.mp g1 with e1|g1 <;> rcases List.mem_cons.mp g2 with e2|g2
    ·cases e1;cases e2;rfl
    ·cases e1;exact absurd (hl _ _ g2) (Nat.lt_irrefl _)
    ·cases e2;exact absurd (hl _ _ g1) (Nat.lt_irrefl _)
    ·exact hi x y c g1 g2
   ·rcases List.mem_cons.mp g with e|g
    ·cases e;exact Nat.lt_succ_self _
    ·exact Nat.lt_succ_of_lt (hl _ _ g)
  ·rename_i hk
   rw [if_neg hk] at h2
   exact zli hi hl x y c h1 h2
theorem ziy:∀{names:List (Str × NameKind)}{k:Nat}{acc:List (Str × Addr)}{x:Str},((x,NameKind.cell)∈names\/∃c,acc.lookup x=some c)->∃c,(cellsFrom k names acc).lookup x=some c
 | [],_,_,x,h=>by
  rcases h with h|h
  ·cases h
  ·exact h
 | (n,kd) :: r,k,acc,x,h=>by
  unfold cellsFrom
  split
  ·rename_i hk
   have hk:kd=.cell:=by simpa using hk
   subst hk
   refine ziy ?_
   by_cases hx:x=n
   ·exact .inr ⟨k,by rw [hx,List.lookup_cons];simp⟩
   ·rcases h with h|⟨c,h⟩
    ·rcases List.mem_cons.mp h with e|h
     ·cases e;exact absurd rfl hx
     ·exact .inl h
    ·refine .inr ⟨c,?_⟩
     rw [List.lookup_cons]
     have:(x == n)=false:=by simpa using hx
     rw [this];exact h
  ·rename_i hk
   refine ziy ?_
   rcases h with h|h
   ·rcases List.mem_cons.mp h with e|h
    ·cases e;simp at hk
    ·exact .inl h
   ·exact .inr h
theorem zlj:∀{names:List (Str × NameKind)}{k:Nat}{acc:List (Str × Addr)}{x:Str},(x,NameKind.cell) ∉ names->(cellsFrom k names acc).lookup x=acc.lookup x
 | [],_,_,_,_=>rfl
 | (n,kd) :: r,k,acc,x,h=>by
  unfold cellsFrom
  split
  ·rename_i hk
   have hk:kd=.cell:=by simpa using hk
   subst hk
   rw [zlj λz=>h (List.mem_cons_of_mem _ z),List.lookup_cons]
   have:(x == n)=false:=by
    have:x≠n:=λe=>h (by rw [e];exact List.mem_cons_self)
    simpa using this
   rw [this]
  ·exact zlj λz=>h (List.mem_cons_of_mem _ z)
theorem zlk:∀{names:List (Str × NameKind)}{k k0:Nat}{acc:List (Str × Addr)}{x:Str}{c:Addr},k0<=k->((x,NameKind.cell)∈names\/∃c',acc.lookup x=some c'/\k0<=c')->(cellsFrom k names acc).lookup x=some c->k0<=c
 | [],k,k0,acc,x,c,_,h,e=>by
  have e:acc.lookup x=some c:=e
  rcases h with h|⟨c',h,q⟩
  ·cases h
  ·rw [h] at e;cases e;exact q
 | (n,kd) :: r,k,k0,acc,x,c,hk0,h,e=>by
  unfold cellsFrom at e
  split at e
  ·rename_i hk
   have hk:kd=.cell:=by simpa using hk
   subst hk
   refine zlk (by omega) ?_ e
   by_cases hx:x=n
   ·exact .inr ⟨k,by rw [hx,List.lookup_cons];simp,hk0⟩
   ·rcases h with h|⟨c',h,q⟩
    ·rcases List.mem_cons.mp h with e|h
     ·cases e;exact absurd rfl hx
     ·exact .inl h
    ·refine .inr ⟨c',?_,q⟩
     rw [List.lookup_cons]
     have:(x == n)=false:=by simpa using hx
     rw [this];exact h
  ·rename_i hk
   refine zlk hk0 ?_ e
   rcases h with h|h
   ·rcases List.mem_cons.mp h with e|h
    ·cases e;simp at hk
    ·exact .inl h
   ·exact .inr h
theorem ze3 (env:Env):∀(names:List (Str × NameKind)) (cs:List (Str × Addr)),(∀x c,(x,c)∈cs->env.cells.lookup x=some c)->∀x c,(x,c)∈zby env names cs->env.cells.lookup x=some c
 | [],cs,h,x,c,q=>h x c q
 | (n,k) :: r,cs,h,x,c,q=>by
  unfold zby at q
  split at q
  ·split at q
   ·rename_i c' e
    refine ze3 env r _ (λy d hy=>?_) x c q
    rcases List.mem_cons.mp hy with z|hy
    ·cases z;exact e
    ·exact h y d hy
   ·exact ze3 env r cs h x c q
  ·exact ze3 env r cs h x c q
theorem zll:∀{names:List (Str × NameKind)}{h:Heap}{acc:List (Str × Addr)}{x:Str}{c:Addr},(x,c)∈cellsFrom h.objs.size names acc->(x,c)∈acc\/(pushCells h names).IsCell c none
 | [],_,_,_,_,q=>.inl q
 | (n,kd) :: r,h,acc,x,c,q=>by
  unfold cellsFrom at q
  unfold pushCells
  split at q
  ·rename_i hk
   rw [if_pos hk]
   have:=zll (names:=r) (h:=h.push { cls:=.type "cell",data:=.cell none }) (acc:=(n,h.objs.size) :: acc) (x:=x) (c:=c) (by rw [Heap.size_push];exact q)
   rcases this with z|z
   ·rcases List.mem_cons.mp z with e|z
    ·cases e
     exact .inr ⟨_,pushCells_keeps r _ _ _ (Heap.get?_push_size _ rfl),rfl⟩
    ·exact .inl z
   ·exact .inr z
  ·rename_i hk
   rw [if_neg hk]
   exact zll q
end
theorem zyx {M:Model}{A:Around}{E:Value->Shared->Prop}{s:Shared}{scope:Scope}{globals:Addr}{cl:List (Str × Addr)}{qual:Str}{outer:Env}{Q:Env->Shared->Prop}
  (hQ:∀h',h'.Ns s.heap.objs.size (λ_=>none)->(∀b o,s.heap.get? b=some o->h'.get? b=some o)->(∀x c,(x,c)∈cellsFrom (s.heap.objs.size+1) scope.names cl->(x,c)∈cl\/h'.IsCell c none) ->
   Q (newEnv scope s.heap.objs.size globals (cellsFrom (s.heap.objs.size+1) scope.names cl) qual none .none (some outer) builtinsNs) { s with heap:=h' }) :
  wpAny M A (newFunctionEnv scope globals cl [] qual none .none (some outer)) Q E s:=by
 unfold newFunctionEnv
 refine qwb (wpAny_alloc ?_)
 refine qwb (wpAny_layCells _ (λname kind cells=>by cases hkc:kind == NameKind.cell <;> simp [hkc]) _ _ _ _ ?_)
 dsimp only
 rw [List.forIn_nil]
 refine qwb (qwp (qwp ?_))
 have hz:(s.heap.push { cls:=.type "dict",data:=.dict #[] }).objs.size=s.heap.objs.size+1:=Heap.size_push ..
 have h1:=hQ (pushCells (s.heap.push { cls:=.type "dict",data:=.dict #[] }) scope.names) ((Heap.Ns.new s.heap (.type "dict")).keeps (pushCells_keeps _ _)) (λb o e=>pushCells_keeps _ _ b o (qps _ e)) (λx c q=>zll (by rw [hz];exact q))
 simp only [Option.isSome_some,if_true,hz]
 exact h1
noncomputable def cxD (X:Cx) (N':List Str) (scope:Scope) (C:Addr) (s:Shared) (H:Hp) (fp:List Addr) (pins:List (Addr × Obj)):Cx where
 prog:=X.prog
 w:=X.w
 K:=X.K
 mg:=X.mg
 base:=X.base
 A:=X.A
 N:=N'
 s₀:=s
 H₀:=H
 env:=compEnvC scope (cellsFrom (C+1) scope.names (zby X.env scope.names [])) C X.env
 outer:=X.stack
 stack:=X.stack
 ex:=fp
 fn:=λx=>scope.names.contains (x,NameKind.cell)
 calm:=X.calm
 pn:=X.pn++pins
 xe:=λ_ _=>False
structure CompSd (X:Cx) (N':List Str) (scope:Scope) (src:St->St):Prop where
 kind:scope.kind=.function
 names:∀y∈scope.names,y.2=.local->scope.names.lookup y.1=some .local
 free:∀y∈scope.names,y.2=.free->X.env.kindOf y.1=some .cell\/X.env.kindOf y.1=some .free
 rel:∀y,(relabel scope X.env).names.lookup y=some .cell\/(relabel scope X.env).names.lookup y=some .free->(y,NameKind.free)∈scope.names\/(y,NameKind.cell)∈scope.names
 one:∀y,scope.names.lookup y=some .free->(y,NameKind.cell) ∉ scope.names
 len:∀σ,(src σ).length=N'.length
 src:∀σ (i:Nat) v x,(src σ)[i]? = some (some v)->N'[i]? = some x->∃j:Nat,X.N[j]? = some x/\σ[j]? = some (some v)/\scope.names.lookup x=some .free
theorem zyy {X:Cx}{N':List Str}{elt iter tgt:Expr}{ifs:List Expr}{scope:Scope}{pos pos':Pos}{use:Option (Value->Sem Unit)}{R:Value->Shared->Prop}{pins:List (Addr × Obj)}{s:Shared}{σ:St}{H:Hp}{Q:VK}{wi:TI}{src:St->St}{g:TG}{tts:TT}{t:TE}(hcalm:X.calm=true) (sc:CompSd X N' scope src)
  (hi:PI X tgt iter wi) (hg:∀C s H fp pins,PG (cxD X N' scope C s H fp pins) tgt g) (ht:∀C s H fp pins,PTs (cxD X N' scope C s H fp pins) ifs tts) (he:∀C s H fp pins,PE (cxD X N' scope C s H fp pins) elt t)
  (hs:∀x,foldedSetIterable iter X.env x=pure x) (I:Inv X pins σ H s) (h:zkh X.K wi src g tts t σ H Q)
  (fin:∀D H5 s6 C mC,Inv X pins σ H5 s6->zdu X pins H5 C->s6.heap.Ns C mC->Q (.ref D) H5->compPost (model X.prog X.w) X.A X.xe use R (.ref D) C (.ok .next) s6) :
  wpAny (model X.prog X.w) X.A (comprehension (.ListComp elt [⟨tgt,iter,ifs,0⟩] scope pos) scope X.env pos' (newList []) false (eval iter X.env) use) R X.xe s:=by
 have hasC:∀x∈scope.names,x.2=.free->∃c,X.env.cells.lookup x.1=some c:=λx hx hf=>I.ok.has x.1 (sc.free x hx hf)
 refine wpAny_comprehension_free (use:=use) (env:=X.env) rfl hs (zv8 scope X.env hasC) sc.kind sc.names ?_
 show wpAny (model X.prog X.w) X.A (eval iter X.env) _ _ s
 refine wpAny_mono (hi pins s σ H _ I h) (λv s1 h1=>wpAny_mono h1 (λitv s2 h2=>?_) λ_ _ z=>z) λ_ _ z=>z
 obtain ⟨it,fp,tn,J,H2,rfl,I2,T,st2,f2,q⟩:=h2
 refine wpAny_newObj_type ?_ (by show 0<=sizeLine;exact Nat.zero_le _)
 have hD:H2 s2.heap.objs.size=none:=I2.hok.fresh (qlr _)
 have I3:Inv X pins σ (upd H2 s2.heap.objs.size (.lst [])) { s2 with heap:=s2.heap.push { cls:=.type "list",data:=.seq ([]:List Value).toArray } }:=I2.lnew (t':=s2.toks) .nil (Nat.zero_le _)
 obtain ⟨W,⟨m0,w0⟩,turn⟩:=q s2.heap.objs.size hD (by
  cases e:X.K.lookup s2.heap.objs.size with
  | none=>rfl
  | some o=>exact absurd (Heap.lt_size (I2.kIn _ o e)) (Nat.lt_irrefl _))
 refine zyx λh' hns old0 hown0=>?_
 have fpIn:∀b∈fp,∃o,s2.heap.get? b=some o/\∀v,o.data≠.cell v:=T.obj 0 s2.heap st2
 have fpD:∀b∈fp,b≠s2.heap.objs.size:=λb hb=>let ⟨o,e,_⟩:=fpIn b hb;Nat.ne_of_lt (Heap.lt_size e)
 have f3:∀b∈fp,zdu X pins (upd H2 s2.heap.objs.size (.lst [])) b:=λb hb=>⟨by rw [zaj (fpD b hb)];exact (f2 b hb).1,(f2 b hb).2⟩
 have st3:tn 0 (s2.heap.push { cls:=.type "list",data:=.seq ([]:List Value).toArray }):=T.keep _ _ _ st2 λb hb o e=>qps _ e
 clear q hD h st2 f2 fpD
 generalize upd H2 s2.heap.objs.size (.lst [])=H3 at *
 generalize hDe:s2.heap.objs.size=D at *
 have fpIn3:∀b∈fp,∃o,(s2.heap.push { cls:=.type "list",data:=.seq ([]:List Value).toArray }).get? b=some o/\∀v,o.data≠.cell v:=T.obj 0 _ st3
 clear fpIn
 generalize s2.heap.push { cls:=.type "list",data:=.seq ([]:List Value).toArray }=h3 at *
 have old:∀b o,h3.get? b=some o->h'.get? b=some o:=old0
 have stkNo:∀b,b≠X.env.locals->b ∉ X.fs->b ∉ frs X.stack:=λb h1 h2 hb=>by
  rcases List.mem_cons.mp (I3.stkSub b hb) with z|z
  ·exact h1 z
  ·exact h2 z
 have sub:=zim X.env scope.names [] (λx c z=>by simp at z)
 have clLt:∀x c,(x,c)∈zby X.env scope.names []->c<h3.objs.size:=λx c z=>by
  obtain ⟨v,o,ho,_⟩:=I3.cell x c (ze3 X.env scope.names [] (λx c z=>by simp at z) x c z)
  exact Heap.lt_size ho
 have clInj:∀x y c,(x,c)∈zby X.env scope.names []->(y,c)∈zby X.env scope.names []->x=y:=λx y c z1 z2=>by
  have e1:=ze3 X.env scope.names [] (λx c z=>by simp at z) x c z1
  have e2:=ze3 X.env scope.names [] (λx c z=>by simp at z) y c z2
  exact I3.ok.inj x y c e1 e2
 have own:∀x c,(cellsFrom (h3.objs.size+1) scope.names (zby X.env scope.names [])).lookup x=some c->X.env.cells.lookup x=some c\/(h3.objs.size+1<=c/\h'.IsCell c none):=λx c z=>by
  have zm:=PySem.mem_of_lookup z
  rcases zlh zm with y|⟨y,_⟩
  ·exact .inl (ze3 X.env scope.names [] (λx c z=>by simp at z) x c y)
  ·rcases hown0 x c zm with q|q
   ·exact absurd (clLt x c q) (Nat.not_lt.mpr (Nat.le_of_succ_le y))
   ·exact .inr ⟨y,q⟩
 have cNe:∀b o,h3.get? b=some o->b≠h3.objs.size:=λb o e=>Nat.ne_of_lt (Heap.lt_size e)
 have exf:∀b∈fp,∀x c,(cellsFrom (h3.objs.size+1) scope.names (zby X.env scope.names [])).lookup x=some c->c≠b:=λb hb x c z=>by
  rcases own x c z with y|⟨y,_⟩
  ·exact (f3 b hb).2.2.2.2.1 x c y
  ·obtain ⟨o,e,_⟩:=fpIn3 b hb
   exact λz=>absurd (Nat.lt_of_lt_of_le (Heap.lt_size e) (Nat.le_of_succ_le y)) (by rw [z];exact Nat.lt_irrefl _)
 have frC:∀x c,(cellsFrom (h3.objs.size+1) scope.names (zby X.env scope.names [])).lookup x=some c->H3 c=none:=λx c z=>by
  rcases own x c z with y|⟨y,_⟩
  ·exact I3.freeC x c y
  ·exact I3.hok.fresh (Nat.le_of_succ_le y)
 have I4:Inv (cxD X N' scope h3.objs.size { s2 with heap:=h3 } H3 fp pins) [] (src σ) H3 { s2 with heap:=h',toks:=s2.toks }:=by
  refine ⟨⟨I3.ok.mod,sc.kind,I3.ok.glob,I3.ok.blt,qlr _,λx y c h1 h2=>zli clInj (λx c z=>Nat.lt_succ_of_lt (clLt x c z)) x y c (PySem.mem_of_lookup h1) (PySem.mem_of_lookup h2),λx hx=>?_,λx c z q=>Nat.le_of_succ_le (zlk (k0:=h3.objs.size+1) (qlr _) (.inl (by have z:scope.names.contains (x,NameKind.cell)=true:=z;simpa using z)) q),I3.ok.hd,I3.ok.frames,.inl rfl,λb hb=>⟨?_,λx c z=>exf b hb x c z⟩,λb o e=>I3.bs b o e,Nat.le_trans I3.ok.bsz I3.sz,λb o e hb=>?_,λb hb=>stkNo b (f3 b hb).2.1 (f3 b hb).2.2.1,I3.stack,I3.stkFree⟩,
   rfl,I3.bare,Un.kept old,⟨_,hns,λi x v h1 h2 h3'=>?_⟩,λx c z=>?_,I3.hok.fresh (qlr _),λx c z=>frC x c z,λp hp=>?_,I3.hok.kept old,sc.len σ⟩
  ·rcases sc.rel x hx with hm|hm
   ·exact ziy (.inr (zg9 X.env scope.names [] x (.inl hm) (hasC _ hm rfl)))
   ·exact ziy (.inl hm)
  ·obtain ⟨o,e,_⟩:=fpIn3 b hb
   exact cNe b o e
  ·rcases (f3 b hb).2.2.2.1 with z|z
   ·exact I3.ok.noex b o e z
   ·have:=Heap.lt_size (I3.ok.bs b o e).1
    exact absurd (Nat.lt_of_lt_of_le this z) (Nat.lt_irrefl _)
  ·obtain ⟨j,e1,e2,e3⟩:=sc.src σ i v x h2 h1
   obtain ⟨m,hn,hl⟩:=I3.loc
   have hmem:=PySem.mem_of_lookup e3
   have hk:=sc.free (x,.free) hmem rfl
   have vis:Vis X.env.scope x:=by
    rcases hk with k|k
    ·exact .inr (.inl k)
    ·exact .inr (.inr k)
   obtain ⟨u,r,lk⟩:=hl j x v e1 e2 vis
   refine ⟨u,r,.inr ⟨?_,?_⟩⟩
   ·exact zoe (scope:=scope) e3
   ·rcases lk with ⟨k,_⟩|⟨_,c,hc,hcell⟩
    ·rcases hk with k' | k' <;> (rw [k] at k';cases k')
    ·obtain ⟨c',hc'⟩:=zg9 X.env scope.names [] x (.inl hmem) ⟨c,hc⟩
     have:=sub x c' hc'
     rw [hc] at this;cases this
     have hc':(cellsFrom (h3.objs.size+1) scope.names (zby X.env scope.names [])).lookup x=some c:=by rw [zlj (sc.one x e3)];exact hc'
     obtain ⟨o,ho,hd⟩:=hcell
     exact ⟨c,hc',o,old _ _ ho,hd⟩
  ·rcases own x c z with y|⟨_,y⟩
   ·obtain ⟨v,o,ho,hd⟩:=I3.cell x c y
    exact ⟨v,o,old _ _ ho,hd⟩
   ·exact ⟨none,y⟩
  ·have hp':p∈X.pn++pins:=by simpa [cxD] using hp
   obtain ⟨e,n,ne,nf,d⟩:=I3.pin p hp'
   exact ⟨old _ _ e,n,cNe _ _ e,stkNo _ ne nf,d⟩
 have st4:tn 0 h':=T.keep _ _ _ st3 λb hb o e=>old b o e
 have fr4:∀b∈fp,H3 b=none:=λb hb=>(f3 b hb).1
 have stat:∀{H':Hp},(∀b∈fp,H' b=none)->∀b∈fp,zdu (cxD X N' scope h3.objs.size { s2 with heap:=h3 } H3 fp pins) [] H' b:=λhn b hb=>by
  obtain ⟨g0,g1,g2,g3,g4,g5⟩:=f3 b hb
  obtain ⟨o,e,_⟩:=fpIn3 b hb
  exact ⟨hn b hb,cNe b o e,stkNo b g1 g2,.inl hb,λx c z=>exf b hb x c z,λp hp=>g5 p (by simpa [cxD] using hp)⟩
 have loop:codeAny (model X.prog X.w) X.A (.compLoop (.ListComp elt [⟨tgt,iter,ifs,0⟩] scope pos) 0 (.ref it) (.ref D) (compEnvC scope (cellsFrom (h3.objs.size+1) scope.names (zby X.env scope.names [])) h3.objs.size X.env))
   (compPost (model X.prog X.w) X.A X.xe use R (.ref D) h3.objs.size) { s2 with heap:=h',toks:=s2.toks }:=by
  refine zv9 (λn s'=>∃i σ' H',Inv (cxD X N' scope h3.objs.size { s2 with heap:=h3 } H3 fp pins) [] σ' H' s'/\tn i s'.heap/\(∀b∈fp,H' b=none)/\W i n σ' H') ?_ m0 ⟨0,src σ,H3,I4,st4,fr4,w0⟩
  rintro n s5 ⟨i,σ5,H5,I5,st5,fr5,w5⟩
  rcases turn i n σ5 H5 w5 with ⟨stop,qn⟩|⟨go,N,hN,step⟩
  ·refine wpAny_mono (T.done (cxD X N' scope h3.objs.size { s2 with heap:=h3 } H3 fp pins) rfl rfl rfl hcalm i [] s5 σ5 H5 (λ_ _=>False) I5 (stat fr5) st5 stop) (λr s6 hr=>?_) λ_ _ z=>False.elim z
   obtain ⟨hr,I6⟩:=hr
   subst hr
   obtain ⟨mC,hnC,_⟩:=I6.loc
   have IX:Inv X pins σ H5 s6:=I3.call' (s':=s6) (ch:=fp) I6.os I6.base I6.hok I6.bare λb hb=>⟨(f3 b hb).2.2.2.1,(f3 b hb).2.1,(f3 b hb).2.2.2.2.1,(f3 b hb).2.2.2.2.2⟩
   exact fin D H5 s6 h3.objs.size mC IX (I3.fpOk (qlr _) I6.free) hnC qn
  ·refine wpAny_mono (T.item (cxD X N' scope h3.objs.size { s2 with heap:=h3 } H3 fp pins) rfl rfl rfl hcalm i [] s5 σ5 H5 (λ_ _=>False) I5 (stat fr5) st5 go) (λr s6 hr=>?_) λ_ _ z=>False.elim z
   obtain ⟨u,hr,h6⟩:=hr
   subst hr
   refine wpAny_mono h6 (λ_ s7 h7=>?_) λ_ _ z=>False.elim z
   obtain ⟨x,H7,I7,r7,y7,st7,fr7⟩:=h7
   have I7':=I7.pinned (stat fr7) (T.obj _ _ st7)
   refine wpAny_mono (hg _ _ _ _ _ _ s7 σ5 H7 x u _ I7' r7 (step x H7 y7)) (λ_ s8 h8=>?_) λ_ _ z=>False.elim z
   obtain ⟨σ8,H8,I8,q8⟩:=h8
   have again:∀{H9:Hp} {s9:Shared},Inv (cxD X N' scope h3.objs.size { s2 with heap:=h3 } H3 fp pins) ([]++zgu fp s7.heap) σ8 H9 s9->N σ8 H9->∃m,m<n/\∃i σ' H',Inv (cxD X N' scope h3.objs.size { s2 with heap:=h3 } H3 fp pins) [] σ' H' s9/\tn i s9.heap/\(∀b∈fp,H' b=none)/\W i m σ' H':=λ{H9 s9} I9 n9=>by
    obtain ⟨m',hm,w9⟩:=hN σ8 H9 n9
    refine ⟨m',hm,i+1,σ8,H9,I9.unpinned,T.keep _ _ _ st7 λb hb o e=>(I9.pin (b,o) (List.mem_append_right _ (List.mem_append_right _ (zh5 hb e)))).1,λb hb=>?_,w9⟩
    obtain ⟨o,e,d⟩:=T.obj _ _ st7 b hb
    exact (I9.pin (b,o) (List.mem_append_right _ (List.mem_append_right _ (zh5 hb e)))).2.1
   refine wpAny_mono (ht _ _ _ _ _ _ s8 σ8 H8 _ I8 q8) (λok s9 h9=>?_) λ_ _ z=>False.elim z
   obtain ⟨H9,I9,q9⟩:=h9
   cases ok with
   | false=>exact again I9 q9
   | true =>
    refine wpAny_mono (he _ _ _ _ _ _ s9 σ8 H9 _ I9 q9) (λy s10 h10=>?_) λ_ _ z=>False.elim z
    obtain ⟨vy,H10,I10,r10,ys,hys,hz,nx⟩:=h10
    refine wpAny_mono (zni (X:=cxD X N' scope h3.objs.size { s2 with heap:=h3 } H3 fp pins) _ s10 σ8 H10 (.ref D) [vy] (.ref D) [y] (λ_ H'=>N σ8 H') I10 rfl (.cons r10 .nil) ⟨D,ys,vy,rfl,rfl,hys,hz,nx⟩) (λ_ s11 h11=>?_) λ_ _ z=>False.elim z
    obtain ⟨_,H11,I11,_,n11⟩:=h11
    exact again I11 n11
 exact codeAny_compStart_list loop (T.self _ 0 _ _ _ st4 loop)
theorem zyz {X:Cx}{N':List Str}{elt iter tgt:Expr}{ifs:List Expr}{scope:Scope}{pos:Pos}{wi:TI}{src:St->St}{g:TG}{tts:TT}{t:TE}(hcalm:X.calm=true) (sc:CompSd X N' scope src)
  (hi:PI X tgt iter wi) (hg:∀C s H fp pins,PG (cxD X N' scope C s H fp pins) tgt g) (ht:∀C s H fp pins,PTs (cxD X N' scope C s H fp pins) ifs tts) (he:∀C s H fp pins,PE (cxD X N' scope C s H fp pins) elt t)
  (hs:∀x,foldedSetIterable iter X.env x=pure x:=by intro _;rfl):PE X (.ListComp elt [⟨tgt,iter,ifs,0⟩] scope pos) (zkh X.K wi src g tts t):=by
 intro pins s σ H Q I h
 rw [eval_ListComp]
 refine zyy (use:=none) hcalm sc hi hg ht he hs I h λD H5 s6 C mC IX fp hn q=>⟨mC,hn,λh'' sb=>⟨.ref D,H5,?_,rfl,q⟩⟩
 exact IX.turned (t':=s6.toks) (λb o hb e=>sb.extBut b o hb e) fp.1 fp.2.1 fp.2.2.2.1 fp.2.2.2.2.1 fp.2.2.2.2.2
theorem zlm {X:Cx}{N':List Str}{elt iter tgt:Expr}{ifs:List Expr}{scope:Scope}{pos:Pos}{im:IM}{ixs:List (Option Nat)}{g:GM}{t:TM}{e:EM}(hcalm:X.calm=true) (sc:CompSd X N' scope (zcc ixs))
  (hi:PI3 X tgt iter im) (hg:∀C s H fp pins,PG3 (cxD X N' scope C s H fp pins) tgt g) (ht:∀C s H fp pins,PTs (cxD X N' scope C s H fp pins) ifs (tt X.K t)) (he:∀C s H fp pins,PE3 (cxD X N' scope C s H fp pins) elt e)
  (hs:∀x,foldedSetIterable iter X.env x=pure x:=by intro _;rfl):PE3 X (.ListComp elt [⟨tgt,iter,ifs,0⟩] scope pos) (zdn im ixs g t e) :=
 PE.imp (zyz (g:=tg X.K g) (tts:=tt X.K t) (t:=te X.K e) hcalm sc hi hg ht he hs) zwh
noncomputable def zph (scO scope:Scope) (NO N':List Str) (ixs:List (Option Nat)):Bool :=
 decide (scope.kind=.function) && (scope.names.all λy=>y.2 != .local || scope.names.lookup y.1 == some .local) && (scope.names.all λy=>y.2 != .cell || scope.names.lookup y.1 == some .cell) &&
 (scope.names.all λy=>y.2 != .free || (scO.names.lookup y.1 == some .cell || scO.names.lookup y.1 == some .free)) && (ixs.length == N'.length) &&
 ((List.range ixs.length).all λi=>match ixs[i]? with|some (some j)=>(NO[j]? == N'[i]? && (match N'[i]? with|some x=>scope.names.lookup x == some .free|none=>false))|_=>true)
theorem zln {X:Cx}{scO scope:Scope}{NO N':List Str}{ixs:List (Option Nat)}(hX:X.env.scope=scO) (hN:X.N=NO) (h:zph scO scope NO N' ixs=true):CompSd X N' scope (zcc ixs):=by
 unfold zph at h
 simp only [Bool.and_eq_true,decide_eq_true_eq,List.all_eq_true,beq_iff_eq,Bool.or_eq_true,bne_iff_ne,ne_eq] at h
 obtain ⟨⟨⟨⟨⟨h1,h3⟩,h2⟩,h4⟩,h5⟩,h6⟩:=h
 refine ⟨h1,λy hy hl=>?_,λy hy hl=>?_,λy hy=>?_,λy hy hc=>?_,λσ=>by simp [zcc,h5],λσ i v x hv hx=>?_⟩
 ·rcases h3 y hy with z|z
  ·exact absurd hl z
  ·exact z
 ·show X.env.scope.names.lookup y.1=_\/X.env.scope.names.lookup y.1=_
  rw [hX]
  rcases h4 y hy with z|z
  ·exact absurd hl z
  ·exact z
 ·have mem:∃k,(k=NameKind.cell\/k=NameKind.free)/\(y,k)∈(relabel scope X.env).names:=by
   rcases hy with z|z
   ·exact ⟨_,.inl rfl,PySem.mem_of_lookup z⟩
   ·exact ⟨_,.inr rfl,PySem.mem_of_lookup z⟩
  obtain ⟨k,hk,hm⟩:=mem
  unfold relabel at hm
  obtain ⟨⟨n,k'⟩,hm1,hm2⟩:=List.mem_map.mp hm
  dsimp only at hm2
  split at hm2
  ·rename_i hc
   have:k' = .free:=by
    rw [Bool.and_eq_true,Bool.and_eq_true] at hc
    exact eq_of_beq hc.1.1
   cases hm2
   rw [<-this];exact .inl hm1
  ·cases hm2
   rcases hk with z|z
   ·rw [<-z];exact .inr hm1
   ·rw [<-z];exact .inl hm1
 ·rcases h2 (y,.cell) hc with z|z
  ·exact z rfl
  ·rw [hy] at z;cases z
 ·have hl:i<ixs.length:=by
   have:=(qme hv).1
   simpa [zcc] using this
  unfold zcc at hv
  rw [qgm] at hv
  have q:=h6 i (List.mem_range.mpr hl)
  cases e:ixs[i]? with
  | none=>rw [e] at hv;cases hv
  | some o =>
   rw [e] at hv
   cases o with
   | none=>cases hv
   | some j =>
    rw [e] at q
    dsimp only at q
    rw [hx] at q
    simp only [Bool.and_eq_true,beq_iff_eq] at q
    have hv:((σ[j]?).join:Option V)=some v:=qoi hv
    refine ⟨j,by rw [hN];exact q.1,?_,q.2⟩
    cases e2:σ[j]? with
    | none=>rw [e2] at hv;cases hv
    | some o2=>rw [e2] at hv;have hv:o2=some v:=hv;rw [hv]
end L3
namespace SP
open PySem PySem.W PyProof.Rows PySem.Calls
section
variable {prog:Program}{w:World}{A:Around}{E:Value->Shared->Prop}{s:Shared}
end
end SP
namespace L3
open PySem PySem.Spec PyProof.Rows L2
section
variable {X:Cx}
end
section
variable {X:Cx}{a:Expr}{es:List Expr}{mA:AM}{pos p:Pos}
end
end L3
namespace SP
open PySem PySem.W PyProof.Rows PySem.Calls
section
variable {prog:Program}{w:World}{A:Around}{E:Value->Shared->Prop}{s:Shared}{d it:Addr}{es:Array DictEntry}{ep i:Nat}
end
end SP
namespace L3
open PySem PySem.Spec PyProof.Rows L2
section
variable {X:Cx}{tg:Expr}
end
section
variable {X:Cx}{tgt iter:Expr}{m:EM}
end
section
variable {X:Cx}
end
section
variable {X:Cx}{a:Expr}{es:List Expr}{mA:AM}{pos p:Pos}
end
theorem zpi {α:Type}{c:Prop} [Decidable c] {x:Option α}{y:α}(h:(if c then x else none)=some y):c/\x=some y:=by
 by_cases e:c
 ·rw [if_pos e] at h;exact ⟨e,h⟩
 ·rw [if_neg e] at h;cases h
section
variable {X:Cx}{a:Expr}
end
section
variable {prog:Program}{w:World}{A:Around}{E:Value->Shared->Prop}{s:Shared}{c:Addr}{i j:Int}{t u:Tok}
end
section
variable {X:Cx}
end
section
variable {X:Cx}{a:Expr}{es:List Expr}{mA:AM}{pos p:Pos}
end
section
variable {prog:Program}{w:World}{K:Type} [DecidableEq K] {knd:HeapKind prog w K}{A:Around}{E:Value->Shared->Prop}{s:Shared}{d a:Addr}{k:K}{xs:List (K × Addr × Value)}{z:Value}
end
section
variable {X:Cx}{o e f:Expr}{td ty tx:TE}{apos cpos:Pos}
end
section
variable {X:Cx}{o e f:Expr}{mo me mf:EM}{apos cpos:Pos}{k:Nat}
end
section
variable {h:Heap}{p:PyData}
noncomputable def eqR (h:Heap) (p:PyData) (y:Value):Bool:=@decide (∃q as,Reads h y q as/\q.canLay0=true/\q.eqv p=true) (Classical.propDecidable _)
theorem zpj {y:Value}{q:PyData}{as:List Addr}(r:Reads h y q as) (c:q.canLay0=true):eqR h p y=q.eqv p:=by
 unfold eqR
 cases e:q.eqv p with
 | true=>exact @decide_eq_true _ (Classical.propDecidable _) ⟨q,as,r,c,e⟩
 | false =>
  refine @decide_eq_false _ (Classical.propDecidable _) λ⟨q',as',r',_,e'⟩=>?_
  have:=PySem.SeqAt.Reads.unique q q' y as as' c r r'
  subst this
  rw [e] at e';cases e'
theorem zlo:∀{us:List Value}{qs:List PyData}{as:List Addr},ReadsAll h us qs as->PyData.canLayAll0 qs=true->us.map (eqR h p)=qs.map λq=>q.eqv p
 | _,_,_,.nil,_=>rfl
 | _,_,_,.cons r rs,c=>by
  rw [PyData.canLayAll0,Bool.and_eq_true] at c
  rw [List.map_cons,List.map_cons,zpj r c.1,zlo rs c.2]
theorem zlp {A:Around}{s:Shared}{x:Value}{bs:List Addr}(rx:Reads s.heap x p bs) (cx:p.canLay0=true) (hu:A.units+p.depth<cLine):∀{us:List Value}{qs:List PyData}{as:List Addr},ReadsAll s.heap us qs as->PyData.canLayAll0 qs=true->∀y∈us,SeqAt.EqAt A s y x (eqR s.heap p y)
 | _,_,_,.nil,_=>λy hy=>by cases hy
 | _,_,_,.cons r rs,c=>λy hy=>by
  rw [PyData.canLayAll0,Bool.and_eq_true] at c
  rcases List.mem_cons.mp hy with e|hy
  ·subst e
   rw [zpj r c.1]
   exact PySem.SeqAt.eqAt_reads _ p A s _ x _ bs r rx c.1 cx (Nat.lt_of_le_of_lt (Nat.add_le_add_left (Nat.min_le_right _ _) _) hu)
  ·exact zlp rx cx hu rs c.2 y hy
end
section
variable {X:Cx}{k:Nat}
variable {a b:Expr}{ma mb:EM}{pos:Pos}
end
def zpk (K:QFg):V->List V->Hp->VK->Prop:=λy vs H Q=>∃x ρ S dx xs p qs a us j,vs=[x]/\Sim K ρ S H/\RD ρ H dx x/\y=.ref a/\H a=some (.lst us)/\RDs ρ H xs us/\zak S 60 dx=some p/\pyAll S 60 xs=some qs/\p.canLay0=true/\PyData.canLayAll0 qs=true/\(qs.map λq=>q.eqv p).idxOf? true=some j/\Q (.int j) H
noncomputable def ze4:D->List D->Sto->Option (D × Sto)
 | .ref n,[x],S=>match S[n]? with
  | some (.lst xs)=>(zak S 60 x).bind λp=>(pyAll S 60 xs).bind λqs=>if p.canLay0=true/\PyData.canLayAll0 qs=true then ((qs.map λq=>q.eqv p).idxOf? true).bind λj=>some (.int j,S) else none
  | _=>none
 | _,_,_=>none
theorem zy0 {l:List Bool}{j:Nat}(h:l.idxOf? true=some j):l[j]? = some true/\∀m,m<j->l[m]? = some false:=by
 unfold List.idxOf? at h
 rw [List.findIdx?_eq_some_iff_getElem] at h
 obtain ⟨hj,h1,h2⟩:=h
 refine ⟨by rw [qge hj];simpa using h1,λm hm=>?_⟩
 have:=h2 m hm
 rw [qge (Nat.lt_trans hm hj)]
 simpa using this
section
variable {X:Cx}{k:Nat}
theorem zy1 (hr:Room k X.A):MtM X "list.index" (zpk X.K):=by
 intro pins s σ H y vs v us' Q I ry rv' h
 obtain ⟨x,ρ,S,dx,xs,p,qs,a,us,j,rfl,sim,r1,rfl,hH,r2,h1,h2,c1,c2,hj,hq⟩:=h
 cases ry
 obtain ⟨u,rfl,ru⟩:=rv'.one
 obtain ⟨⟨as,k1⟩,_,_,k2⟩:=zd0 I sim 60 dx x u p r1 ru h1
 obtain ⟨z,its,n,rv,hl,e⟩:=I.lstM hH
 obtain ⟨⟨bs,k3⟩,_,_,_⟩:=zoo I sim 60 xs us its qs r2 rv h2
 have em:=zlo (p:=p) k3 c2
 rw [<-em] at hj
 obtain ⟨g1,g2⟩:=zy0 hj
 have hjl:j<its.length:=by have:=(qme g1).1;simpa using this
 have e1:eqR s.heap p its.toArray[j]=true:=by
  rw [qgm,qge hjl] at g1
  simpa using g1
 have hsm:(j:Int)<2 ^ 63-1:=by
  have:(sizeLine:Nat)=16777216:=sizeLine_eq
  omega
 refine call_meets F.slot_list_index ⟨_,e,rfl⟩ F.entry_list_index (F.args_list_index_2 _ _) (SeqAt.list_indexAt a its.toArray n none #[] u (eqR s.heap p) j (by simpa using hjl) hsm e1 λm hm hmj=>?_) ⟨e,λw hw=>zlp k1 c1 (by have:=hr.un;show X.A.units+1+_<_;omega) k3 c2 w (by simpa using hw),⟨.int j,H,I.tok _,⟨_,rfl⟩,hq⟩⟩
 have:=g2 m hmj
 have hml:m<its.length:=by simpa using hm
 rw [qgm,qge hml] at this
 simpa using this
theorem zy2 {K:QFg}:Mt3 K ze4 (zpk K):=by
 intro ρ S H x x' xs vs v S' Q sim rx r h p
 unfold ze4 at h
 split at h
 ·split at h
  ·rename_i n y S ys e
   obtain ⟨d1,h2,h⟩:=bnd h
   obtain ⟨ds,h3,h⟩:=bnd h
   obtain ⟨hc,h⟩:=zpi h
   obtain ⟨j,hj,h⟩:=bnd h
   cases h
   obtain ⟨w,rfl,rw'⟩:=r.one
   obtain ⟨a,us,ha,hH,r2⟩:=sim.lst e
   cases rx with
   | ref hn =>
    rw [ha] at hn;cases hn
    exact ⟨w,ρ,_,y,ys,d1,ds,a,us,j,rfl,sim,rw',rfl,hH,r2,h2,h3,hc.1,hc.2,hj,p ρ H _ (Ext.refl ..) sim (.int _)⟩
  ·cases h
 ·cases h
variable {o e:Expr}{mo me:EM}{apos cpos:Pos}
theorem zy3 (hr:Room k X.A) (ho:PE3 X o mo) (he:PE3 X e me) (hbase:attributeBase o "index" X.env (eval o X.env)=eval o X.env:=by rfl)
  (hfew:((backTo cpos (starEach [e] X.env)).all (λx=>!x.1) && (backToKw cpos (keywordEach [] X.env)).all (λx=>x.1.isSome) && decide (([e]:List Expr).length+([]:List Keyword).length+(if ([]:List Keyword).isEmpty then 0 else 1)<30))=true:=by rfl)
  (hline:(apos.endLine == cpos.line)=true:=by rfl) (hs:starEach [e] X.env=(false,eval e X.env) :: starEach [] X.env:=by rfl) (hplain:(backTo cpos (starEach [] X.env)).any (·.1)=false:=by rfl) :
  PE3 X (.Call (.Attribute o "index" apos) [e] [] cpos) (zc1 ze4 mo (zaa me zae)):=zik PySem.F.slot_list_index PySem.F.type_list_index (zy1 hr) zy2 ho (zac he zag hs) hbase hfew hline hs hplain
end
section
variable {X:Cx}{o:Expr}{mo:EM}{apos cpos:Pos}
end
section
variable {X:Cx}{pos:Pos}{ke ve:Expr}
end
section
variable {X:Cx}{pos:Pos}{ke ve:Expr}{mk mv:EM}{k:Nat}
end
section
variable {X:Cx}
end
section
variable {X:Cx}{a:Expr}{es:List Expr}{mA:AM}{pos p:Pos}
end
section
variable {elt t1 i1 t2 i2:Expr}{ifs1 ifs2:List Expr}{scope:Scope}{pos:Pos}{it acc:Value}{env:Env}
noncomputable abbrev two (elt t1 i1 t2 i2:Expr) (ifs1 ifs2:List Expr) (scope:Scope) (pos:Pos):Expr:=.ListComp elt [⟨t1,i1,ifs1,0⟩,⟨t2,i2,ifs2,0⟩] scope pos
variable {prog:Program}{w:World}{A:Around}{R:Result->Shared->Prop}{s:Shared}
end
abbrev RM:=Lo->Sto->Option ((Int × Nat) × Sto)
inductive tr (K:QFg) (r:RM) (σ:St) (H:Hp) (R:It->Hp->Prop):Prop
 | mk (ρ:_) (l:_) (S:_) (lo:_) (n:_) (S':_) (_:Sim K ρ S H) (_:RO ρ H l σ) (_:r l S=some ((lo,n),S')) (_:∀ρ' H',Ext ρ H ρ' H'->Sim K ρ' S' H'->R (Itr lo n) H')
section
variable {X:Cx}{tgt:Expr}{mA:AM}{p0 pos':Pos}{a a2:Expr}
end
section
variable {prog:Program}{w:World}{A:Around}{E:Value->Shared->Prop}{s:Shared}
variable {z TI TO i1 i2 c1 c2:Addr}{n1 n2 k:Nat}{P1 P2:Nat->Value->Prop}{T1 T2:Nat->Heap->Prop}{a b:Value}
end
section
variable {prog:Program}{w:World}{A:Around}{E:Value->Shared->Prop}{s:Shared}
variable {z TI TO i1 i2 c1 c2:Addr}{n1 n2 k:Nat}{P1 P2:Nat->Value->Prop}{T1 T2:Nat->Heap->Prop}{a b:Value}
end
section
variable {prog:Program}{w:World}{A:Around}{E:Value->Shared->Prop}{s:Shared}
end
section
variable {P:Program}{w:World}{K:QFg}{tg:Expr}
end
section
variable {X:Cx}{tg l:Expr}{tl:TE}{m:EM}
end
section
variable {X:Cx}{a b e:Expr}{m ma mb:EM}{pos:Pos}{es:List Expr}{ms:List EM}{out:Str}
end
open PySem.Builtin PySem.Builtin.Str
section
variable {X:Cx}
variable {o e:Expr}{mo m:EM}{apos cpos:Pos}{name:Str}{id:String}{f:D->List D->Sto->Option (D × Sto)}{r:V->List V->Hp->VK->Prop}
end
noncomputable def ziz:D->Sto->Option (D × Sto)
 | .int i,S=>some (.int (Builtin.Int.intBits i),S)
 | _,_=>none
section
variable {X:Cx}{o:Expr}{mo:EM}{apos cpos:Pos}
theorem zy4:MtM X "int.bit_length" (λx vs H Q=>∃i,x=.int i/\vs=[]/\Q (.int (Builtin.Int.intBits i)) H):=by
 intro pins s σ H x vs v us Q I rx rv h
 obtain ⟨i,rfl,rfl,q⟩:=h
 obtain ⟨t,rfl⟩:=rx
 cases rv
 exact call_int_bit_length ⟨.int (Builtin.Int.intBits i),H,I.tok _,⟨_,rfl⟩,q⟩
theorem zpl (ho:PE3 X o mo) (hbase:attributeBase o "bit_length" X.env (eval o X.env)=eval o X.env:=by rfl) (hline:(apos.endLine == cpos.line)=true:=by rfl) :
  PE3 X (.Call (.Attribute o "bit_length" apos) [] [] cpos) (eUn ziz mo) :=
 PE.imp (zuu PySem.F.plainAttrs_int PySem.F.slot_int_bit_length PySem.F.type_int_bit_length zy4 ho hbase hline) λσ H Q hx2_=>by
  obtain ⟨ρ,l,S,v,S',sim,ro,hq,p⟩:=hx2_
  obtain ⟨⟨x,S1⟩,h1,hq⟩:=bnd hq
  refine ⟨ρ,l,S,x,S1,sim,ro,h1,λρ1 H1 x' e1 s1 r1=>?_⟩
  cases r1 with
  | int i=>cases hq;exact ⟨rfl,i,rfl,rfl,p ρ1 H1 _ e1 s1 (.int _)⟩
  | _=>cases hq
end
section
variable {prog:Program}{w:World}{A:Around}{E:Value->Shared->Prop}
end
theorem zlq {X:Cx}{pins:List (Addr × Obj)}{σ:St}{H:Hp}{s:Shared}{a:Addr}{xs:List V}(I:Inv X pins σ H s) (h:H a=some (.tup xs)):∃its:List Value,Vals xs its/\IsTD s.heap a its.toArray:=by
 obtain ⟨_,its,r,p⟩:=I.hok a _ h
 exact ⟨its,r,p⟩
def zy5:V->Hp->Prop:=λx H=>∃a xs,x=.ref a/\H a=some (.tup xs)
theorem zy6 {X:Cx}:zpg X "tuple" zy5:=by
 intro pins s σ H x v I rx h
 obtain ⟨a,xs,rfl,hH⟩:=h
 cases rx
 obtain ⟨its,r,o,e,c,n,d,hd⟩:=zlq I hH
 exact ⟨⟨o,e,c⟩,λb z=>by cases z;exact ⟨o,e,hd⟩⟩
theorem zy7 {ns:List Int}{its:List Value}(r:Vals (ns.map V.int) its) {i:Nat}{y:Int}(h:ns[i]? = some y):∃t,its[i]? = some (.int y t):=by
 have e:(ns.map V.int)[i]? = some (.int y):=by rw [qgm,h];rfl
 obtain ⟨u,hu,ru⟩:=r.get e
 obtain ⟨t,rfl⟩:=ru
 exact ⟨t,hu⟩
section
variable {X:Cx}
noncomputable def zpm:D->Option Unit
 | .tup _=>some ()
 | _=>none
noncomputable def zlr (f:D->List D->Sto->Option (D × Sto)) (o:EM) (as:AM):EM:=λl S=>(o l S).bind λp=>(zpm p.1).bind λ_=>(as l p.2).bind λq=>f p.1 q.1 q.2
variable {o e:Expr}{mo m:EM}{apos cpos:Pos}
end
theorem zy8:isSubtype (.type "tuple") (.type "set")=pure false:=by rw [isSubtype_type];kernel_rfl
theorem zy9:isSubtype (.type "tuple") (.type "frozenset")=pure false:=by rw [isSubtype_type];kernel_rfl
noncomputable abbrev zgb (led:Bool):Obj:={ cls:=.type "set",dict:=none,data:=.set #[] 0 (.fresh 0 0 led) }
section
variable {prog:Program}{w:World}{A:Around}{E:Value->Shared->Prop}{s:Shared}
noncomputable abbrev dis (ns:List Int) (n:Nat):List Int:=firstMet (λi=>ns.getD i 0) n
theorem zza {t d:Addr}{its:Array Value}{ns:List Int}{led:Bool}{Q:PySem.Fin->Shared->Prop}(hh:A.handled=none) (ht:s.heap.IsTuple t its) (hi:IntsAre its.toList ns) (hb:its.size+1<scanBound)
  (hd:s.heap.get? d=some (zgb led)) (htd:t≠d)
  (h:∀(h':Heap) (tk:Nat),h'.SetOf (intKind prog w) d (λk'=>(dis ns its.size).any (· == k')) (dis ns its.size).length->(∀b o,b≠d->s.heap.get? b=some o->h'.get? b=some o)->Q (.done (.ret .none)) { s with heap:=h',toks:=tk }) :
  wpAny (model prog w) A (Builtin.«set.__init__» ⟨[.ref d,.ref t],[]⟩) Q E s:=by
 obtain ⟨ol,hol,hcl,nl,hdl⟩:=id ht
 have hTs:s.TypeIs (.ref d) "set":=⟨_,hd,rfl⟩
 have hTt:s.TypeIs (.ref t) "tuple":=⟨_,hol,hcl⟩
 have q1:=zy8
 have q2:=zy9
 obtain ⟨hp,g,dr,tk,os⟩:=s
 obtain ⟨c1,c2,c3,c4⟩:=ol
 dsimp only at hcl hdl hol
 subst hcl hdl
 unfold Builtin.«set.__init__» noKeywords Builtin.Frozenset.updateFrom
 generalize hPI:pyIter=PI
 wp_walk
 subst hPI
 have ht':hp.IsTuple t its:=ht
 have lt1:t<hp.objs.size:=Heap.lt_size hol
 have lt2:d<hp.objs.size:=Heap.lt_size hd
 refine wpAny_pyIter_tuple ht' (qwb (wpAny_runValue ?_))
 have vi:∀(i:Nat) (v:Value),its[i]? = some v->∃t,v=.int (ns.getD i 0) t:=λi v hv=>IntsAre.int_at hi i v (by rw [Array.getElem?_toList];exact hv)
 have nf:d ∉ [hp.objs.size,t]:=by
  simp only [List.mem_cons,List.not_mem_nil,or_false,not_or]
  exact ⟨Nat.ne_of_lt lt2,Ne.symm htd⟩
 refine codeAny_set_update_loopS (Walks.tuple (by simpa using hh) hp.objs.size t (Nat.ne_of_lt lt1) its).toS d nf (λi=>ns.getD i 0) vi hb (its.size-0) 0 _ (by omega) (Nat.zero_le _) ⟨⟨_,Heap.get?_push_size _ rfl,rfl,rfl⟩,?_⟩ ?_ λs' mv hS=>?_
 ·obtain ⟨o,e,r⟩:=id ht'
  exact ⟨o,qps _ e,r⟩
 ·exact SetOf_congr ((setObjOf_fresh (knd:=intKind prog w) led).setOf (qps _ hd) (by unfold scanBound;omega)) (λ_=>rfl) rfl
 ·obtain ⟨h',g',d',tk',os'⟩:=s'
  have eg:g' = g:=mv.gens
  have ed:d' = dr:=mv.drawn
  have eo:os' = os:=mv.os
  subst eg ed eo
  refine qwp (qwp (h h' tk' hS λb o hb e=>?_))
  exact mv.heap b o (by simp only [List.mem_cons,List.not_mem_nil,or_false,not_or];exact ⟨hb,Nat.ne_of_lt (Heap.lt_size e)⟩) (qps _ e)
theorem zzb {t:Addr}{its:Array Value}{ns:List Int}{Q:Value->Shared->Prop}(hh:A.handled=none) (ht:s.heap.IsTuple t its) (hi:IntsAre its.toList ns) (hb:its.size+1<scanBound)
  (h:∀(h':Heap) (tk:Nat),h'.SetOf (intKind prog w) s.heap.objs.size (λk'=>(dis ns its.size).any (· == k')) (dis ns its.size).length->(∀b o,s.heap.get? b=some o->h'.get? b=some o)->Q (.ref s.heap.objs.size) { s with heap:=h',toks:=tk }) :
  wpAny (model prog w) A (call (.type "set") [.ref t]) Q E s:=by
 obtain ⟨c,tl,k0⟩:=F.called_set.mro;have k1:=F.called_set.made;have k2:=F.called_set.sub
 refine wpAny_call (codeAny_of_tree (show wpAny _ _ (callAny (.type "set") _) _ _ _ from ?_))
 refine qwp ⟨Code.quiet_builtin _ (by decide +kernel),codeAny_builtin F.entry_type_call ?_⟩;rw [Around.under_plain (weight_type_call_type "set" [.ref t] []) rfl]
 have k3:=F.called_set.notType;have k4:=F.called_set.canCreate;have k5:=F.typeCall_set_1 (.ref t)
 repeat (any_goals (first|assumption|wp_step))
 refine codeAny_mono (code_set_new_1 (.ref t) (E:=E) (Q₁:=λx s1=>∃led,x=.ref s.heap.objs.size/\s1={ s with heap:=s.heap.push (zgb led) }) λled=>⟨led,rfl,rfl⟩) λr s1 hr=>?_
 match r,hr with
 | .error e,hr=>exact hr
 | .ok .next,hr=>exact hr.elim
 | .ok .brk,hr=>exact hr.elim
 | .ok .cont,hr=>exact hr.elim
 | .ok (.ret x),hr =>
  obtain ⟨led,rfl,rfl⟩:=hr
  have g1:(s.heap.push (zgb led)).get? s.heap.objs.size=some (zgb led):=Heap.get?_push_size _ rfl
  have g2:Shared.TypeIs { s with heap:=s.heap.push (zgb led) } (.ref s.heap.objs.size) "set":=⟨_,g1,rfl⟩
  have k6:=F.called_set.init.lookup;have k7:=F.called_set.init.bind (.ref s.heap.objs.size)
  repeat (any_goals (first|assumption|wp_step))
  have ht':(s.heap.push (zgb led)).IsTuple t its:=by
   obtain ⟨o,e,q⟩:=ht
   exact ⟨o,qps _ e,q⟩
  have lt1:t≠s.heap.objs.size:=by
   obtain ⟨o,e,q⟩:=ht
   exact Nat.ne_of_lt (Heap.lt_size e)
  refine codeAny_mono (codeAny_call_builtin (R:=wants (λr s2=>r=.none/\∃h' tk,s2={ s with heap:=h',toks:=tk }/\h'.SetOf (intKind prog w) s.heap.objs.size (λk'=>(dis ns its.size).any (· == k')) (dis ns its.size).length/\∀b o,s.heap.get? b=some o->h'.get? b=some o) E) F.called_set.init.plain F.entry_set_init
   (check_set_init_1 g2 (zza (led:=led) (by simpa using hh) ht' hi hb g1 lt1 λh' tk hS hk=>⟨rfl,h',tk,rfl,hS,λb o e=>hk b o (Nat.ne_of_lt (Heap.lt_size e)) (qps _ e)⟩))) λr2 s2 hr2=>?_
  match r2,hr2 with
  | .error e,hr2=>exact hr2
  | .ok .next,hr2=>exact hr2.elim
  | .ok .brk,hr2=>exact hr2.elim
  | .ok .cont,hr2=>exact hr2.elim
  | .ok (.ret y),hr2 =>
   obtain ⟨rfl,h',tk,rfl,hS,hk⟩:=hr2
   repeat (any_goals (first|assumption|wp_step))
   exact h _ _ hS hk
end
noncomputable def zgc:FM
 | [.tup xs],S=>(zdo xs).bind λns=>if ns.length+1<scanBound then some (.ref S.length,S++[.iset (λk=>(dis ns ns.length).any (· == k)) (dis ns ns.length).length]) else none
 | _,_=>none
noncomputable def zgd:FM
 | [.ref n],S=>match S[n]? with
  | some (.iset _ k)=>if k<scanBound then some (.int k,S) else none
  | _=>none
 | _,_=>none
theorem zpn:∀{ns:List Int}{its:List Value},Vals (ns.map V.int) its->IntsAre its ns
 | [],its,r=>by cases r;exact .nil
 | n :: ns,its,r=>by
  cases r with
  | cons p q=>obtain ⟨t,rfl⟩:=p;exact .cons n t (zpn q)
def zpo:List V->Hp->VK->Prop:=λxs H Q=>∃(a:Addr) (ns:List Int),xs=[.ref a]/\H a=some (.tup (ns.map V.int))/\ns.length+1<scanBound/\∀l,H l=none->Q (.ref l) (upd H l (.set (λk=>(dis ns ns.length).any (· == k)) (dis ns ns.length).length))
def zpp:List V->Hp->VK->Prop:=λxs H Q=>∃(a:Addr) (f:Int->Bool) (k:Nat),xs=[.ref a]/\H a=some (.set f k)/\k<scanBound/\Q (.int k) H
section
variable {X:Cx}{K:QFg}{a:Expr}{es:List Expr}{mA:AM}{pos p:Pos}{k:Nat}
theorem zzc (hr:Room k X.A):CallR X (.type "set") zpo:=by
 intro pins s σ H xs us Q I r h
 obtain ⟨b,ns,rfl,hH,hb,q⟩:=h
 obtain ⟨u,rfl,ru⟩:=zcm r
 cases ru
 obtain ⟨its,rv,o,e,c,n,d,hd⟩:=zlq I hH
 have hl:its.toArray.size=ns.length:=by have:=rv.length;simp at this;simp;omega
 refine zzb (its:=its.toArray) (ns:=ns) hr.hd ⟨o,e,c,n,d⟩ (by simpa using zpn rv) (by rw [hl];exact hb) λh' tk hS hk=>?_
 rw [hl] at hS
 exact ⟨.ref s.heap.objs.size,_,I.laid (o:=.set _ _) hk (qlr _) hS,rfl,q _ I.fresh⟩
theorem zzd:CallR X (.builtin "len") zpp:=by
 intro pins s σ H xs us Q I r h
 obtain ⟨b,f,j,rfl,hH,hj,q⟩:=h
 obtain ⟨u,rfl,ru⟩:=zcm r
 cases ru
 obtain ⟨o,es,ep,t,ho,hex,hd,_,_,_,hf,hn⟩:=(show s.heap.SetOf (intKind X.prog X.w) b f j from I.hok b _ hH)
 have h4:(4096:Nat)=scanBound:=rfl
 refine call_len_set ho hex hd hf (by omega) ?_
 rw [hn]
 exact ⟨.int j,H,I.tok _,⟨_,rfl⟩,q⟩
theorem zze:Fn3 K zgc zpo:=by
 intro ρ S H xs vs v S' Q sim r h p
 unfold zgc at h
 split at h
 ·obtain ⟨ns,h1,h⟩:=bnd h
  obtain ⟨hz,e⟩:=za3 h
  cases e
  obtain ⟨w,rfl,rw'⟩:=r.one
  cases rw' with
  | tup ha rr =>
   have:=zk9 h1 rr
   subst this
   exact ⟨_,ns,rfl,ha,hz,λl hl=>p (ρ++[l]) _ _ (zfi hl) (sim.pushG hl zbg) (.ref (by rw [<-sim.len];exact za5 ρ l))⟩
 ·cases h
theorem zzf:Fn3 K zgd zpp:=by
 intro ρ S H xs vs v S' Q sim r h p
 unfold zgd at h
 split at h
 ·split at h
  ·rename_i n S f j e
   obtain ⟨hz,e2⟩:=za3 h
   cases e2
   obtain ⟨w,rfl,rw'⟩:=r.one
   cases rw' with
   | ref hn=>exact ⟨_,f,j,rfl,sim.at' _ _ _ hn e,hz,p ρ H _ (Ext.refl ..) sim (.int _)⟩
  ·cases h
 ·cases h
theorem zzg:bootBuiltins "set" = some (.type "set"):=by decide +kernel
theorem zzh (hr:Room k X.A) (hg:Gl X "set") (hm:X.mg "set" = none) (ha:PA3 X (a :: es) mA) (he:starEach (a :: es) X.env=(false,eval a X.env) :: starEach es X.env:=by rfl) (hpl:(backTo pos (starEach es X.env)).any (·.1)=false:=by rfl):PE3 X (.Call (.Name "set" p) (a :: es) [] pos) (zaf zgc mA) :=
 zg3 (zzc hr) zze hg hm zzg ha (by decide) (by decide) he hpl
theorem zzi (hg:Gl X "len") (hm:X.mg "len" = none) (ha:PA3 X (a :: es) mA) (he:starEach (a :: es) X.env=(false,eval a X.env) :: starEach es X.env:=by rfl) (hpl:(backTo pos (starEach es X.env)).any (·.1)=false:=by rfl):PE3 X (.Call (.Name "len" p) (a :: es) [] pos) (zaf zgd mA) :=
 zfn zzd zzf hg hm PySem.boot_len ha (by decide) (by decide) he hpl
end
theorem zzj (ns:List Int):(dis ns ns.length).length=ns.length↔ns.Nodup:=by
 have key:∀(l acc:List Int),acc.Nodup->((l.foldl step_dedup acc).length=acc.length+l.length↔(acc++l).Nodup)/\(l.foldl step_dedup acc).length<=acc.length+l.length:=by
  intro l
  induction l with
  | nil=>intro acc h;simp [h]
  | cons x l ih =>
   intro acc h
   rw [List.foldl_cons]
   unfold step_dedup
   by_cases hx:acc.any (· == x)=true
   ·rw [if_pos hx]
    obtain ⟨i1,i2⟩:=ih acc h
    have hm:x∈acc:=by simpa using hx
    constructor
    ·constructor
     ·intro z;simp only [List.length_cons] at z;have i2:=i2;unfold step_dedup at i2;omega
     ·intro z
      rw [List.nodup_append] at z
      exact absurd rfl (z.2.2 x hm x List.mem_cons_self)
    ·simp only [List.length_cons];unfold step_dedup at i2;omega
   ·rw [if_neg hx]
    have hm:x ∉ acc:=by simpa using hx
    have hn:(acc++[x]).Nodup:=by rw [List.nodup_append];exact ⟨h,by simp,λa ha b hb=>by rw [List.mem_singleton.mp hb];exact λz=>hm (z ▸ ha)⟩
    obtain ⟨i1,i2⟩:=ih (acc++[x]) hn
    unfold step_dedup at i1 i2
    rw [qla,List.length_singleton] at i1 i2
    rw [List.append_assoc] at i1
    constructor
    ·rw [List.length_cons,show l.length+1=1+l.length from Nat.add_comm _ _,<-Nat.add_assoc]
     exact i1
    ·simp only [List.length_cons];omega
 have e:dis ns ns.length=ns.foldl step_dedup []:=by
  unfold dis firstMet
  congr 1
  apply List.ext_getElem?
  intro i
  rw [qgm]
  by_cases hi:i<ns.length
  ·rw [List.getElem?_range hi,qge hi];simp [hi]
  ·rw [List.getElem?_eq_none (by simpa using hi),List.getElem?_eq_none (by simpa using hi)];rfl
 rw [e]
 simpa using (key ns [] List.nodup_nil).1
end L3
namespace SP
open PySem PySem.W PyProof.Rows PySem.Calls
section
variable {prog:Program}{w:World}{A:Around}{E:Value->Shared->Prop}{s:Shared}
end
end SP
namespace L3
open PySem PySem.Spec PyProof.Rows L2
section
variable {X:Cx}{K:QFg}{a:Expr}{es:List Expr}{mA:AM}{pos p:Pos}
end
section
variable {X:Cx}{a b:Expr}{ma mb:EM}{pos:Pos}
end
open PySem.W
section
variable {X:Cx}{pos:Pos}
end
section
variable {X:Cx}{E:XK}{CA:Str->Addr}{tgt iter:Expr}{body:List Stmt}{g:GM}{b:SM}{rb:ZM}{m:EM}{pos:Pos}
end
section
variable {X:Cx}{K:QFg}{a:Expr}{es:List Expr}{mA:AM}{pos p:Pos}{k:Nat}
end
section
variable {X:Cx}{K:QFg}{a:Expr}{es:List Expr}{mA:AM}{pos p:Pos}
end
section
variable {M:Model}{A:Around}{E:Value->Shared->Prop}{s:Shared}{base:Heap}{env:Env}{outer:List Env}{L e C T:Addr}{m:Value}{Q:Unit->Shared->Prop}
end
section
variable {P:Program}{w:World}{K:QFg}{mg:Str->Option Value}{base:Heap}{N:List Str}{qual:Str}{scope:Scope}{f:Addr}{cd:Value}{A:Around}{outer:List Env}{s:Shared}{H:Hp}{E:XK}
end
section
variable {X:Cx}{E:XK}{CA:Str->Addr}{N':List Str}{elt iter tgt:Expr}{ifs:List Expr}{scope:Scope}{pos:Pos}
end
section
variable {X:Cx}{E:XK}{CA:Str->Addr}{r q:ZM}{mc:TM}{pos:Pos}
end
def TZ (X:Cx) (E:XK) (CA:Str->Addr) (sts:List Stmt) (r:ZM):Prop:=∀(pins:List (Addr × Obj)) (s:Shared) (σ:L2.St) (H:Hp),Inv X pins σ H s->Rz X.K E CA r σ H ->
 wpAny (model X.prog X.w) X.A (execs sts X.env) (λ_ _=>False) (λe s'=>∃H1 s1,Inv X pins σ H1 s1/\CX1 X.prog X.w X.stack H1 s1 E e s') s
section
variable {X:Cx}{E:XK}{CA:Str->Addr}{a:Expr}{es:List Expr}{mA:AM}{cpos p apos py tpos:Pos}{x y:Str}{k j n:Nat}{rx:ZF}{r q:ZM}
variable {i:Nat}{Dh:Addr}{nm hx:Str}{np hpos:Pos}{b0:Stmt}{body suite:List Stmt}{mN mS:SM}{ok:Str->Bool}
theorem zzk (i:Nat) (hN:X.N.Nodup) (hxe:∀e s,X.xe e s->False) (hstk:X.stack=X.env :: X.outer) (hfm:X.env.frame=some X.env.locals) (hex:X.ex=[]) (hmh:X.mg hx=some (.ref Dh)) (qD:excIn X.K Dh zc4 "ValueError.__new__" = true)
  (hok:∀c,ok c=true->PySem.W.nsIn X.K mainGlobals c=some (some (.ref (CA c)))/\excIn X.K (CA c) zc4 "ValueError.__new__" = true/\(Value.ref (CA c) :: zd2 X.K (CA c)).contains (.ref Dh)=true)
  (hS:∀e,zcj (mk1 X e) (b0 :: suite) mS) (hz:∀E,TZ X E CA body r) (hNorm:zcj X body mN)
  (hi:X.N[i]? = some nm:=by rfl) (hln:X.env.scope.names.lookup nm=some .local:=by rfl) (hgh:Gl X hx:=by rfl) (hd:(hx == ("__debug__":Str))=false:=by decide) :
  PS3 X (.Try body [.ExceptHandler (some (.Name hx np)) (some nm) (b0 :: suite) hpos] [] [] tpos) (zhh i ok mN r mS):=by
 have main:PS X (.Try body [.ExceptHandler (some (.Name hx np)) (some nm) (b0 :: suite) hpos] [] [] tpos) (λD σ H=>ts X.K mN D σ H\/Rz X.K (EH X Dh (ts X.K mS) i D σ) CA r σ H):=by
  intro pins s σ H D I h
  rcases h with h|h
  ·refine wpAny_Try_except (wpAny_mono (hNorm pins s σ H D I h) (λf s1 q=>?_) λe s1 z=>(hxe _ _ z).elim)
   cases f with
   | next=>exact wpAny_execs_nil q
   | _=>exact q
  ·exact wpAny_Try_except (wpAny_mono (hz _ pins s σ H I h) (λ_ _ z=>z.elim) λe s2 ⟨H1,s1,I1,cx⟩=>zyi (tS:=ts X.K mS) hstk hfm hex hgh hmh qD hS hN hi hln hd I1 cx)
 refine PS.imp main λD σ H hx1_=>?_
 obtain ⟨ρ,l,S,f,l',S',sim,ro,hm,pz⟩:=hx1_
 unfold zhh at hm
 cases e1:mN l S with
 | some q =>
  rw [e1] at hm
  cases hm
  exact .inl ⟨ρ,l,S,f,l',S',sim,ro,e1,pz⟩
 | none =>
  rw [e1] at hm
  cases e2:r l S with
  | none=>rw [e2] at hm;cases hm
  | some q =>
   obtain ⟨c,S1⟩:=q
   rw [e2] at hm
   obtain ⟨hc,hm⟩:=zk3 hm
   obtain ⟨⟨g,l2,S2⟩,q2,hm⟩:=bnd hm
   obtain ⟨k1,k2,k3⟩:=hok c hc
   refine .inr ⟨ρ,l,S,c,S1,sim,ro,e2,λρ1 H1 ex1 s1=>⟨CA c,rfl,k2,k3,λe he'=>?_⟩⟩
   have ex2:=zfi (ρ:=ρ1) (u:=.ext (phi e (CA c))) he'
   have sim2:Sim X.K (ρ1++[e]) (S1++[.exc c]) (upd H1 e (.ext (phi e (CA c)))):=s1.pushG he' ⟨CA c,k1,zbg⟩
   have ro2:=((ro.mono ex1).mono ex2).set i (d:=.ref S1.length) (v:=.ref e) (.ref (by rw [<-s1.len];exact za5 ρ1 e))
   cases g with
   | nx =>
    cases hm
    exact ⟨ρ1++[e],_,_,.nx,l2,S2,sim2,ro2,q2,λρ' H' σ' e' s' r'=>pz ρ' H' (σ'.set i none) (ex1.trans (ex2.trans e')) s' (RO.unset r' i)⟩
   | _=>cases hm
end
section
variable {X:Cx}{K:QFg}{a b:Expr}{ma mb:EM}{pos:Pos}
end
theorem zzl {a b c:Value}{i j:Int}{t u:Tok}(ha:a=.int i t) (hb:b=.int j u):∀{l:List Value},TriplesOk l->TriplesOk (l++[a,b,c]):=by
 intro l h
 subst ha hb
 fun_induction TriplesOk l with
 | case1=>exact trivial
 | case2 a t b u x rest ih=>exact ih h
 | case3=>exact h.elim
theorem zzm {pos:Pos}{a b c cv:Value}:∀{l:List Value},TriplesOk l->codeAmong pos (l++[a,b,c])=some cv->codeAmong pos l=some cv\/cv=c:=by
 intro l h e
 fun_induction TriplesOk l with
 | case1 =>
  simp only [List.nil_append] at e
  unfold codeAmong at e
  split at e
  ·rename_i heq
   injection heq with h1 h2
   injection h2 with h3 h4
   injection h4 with h5 h6
   split at e
   ·cases e;exact .inr h5.symm
   ·rw [<-h6] at e;simp [codeAmong] at e
  ·cases e
 | case2 a t b u x rest ih =>
  simp only [List.cons_append] at e
  unfold codeAmong at e ⊢
  try dsimp only at e ⊢
  split at e
  ·rename_i hc;rw [if_pos hc];exact .inl e
  ·rename_i hc;rw [if_neg hc];exact ih h e
 | case3=>exact h.elim
def zls (H H':Hp) (qual:Str) (P c:Addr):Prop:=CodeF H' qual c/\(H' = H\/∃oc ps',H c=none/\c≠P/\H' = upd (upd H c (.frz oc hTr)) P (.tbl ps')/\TabOk H' qual ps')
section
variable {X:Cx}{pins:List (Addr × Obj)}{σ:L2.St}{H:Hp}{s:Shared}{M:Model}{A:Around}{E:Value->Shared->Prop}
theorem zzo {params:Arguments}{body:Expr}{scope:Scope}{pos:Pos}{qual:Str}{c P:Addr}{ps:Array Value}{clos:List (Str × Addr)}{Q:Value->Shared->Prop}
  (I:Inv X pins σ H s) (hcode:X.env.code=.ref c) (hC:PySem.W.codeHdIn X.K c P=true) (hP:H P=some (.tbl ps)) (hT:TabOk H qual ps) (hq:X.env.qual++"<lambda>" = qual)
  (hdef:defaultsOf params X.env=([],[])) (hcl:closureFor scope X.env=pure clos)
  (h:∀f c' pm ctv H' s',zls H H' qual P c'->Inv X pins σ H' s'->s'.heap.get? f=some (PySem.W.kla_obj "<lambda>" qual params body scope clos pm c' ctv)->H' f=none->s.heap.objs.size<=f->Q (.ref f) s') :
  wpAny M A (eval (.Lambda params body scope pos) X.env) Q E s:=by
 have hPh:s.heap.get? P=some (PySem.W.tabObj ps):=I.hok P _ hP
 have C:PySem.W.CodeHd s.heap c P:=PySem.W.codeHd_of_K I.kIn hC
 have hg:s.heap.Ns mainGlobals X.mg:=I.mod.glob.keeps I.bk
 obtain ⟨bm,ob,b1,b2,b3,b4,b5,b6⟩:=I.mod.bm
 have neT:∀{b:Addr} {o:Obj},X.base.get? b=some o->b≠P:=λ{b o} e z=>by
  have:=(I.bs b o e).2
  rw [z,hP] at this;cases this
 have hgP:mainGlobals≠P:=by
  obtain ⟨o,es,ep,e,_⟩:=I.mod.glob
  exact neT e
 have hbG:bm≠mainGlobals:=λq=>by
  obtain ⟨o,es,ep,e,hd,_⟩:=I.mod.glob
  rw [q,e] at b3;cases b3;rw [hd] at b6;cases b6
 have hB:s.heap.BuiltinsAt X.mg P:=⟨bm,ob,b1,b2,hbG,neT b3,I.bk _ _ b3,b4,b5,b6⟩
 refine PySem.W.kla_eval hdef ?_
 rw [hq]
 cases hf:codeAmong pos ps.toList with
 | some cv =>
  obtain ⟨c',rfl,kc⟩:=hT.2 pos cv hf
  refine PySem.W.kla_makeFunctionHit (mg:=X.mg) hcl I.ok.glob hg hcode C hPh hT.1 hf hB λctv h' tk hk hsz=>?_
  have I1:Inv X pins σ H { s with heap:=h'.push { cls:=.type "function",data:=.func (PySem.W.kla_fn "<lambda>" qual params body scope clos ((X.mg "__name__").getD .none) (.ref c') ctv) },toks:=tk } :=
   I.kept λb o e=>qps _ (hk b o e)
  exact h _ c' _ ctv H _ ⟨kc,.inl rfl⟩ I1 (Heap.get?_push_size _ rfl) (I.hok.fresh hsz) hsz
 | none =>
  refine PySem.W.kla_makeFunction (mg:=X.mg) hcl I.ok.glob hg hcode C hPh hT.1 hf hgP hB λc' ctv h' tk hx hge hlt hrec htb=>?_
  obtain ⟨c₂,oc,vs,t,e2,hoc,hd,hv⟩:=hrec
  cases e2
  have hc0:H c' = none:=I.hok.fresh hge
  have hcP:c'≠P:=λz=>by rw [z,hP] at hc0;cases hc0
  have kp:∀b o,b≠P->s.heap.get? b=some o->(h'.push (PySem.W.kla_obj "<lambda>" qual params body scope clos ((X.mg "__name__").getD .none) c' ctv)).get? b=some o:=λb o hb e=>qps _ (hx b o hb e)
  have hP':(h'.push (PySem.W.kla_obj "<lambda>" qual params body scope clos ((X.mg "__name__").getD .none) c' ctv)).get? P=some (PySem.W.tabObj (ps++#[rawInt pos.line,rawInt pos.col,.ref c'])):=qps _ htb
  have hc':(h'.push (PySem.W.kla_obj "<lambda>" qual params body scope clos ((X.mg "__name__").getD .none) c' ctv)).get? c' = some oc:=qps _ hoc
  have nP:∀b,H b=none->b≠P:=λb n z=>by rw [z,hP] at n;cases n
  have nc:∀b u,H b=some u->b≠c':=λb u e z=>by rw [z,hc0] at e;cases e
  have keepH:∀b u,H b=some u->b≠P->upd (upd H c' (.frz oc hTr)) P (.tbl (ps++#[rawInt pos.line,rawInt pos.col,.ref c'])) b=some u:=λb u e hb=>by
   rw [zaj hb,zaj (nc b u e)];exact e
  have I1:Inv X pins σ (upd (upd H c' (.frz oc hTr)) P (.tbl (ps++#[rawInt pos.line,rawInt pos.col,.ref c']))) { s with heap:=h'.push (PySem.W.kla_obj "<lambda>" qual params body scope clos ((X.mg "__name__").getD .none) c' ctv),toks:=tk }:=by
   refine I.un ⟨λb o e n _ _=>kp b o (nP b n) e,λb o e n _ _=>⟨o.slots,kp b o (nP b n) e⟩,λb o e n _=>?_,λb o e _=>?_,λb xs e=>keepH b _ e (zcr e hP (by intro z;cases z)),λb o u e=>keepH b _ e (zcr e hP (by intro z;cases z)),λb qs e=>?_⟩ λb u e=>?_
   ·rw [zaj (nP b n),zaj (λz=>absurd (Nat.lt_of_lt_of_le (Heap.lt_size e) hge) (by rw [z];exact Nat.lt_irrefl _))];exact n
   ·by_cases hb:b=P
    ·exact ⟨_,hb ▸ hP'⟩
    ·exact ⟨o,kp b o hb e⟩
   ·by_cases hb:b=P
    ·subst hb
     rw [hP] at e;cases e
     exact ⟨_,zbg⟩
    ·exact ⟨#[],by rw [keepH b _ e hb];simp⟩
   ·by_cases hb:b=P
    ·subst hb
     rw [zbg] at e;cases e
     exact hP'
    ·rw [zaj hb] at e
     by_cases hbc:b=c'
     ·subst hbc
      rw [zbg] at e;cases e
      exact ⟨hc',trivial,⟨_,hc'⟩,λ_ _ _ _=>trivial⟩
     ·rw [zaj hbc] at e
      refine (I.hok b u e).stay (λd v hd r=>kp d v ?_ r) (λd r=>keepH d _ r (zcr r hP (by intro z;cases z))) λd xs r=>keepH d _ r (zcr r hP (by intro z;cases z))
      rcases hd with z|z
      ·rw [z];exact hb
      ·exact zcr z hP (by intro z;cases z)
  have kc:CodeF (upd (upd H c' (.frz oc hTr)) P (.tbl (ps++#[rawInt pos.line,rawInt pos.col,.ref c']))) qual c':=⟨oc,vs,t,by rw [zaj hcP,zbg],hd,hv⟩
  refine h _ c' _ ctv _ _ ⟨kc,.inr ⟨oc,_,hc0,hcP,rfl,?_,λpos' cv e=>?_⟩⟩ I1 (Heap.get?_push_size _ rfl) ?_ (Nat.le_trans hge (Nat.le_of_lt hlt))
  ·rw [Array.toList_append]
   exact zzl rfl rfl hT.1
  ·rw [Array.toList_append] at e
   rcases zzm hT.1 e with e|e
   ·obtain ⟨d,e1,oc2,vs2,t2,e3,e4⟩:=hT.2 pos' cv e
    exact ⟨d,e1,oc2,vs2,t2,keepH d _ e3 (zcr e3 hP (by intro z;cases z)),e4⟩
   ·exact ⟨c',e,kc⟩
  ·have hs:s.heap.objs.size<=h'.objs.size:=Nat.le_trans hge (Nat.le_of_lt hlt)
   rw [zaj (λz=>?_),zaj (Nat.ne_of_gt hlt)]
   ·exact I.hok.fresh hs
   ·have:=Heap.lt_size htb
    rw [z] at this;exact absurd this (Nat.lt_irrefl _)
end
section
variable {K:QFg}{ρ:List Addr}{H H':Hp}{S:Sto}
theorem zzp {qual:Str}{P c:Addr}{n:Nat}(hn:ρ[n]? = some P) (hP:∃ps,H P=some (.tbl ps)) (m:zls H H' qual P c):Ext ρ H ρ H':=by
 obtain ⟨ps,hP⟩:=hP
 obtain ⟨_,rfl|⟨oc,ps',h1,h2,rfl,h3⟩⟩:=m
 ·exact Ext.refl ..
 ·exact (zb1 h1).trans (znw (u:=.tbl ps) hn (by rw [zaj h2.symm];exact hP) ⟨λ_ z=>(by cases z),λ_ _ z=>(by cases z)⟩)
theorem Sim.made {x:Str}{P c:Addr}{n:Nat}(s:Sim K ρ S H) (hn:ρ[n]? = some P) (hS:S[n]? = some (.tab x)) (m:zls H H' (zcz x) P c):Sim K ρ S H':=by
 obtain ⟨c0,ps,t1,t2,hP,_⟩:=s.at' n P _ hn hS
 obtain ⟨_,rfl|⟨oc,ps',h1,h2,rfl,h3⟩⟩:=m
 ·exact s
 ·have e:=(s.laid (u:=.frz oc hTr) h1).setG (o1:=.tab x) (u1:=.tbl ps') hn hS rfl (by rw [zaj h2.symm];exact hP) ⟨λ_ z=>(by cases z),λ_ _ z=>(by cases z)⟩ ⟨c0,ps',t1,t2,zbg,h3⟩
  have hl:=qme hS
  rwa [show S.set n (.tab x)=S from by rw [<-hl.2,List.set_getElem_self]] at e
end
end L3
namespace SK
open PySem PySem.W PyProof.Rows PySem.Calls
section
variable {prog:Program}{w:World}{A:Around}{E:Value->Shared->Prop}{s:Shared}
theorem collectG {R:List Value->Shared->Prop}{r:Addr}{a b c:Int}{t u v:Tok}{n:Nat}(hh:A.handled=none) (hr:IsRange s.heap r a b c t u v) (hsm:Builtin.Range.small a b c=true) (hn:Builtin.Range.rangeSize a b c=n) (hl:n<=2 ^ 24)
  (h:∀(h':Heap) (tk:Nat) (acc:Array Value),s.heap.objs.size<=h'.objs.size->(∀b o,s.heap.get? b=some o->h'.get? b=some o)->ItemsOf (λi v=>∃t,v=.int (a+i*c) t) acc n->R acc.toList { s with heap:=h',toks:=tk }):wpAny (model prog w) A (collect (.ref r)) R E s:=by
 have hS₁:(s.heap.push { cls:=.type "list",data:=.seq ([]:List Value).toArray }).get? s.heap.objs.size=some { cls:=.type "list",data:=.seq #[] }:=Heap.get?_push_size _ rfl
 unfold collect
 refine qwb (wpAny_runValue (codeAny_builtin entry_proto_collect' ?_))
 rw [Around.under_plainId PySem.F.plain_proto_collect _]
 refine qwb (m:=newList []) (wpAny_newObj_type (qwp ⟨plainId_quiet PySem.F.plain_list_iadd _,codeAny_builtin entry_list_iadd' ?_⟩))
 rw [Around.under_plainId PySem.F.plain_list_iadd _]
 have key:=wpAny_extend_range (prog:=prog) (w:=w) (A:=A) (s:={ s with heap:=s.heap.push { cls:=.type "list",data:=.seq ([]:List Value).toArray } }) (R:=λ(q:Result) (s':Shared)=>∃(h':Heap) (tk:Nat) (acc:Array Value) (k:Nat),q=.ok (.ret (.ref s.heap.objs.size))/\s' = { s with heap:=h',toks:=tk }/\(∀b o,s.heap.get? b=some o->h'.get? b=some o)/\h'.get? s.heap.objs.size=some { cls:=.type "list",dict:=none,data:=.seq acc k,slots:=#[] }/\ItemsOf (λi v=>∃t,v=.int (a+i*c) t) acc n)
  hh (qps _ hr) hsm hn hl s.heap.objs.size (.ref s.heap.objs.size) 0 hS₁
  (λh' tk acc c hk hS' hacc=>⟨h',tk,acc,c,rfl,rfl,λb o e=>hk b o (Nat.ne_of_lt (Heap.lt_size e)) (qps _ e),hS',hacc⟩)
 refine wpAny_mono key (λfin s' z=>?_) λe s' z=>let ⟨_,_,_,_,e',_⟩:=z;(by cases e')
 cases fin with
 | done f =>
  obtain ⟨h',tk,acc,c,e,rfl,k,g,a⟩:=z
  cases e
  show wpAny _ A (load s.heap.objs.size >>= _) _ _ _
  exact qwb (wpAny_load g (qwp (h h' tk acc (Nat.le_of_lt (Heap.lt_size g)) k a)))
 | again c₁ =>
  refine ⟨z.1,codeAny_mono z.2 λq s₂ y=>?_⟩
  obtain ⟨h',tk,acc,c,rfl,rfl,k,g,a⟩:=y
  show wpAny _ A (load s.heap.objs.size >>= _) _ _ _
  exact qwb (wpAny_load g (qwp (h h' tk acc (Nat.le_of_lt (Heap.lt_size g)) k a)))
end
end SK
namespace L3
open PySem PySem.Spec PyProof.Rows L2
section
variable {X:Cx}{pins:List (Addr × Obj)}{σ:L2.St}{H:Hp}{s:Shared}
end
section
variable {X:Cx}
end
theorem rdI (ρ:List Addr) (H:Hp):∀xs:List Int,RDs ρ H (xs.map D.int) (xs.map V.int)
 | []=>.nil
 | x :: xs=>.cons (.int x) (rdI ρ H xs)
noncomputable def zbb:D->Int
 | .int i=>i
 | _=>0
section
variable {X:Cx}
end
section
variable {P:Program}{w:World}{K:QFg}{mg:Str->Option Value}{base:Heap}
theorem zzq {x qual:Str}{st:Stmt}{f c T:Addr}{fd:FuncData}{N ps:List Str}{k n:Nat}{b:SM}(F:Fun K x qual st f fd) (hf:PySem.W.nsIn K mainGlobals x=some (some (.ref f))) (hT:PySem.W.tabIn K x=some (c,T)) (S:FnScope N ps (zau st)) (hn:ps.length=n)
  (hbody:PySem.W.codeIn K (.ref c) qual=true->∀(A:Around) (outer:List Env) (s:Shared) (H:Hp) (E:XK),Room k (A.deeper (envOfC qual (zau st) s.heap.objs.size f (.ref c))) ->
   zcj (zbh CX0 P w K mg base N qual (zau st) f (.ref c) A outer s H E).nox (zch st) b):FnOk P w K mg base CX0 (k+1) f fd ps (sp3 K n (zbp N.length b)):=by
 obtain ⟨oc,od,kV,doc,pm,an,cdv,ct,osl,rfl,lk,hcd⟩:=F.ex
 have ec:cdv=.ref c:=by
  unfold PySem.W.tabIn at hT
  rw [hf] at hT
  dsimp only at hT
  rw [lk] at hT
  dsimp only [PySem.W.fnOf] at hT
  split at hT
  ·split at hT
   ·split at hT
    ·cases hT;first|assumption|rfl
    ·cases hT
   ·cases hT
  ·cases hT
 subst ec
 refine zjs lk hcd S (λvs H Q E h=>by rw [h.1,hn]) λA outer s H vs Q E hr h=>?_
 obtain ⟨hl,ρ,ds,S0,v,S',sim,rd,hm,p⟩:=h
 refine ⟨_,PSs.nox (hbody hcd A outer s H E hr),?_⟩
 obtain ⟨⟨fl,l',S1⟩,q,hm⟩:=bnd hm
 refine ⟨ρ,_,S0,fl,l',S1,sim,rd.locals N,q,λρ' H' σ' e' s' r'=>?_⟩
 cases fl with
 | nx=>cases hm;exact p ρ' H' _ e' s' .non
 | rt d=>cases hm;exact λv' rv=>p ρ' H' v' e' s' rv
 | bk=>cases hm
 | ct=>cases hm
theorem zzr {x:Str}{st:Stmt}{f c T:Addr}{fd:FuncData}{N ps:List Str}{k n:Nat}{b:SM}(F:Fun K x x st f fd) (hm:mg x=some (.ref f)) (hf:Fnc K mg x) (hT:PySem.W.tabIn K x=some (c,T)) (S:FnScope N ps (zau st)) (hn:ps.length=n) (hb:Binds K fd ps [])
  (hbody:PySem.W.codeIn K (.ref c) x=true->∀(A:Around) (outer:List Env) (s:Shared) (H:Hp) (E:XK),Room k (A.deeper (envOfC x (zau st) s.heap.objs.size f (.ref c))) ->
   zcj (zbh CX0 P w K mg base N x (zau st) f (.ref c) A outer s H E).nox (zch st) b):Has P w K mg base x (k+1) n (zbp N.length b):=by
 obtain ⟨f',o,h1,h2,h3⟩:=hf
 rw [hm] at h3
 cases h3
 exact ⟨f,fd,ps,zzq F h1 hT S hn hbody,hm,F.kp,hb⟩
end
def zi0 (ts:List Addr) (H:Hp):Prop:=∀b,(b∈ts/\H b=some (.tbl #[]))\/(b ∉ ts/\(H b=none\/∃o xs,H b=some (.frz o (.lst xs))))
theorem zzs {P:Program}{w:World}{K:QFg}{mg mb:Str->Option Value}{CX:CXT}{k:Nat}{fa a:Addr}{fd:FuncData}{x:Str}{sp:Sp}{s₁:Shared}{vs:List Value}{ns:List Int}{ts:List Addr}
  (KX:K.In s₁.heap) (hbm:BMd mg s₁.heap) (hns:s₁.heap.Ns mainGlobals mg) (hb:s₁.heap.Ns builtinsNs mb) (hbb:∀x:Str,x≠"__name__"->mb x=bootBuiltins x) (hlim:s₁.heap.NoLimit) (hg:s₁.gens = #[])
  (ha:s₁.heap.get? a=some { cls:=.type "list",data:=.seq vs.toArray }) (hi:IntsAre vs ns) (hl:ns.length<=sizeLine) (hr:Room k callerA)
  (hT:∀t∈ts,s₁.heap.get? t=some (PySem.W.tabObj #[])/\isCodeTable s₁.heap t/\K.lookup t=none)
  (F:∀base:Heap,K.In base->base.Ns mainGlobals mg->FnOk P w K mg base CX k fa fd [x] sp) (hbind:∀(s:Shared) (u:Value),BindsTo s fd ⟨[u],[]⟩ [(x,u)])
  (hsp:∀H:Hp,zi0 ts H->SqL K H a (ns.map V.int)->sp [.ref a] H (λv _=>v=.bl true) λ_ _ _=>False)
  (hCX:∀H e s',CX [] H s₁ (λ_ _ _=>False) e s'->False) :
  codeAny (model P w) callerA (.call (.ref fa) ⟨[.ref a],[]⟩) (λr s'=>r=.ok (.ret (.bool true))/\OldK s₁.heap s'.heap/\s'.os=s₁.os/\AllBare s'.gens) s₁:=by
 have rv:=znm hi
 have lenV:=hi.length
 have aT:a ∉ ts:=λz=>by rw [(hT a z).1] at ha;cases ha
 have core:∀H:Hp,zi0 ts H->SqL K H a (ns.map V.int)->HOk P w H s₁.heap->(∀b,H b≠none->b=a\/b∈ts)->(H a≠none->K.lookup a=none) ->
   codeAny (model P w) callerA (.call (.ref fa) ⟨[.ref a],[]⟩) (λr s'=>r=.ok (.ret (.bool true))/\OldK s₁.heap s'.heap/\s'.os=s₁.os/\AllBare s'.gens) s₁:=by
  intro H hO hS hok hA hK
  have no:∀{b:Addr} {o:Obj},s₁.heap.get? b=some o->o.cls≠.type "list"->o≠PySem.W.tabObj #[]->H b=none:=λ{b o} e n1 n2=>by
   cases q:H b with
   | none=>rfl
   | some u =>
    rcases hA b (by rw [q];simp) with z|z
    ·subst z
     rw [ha] at e;cases e
     exact absurd rfl n1
    ·rw [(hT b z).1] at e;cases e
     exact absurd rfl n2
  have nsK:∀{b:Addr} {m:Str->Option Value},s₁.heap.Ns b m->(zd7 s₁.heap H).Ns b m:=λ{b m} hx1_=>by
   obtain ⟨o,es,ep,e,d,r⟩:=hx1_
   refine ⟨o,es,ep,zjj e ?_,d,r⟩
   cases q:H b with
   | none=>rfl
   | some u =>
    rcases hA b (by rw [q];simp) with z|z
    ·subst z
     rw [ha] at e;cases e
     have d':Data.seq vs.toArray _=Data.dict es ep:=d
     cases d'
    ·rw [(hT b z).1] at e;cases e;cases d
  have hKb:K.In (zd7 s₁.heap H):=λb o e=>zjj (KX b o e) (by
   cases q:H b with
   | none=>rfl
   | some u =>
    rcases hA b (by rw [q];simp) with z|z
    ·subst z
     rw [hK (by rw [q];simp)] at e;cases e
    ·rw [(hT b z).2.2] at e;cases e)
  have hM:Mod K mg (zd7 s₁.heap H):=⟨hKb,nsK hns,⟨mb,nsK hb,hbb⟩,let ⟨mc,h1,h2⟩:=hlim;⟨mc,nsK h1,h2⟩,by
   obtain ⟨bm,ob,b1,b2,b3,b4,b5⟩:=hbm
   exact ⟨bm,ob,b1,b2,zjj b3 (no b3 (by rw [b4];decide) (by rintro rfl;cases b4)),b4,b5⟩⟩
  have e0:Env0 P w K mg (zd7 s₁.heap H) callerA [] s₁ H:=⟨rfl,hM,λb o e=>zr2 e,Nat.le_of_eq (zr1 _ _),trivial,λb hb=>absurd (show b∈([]:List Addr) from hb) (by simp),hok,.of_eq hg⟩
  refine codeAny_mono ((F _ hKb (nsK hns)).run callerA [] s₁ H ⟨[.ref a],[]⟩ [.ref a] [.ref a] _ _ hr e0 (hbind s₁ (.ref a)) (.cons rfl .nil) (hsp H hO hS)) λr s' h=>?_
  cases r with
  | error e=>exact (hCX H e s' h).elim
  | ok fl =>
   cases fl with
   | next=>exact False.elim h
   | brk=>exact False.elim h
   | cont=>exact False.elim h
   | ret u =>
    obtain ⟨v,H',os,bare,un,hok',r',q⟩:=h
    have q':v=.bl true:=q
    subst q'
    obtain rfl:u=Value.bool true:=r'
    refine ⟨rfl,⟨λb o e=>?_,λb o e=>un.there b o e (by simp)⟩,os,bare⟩
    rcases hO b with ⟨hb,z⟩|⟨hb,z|⟨ob,xs,z⟩⟩
    ·obtain ⟨more,z2⟩:=un.tbls b _ z
     rw [(hT b hb).1] at e;cases e
     exact .inr (.inl ⟨(hT b hb).2.1,rfl,#[],more,rfl,hok' b _ z2⟩)
    ·exact .inl (un.keep b o e z (by intro y;exact absurd (show b∈([]:List Addr) from y) (by simp)) (by simp))
    ·have z2:=un.frzs b ob _ z
     obtain ⟨e1,_⟩:=hok b _ z
     obtain ⟨e2,_⟩:=hok' b _ z2
     rw [e] at e1;cases e1
     exact .inl e2
 cases hk:K.lookup a with
 | some o =>
  have e:=KX a o hk
  rw [ha] at e
  cases e
  refine core (λb=>if b∈ts then some (.tbl #[]) else none) (λb=>?_) (.inr ⟨_,vs.toArray,_,hk,rfl,rfl,rfl,by rw [List.size_toArray,lenV];exact hl,by simpa using rv⟩) (λb u z=>?_) (λb z=>?_) λz=>absurd (if_neg aT) z
  ·by_cases h:b∈ts
   ·exact .inl ⟨h,if_pos h⟩
   ·exact .inr ⟨h,.inl (if_neg h)⟩
  ·by_cases h:b∈ts
   ·have z':=(if_pos h).symm.trans z
    cases z'
    exact (hT b h).1
   ·have z':=(if_neg h).symm.trans z
    cases z'
  ·by_cases h:b∈ts
   ·exact .inr h
   ·exact absurd (if_neg h) z
 | none =>
  refine core (λb=>if b∈ts then some (.tbl #[]) else if b=a then some (.frz { cls:=.type "list",data:=.seq vs.toArray } (.lst (ns.map V.int))) else none) (λb=>?_) (.inl (.inr ⟨{ cls:=.type "list",data:=.seq vs.toArray },(if_neg aT).trans (if_pos rfl)⟩)) (λb u z=>?_) (λb z=>?_) λ_=>hk
  ·by_cases h:b∈ts
   ·exact .inl ⟨h,if_pos h⟩
   ·refine .inr ⟨h,?_⟩
    by_cases hb:b=a
    ·exact .inr ⟨_,_,(if_neg h).trans (if_pos hb)⟩
    ·exact .inl ((if_neg h).trans (if_neg hb))
  ·by_cases h:b∈ts
   ·have z':=(if_pos h).symm.trans z
    cases z'
    exact (hT b h).1
   ·have z':=(if_neg h).symm.trans z
    by_cases hb:b=a
    ·have z2:=(if_pos hb).symm.trans z'
     cases z2
     subst hb
     exact ⟨ha,by rw [qlm];exact hl,vs,_,rv,ha⟩
    ·have z2:=(if_neg hb).symm.trans z'
     cases z2
  ·by_cases h:b∈ts
   ·exact .inr h
   ·by_cases hb:b=a
    ·exact .inl hb
    ·exact absurd ((if_neg h).trans (if_neg hb)) z
theorem zzt {l:PySem.W.OpenLaw}{n k:Nat}{q:Program}{loose:List Str}{XP:(Str->Option Value)->Heap->Prop}{YP:World->Heap->Prop}{d:DefRec}{K:Params->QFg}{CX:World->CXT}{sp:World->Sp}{x:Str}{ts:List Addr}
  (hn:l.most=some n) (hn2:n<=sizeLine) (hdf:d.params.defaults=[]) (hr:Room k callerA)
  (hY:∀(w:World) (h:Heap),YP w h->(K w.params).In h/\∀t∈ts,h.get? t=some (PySem.W.tabObj #[]))
  (hC:∀w:World,∀t∈ts,∃c,PySem.W.codeHdIn (K w.params) c t=true) (hN:∀w:World,PySem.W.noTabs (K w.params)=true)
  (F:∀(w:World) (mg:Str->Option Value) (fa:Addr) (h:Heap),(K w.params).In h->h.Ns mainGlobals mg->mg d.name=some (.ref fa) ->
   ∃fd:FuncData,(∀(s:Shared) (u:Value),BindsTo s fd ⟨[u],[]⟩ [(x,u)]) /\
    ∀base:Heap,(K w.params).In base->base.Ns mainGlobals mg->FnOk l.prog w (K w.params) mg base (CX w) k fa fd [x] (sp w))
  (hsp:∀(w:World) (H:Hp) (a:Addr) (ns:List Int),ns.length<=n->zi0 ts H->SqL (K w.params) H a (ns.map V.int)->sp w [.ref a] H (λv _=>v=.bl true) λ_ _ _=>False)
  (hCX:∀(w:World) (H:Hp) (s:Shared) (e:Value) (s':Shared),CX w [] H s (λ_ _ _=>False) e s'->False) :
  PySem.W.WalkO q loose XP YP l.row.toRowW d [] (λf vs=>PySem.call f vs):=by
 refine Att.attach_call hn hdf λw s₀ s₁ mg mb fa o pm cd doc a vs ns G Y ho hd hcd hmg hobj hints hlen hg=>?_
 obtain ⟨KX,hT⟩:=hY w _ Y
 obtain ⟨fd,hb,hF⟩:=F w mg fa _ KX G.T.g hmg
 refine zzs KX G.T.bmain G.T.g G.T.b G.T.builtins G.T.nolimit hg hobj hints (Nat.le_trans hlen hn2) hr (λt ht=>?_) hF hb (λH hO hS=>hsp w H a ns hlen hO hS) λH e s'=>hCX w H s₁ e s'
 obtain ⟨c,hc⟩:=hC w t ht
 refine ⟨hT t ht,((PySem.W.codeHd_of_K KX hc).tab (hT t ht)).isCodeTable,?_⟩
 cases e:(K w.params).lookup t with
 | none=>rfl
 | some u =>
  have e1:=KX t u e
  rw [hT t ht] at e1
  cases e1
  have h2:=List.all_eq_true.mp (hN w) (t,_) (PySem.W.mem_of_lookupK e)
  exact absurd (show false=true from h2) Bool.false_ne_true
noncomputable def ze5 (gs:List Str):Sto:=gs.map Ob.tab
theorem zzu {K:QFg}{H:Hp}{a:Addr}{ns:List Int}{m:FM}{gs:List Str}{ts:List Addr}(hG:ts.Nodup) (hts:∀(i:Nat) g t,gs[i]? = some g->ts[i]? = some t->∃c,PySem.W.tabIn K g=some (c,t)/\PySem.W.codeHdIn K c t=true) (hlen:gs.length=ts.length)
  (hO:zi0 ts H) (hS:SqL K H a (ns.map V.int)) (h:∃S',m [.ref 0] (.flst (ns.map D.int) :: ze5 gs)=some (.bl true,S')):sp3 K 1 m [.ref a] H (λv _=>v=.bl true) λ_ _ _=>False:=by
 obtain ⟨S',h⟩:=h
 refine ⟨rfl,a :: ts,[.ref 0],_,_,S',⟨by simp [ze5,hlen],λi j b o1 o2 h1 h2 h3 h4 m1 m2=>?_,λn b o h1 h2=>?_⟩,.cons (.ref rfl) .nil,h,λρ' H' v' e s r=>?_⟩
 ·cases i with
  | zero=>cases h3;cases m1
  | succ i =>
   cases j with
   | zero=>cases h4;cases m2
   | succ j =>
    rw [List.getElem?_cons_succ] at h1 h2
    obtain ⟨l1,e1⟩:=qme h1
    obtain ⟨l2,e2⟩:=qme h2
    have:=(List.getElem_inj hG).mp (e1.trans e2.symm)
    omega
 ·cases n with
  | zero =>
   cases h1;cases h2
   refine ⟨_,?_,rdI _ _ ns⟩
   rcases hS with (z|⟨o,z⟩)|z
   ·rcases hO a with ⟨_,y⟩|⟨_,y|⟨o,xs,y⟩⟩ <;> (rw [z] at y;cases y)
   ·exact .inl ⟨o,z⟩
   ·exact .inr z
  | succ n =>
   rw [List.getElem?_cons_succ] at h1 h2
   unfold ze5 at h2
   rw [qgm] at h2
   cases q:gs[n]? with
   | none=>rw [q] at h2;cases h2
   | some g =>
    rw [q] at h2
    cases h2
    obtain ⟨c,t1,t2⟩:=hts n g b q h1
    have hb:H b=some (.tbl #[]):=by
     rcases hO b with ⟨_,y⟩|⟨y,_⟩
     ·exact y
     ·exact absurd (qmg h1) y
    exact ⟨c,#[],t1,t2,hb,trivial,λpos cv z=>by simp [codeAmong] at z⟩
 ·cases r;rfl
def FT (K:QFg) (x:Str) (T:Addr):Prop:=∃c,PySem.W.tabIn K x=some (c,T)/\PySem.W.codeHdIn K c T=true
theorem ft_mk {K:QFg}{x:Str}{f c T:Addr}{oc o1:Value}{od o2:Option Addr}{sl o3:Array (Option Value)}{fd:FuncData}{vs:Array Value}(a:PySem.W.nsIn K mainGlobals x=some (some (.ref f))) (l:K.lookup f=some ⟨oc,od,.func fd,sl⟩) (e:fd.code=.ref c)
  (k:K.lookup c=some ⟨o1,o2,.fields vs,o3⟩) (h:vs[11]? = some (.ref T)) (d:PySem.W.codeHdIn K c T=true):FT K x T:=by
 refine ⟨c,?_,d⟩
 unfold PySem.W.tabIn
 rw [a]
 dsimp only
 rw [l]
 dsimp only
 rw [e]
 dsimp only
 rw [k]
 dsimp only
 rw [h]
section
variable {X:Cx}{pos:Pos}
end
section
variable {prog:Program}{w:World}{h₀:Heap}{a:Addr}{A:Around}{E:Value->Shared->Prop}{s:Shared}{Q:Value->Shared->Prop}
end
noncomputable def sm (i:Int):Bool:=decide (i.natAbs.log2<1920)
section
variable {X:Cx}{pins:List (Addr × Obj)}{σ:L2.St}{H:Hp}{s:Shared}{ρ:List Addr}{S:Sto}
end
noncomputable def txU (p:PyData) (S:Sto):Option (D × Sto):=if p.shown.length<=sizeLine then some (.str p.shown,S) else none
section
variable {X:Cx}{a:Expr}{es:List Expr}{mA:AM}{pos p:Pos}
theorem zzv {K:QFg}{f g:FM}{r r':List V->Hp->VK->Prop}(h:Fn3 K f r) (h':Fn3 K g r'):Fn3 K (λxs S=>match f xs S with|some v=>some v|none=>g xs S) (λxs H Q=>r xs H Q\/r' xs H Q):=by
 intro ρ S H xs vs v S' Q sim rr hm p
 dsimp only at hm
 cases e:f xs S with
 | some w=>rw [e] at hm;cases hm;exact .inl (h ρ S H xs vs _ _ Q sim rr e p)
 | none=>rw [e] at hm;exact .inr (h' ρ S H xs vs _ _ Q sim rr hm p)
end
open PySem.W
inductive LArgs (sc:Scope) (cs:List (Str × Addr)) (h:Heap):List Expr->List Value->Prop where
 | nil:LArgs sc cs h [] []
 | cons {x:Str} {p:Pos} {c:Addr} {u:Value} {es:List Expr} {us:List Value}:sc.names.lookup x=some .free->(x == ("__debug__":Str))=false->(x == ("__classdict__":Str))=false->cs.lookup x=some c->h.IsCell c (some u)->LArgs sc cs h es us->LArgs sc cs h (.Name x p :: es) (u :: us)
theorem LArgs.keeps {sc:Scope}{cs:List (Str × Addr)}{h h':Heap}{es:List Expr}{us:List Value}(k:∀b o,h.get? b=some o->h'.get? b=some o) (r:LArgs sc cs h es us):LArgs sc cs h' es us:=by
 induction r with
 | nil=>exact .nil
 | cons h1 h2 h3 h4 h5 _ ih=>exact .cons h1 h2 h3 h4 (h5.keeps k) ih
theorem zzw {M:Model}{A:Around}{E:Value->Shared->Prop}{s:Shared}{env:Env}{pos:Pos}{es:List Expr}{us:List Value}(hk:env.scope.kind=.function) (r:LArgs env.scope env.cells s.heap es us):∀{Q:List Value->Shared->Prop},Q us s->wpAny M A (spliced (backTo pos (starEach es env))) Q E s:=by
 induction r with
 | nil=>exact λh=>qwp h
 | cons h1 h2 h3 h4 h5 _ ih =>
  intro Q h
  refine Calls.spliced_cons (wpAny_Name (wpAny_loadName_free hk h1 h4 h5 ?_ h3) h2)
  exact ih h
section
variable {X:Cx}{pins:List (Addr × Obj)}{σ:L2.St}{H:Hp}{s:Shared}{E:XK}{CA:Str->Addr}
theorem zzx {env:Env}{s1 s':Shared}{H':Hp}{a C T T':Addr}{h':Heap}(kp:∀b o,s.heap.get? b=some o->s1.heap.get? b=some o) (hL:env.frame=some s.heap.objs.size)
  (I2:Inv X pins σ H' s') (un:Un (frs (env :: X.stack)) [] H H' s1.heap s'.heap) (na:s1.heap.get? a=none) (nT:s1.heap.get? T=none) (ha:H' a=none) (hT:H' T=none) (hE:E (.ref C) none H') (hLf:H' s.heap.objs.size=none) (hfl:s'.heap.FunFrames X.base (env :: X.stack))
  (hos:s'.os=s.os) (tr:Tr (frs (env :: X.stack)) a T s'.heap h') (fl:Fly h' a C T') (hT':T' = T\/s'.heap.get? T' = none):CX1 X.prog X.w X.stack H s E (.ref a) { s' with heap:=h' }:=by
 have hsub:∀b,b∈frs (env :: X.stack)->b=s.heap.objs.size\/b∈frs X.stack:=λb hb=>by
  unfold frs at hb
  rw [List.filterMap_cons,hL] at hb
  exact List.mem_cons.mp hb
 have hin:∀b,b∈frs X.stack->b∈frs (env :: X.stack):=λb hb=>by
  unfold frs
  rw [List.filterMap_cons,hL]
  exact List.mem_cons_of_mem _ hb
 have up:∀b,s1.heap.get? b=none->s.heap.get? b=none:=λb q=>by
  cases z:s.heap.get? b with
  | none=>rfl
  | some o=>rw [kp b o z] at q;cases q
 have hne:∀b o,s.heap.get? b=some o->b≠a/\b≠T/\b≠s.heap.objs.size:=λb o q=>⟨λz=>(by rw [z,up a na] at q;cases q),λz=>(by rw [z,up T nT] at q;cases q),Nat.ne_of_lt (Heap.lt_size q)⟩
 have there:∀b o,s.heap.get? b=some o->∃o',s'.heap.get? b=some o':=λb o q=>un.there b o (kp b o q) (by simp)
 have nT':s.heap.get? T' = none:=by
  rcases hT' with rfl|q
  ·exact up _ nT
  ·cases z:s.heap.get? T' with
   | none=>rfl
   | some o=>obtain ⟨o',e⟩:=there T' o z;rw [q] at e;cases e
 have hT'':H' T' = none:=by
  rcases hT' with rfl|q
  ·exact hT
  ·cases z:H' T' with
   | none=>rfl
   | some u=>obtain ⟨o',e⟩:=ObjOk.there (I2.hok T' u z);rw [q] at e;cases e
 refine ⟨a,C,T',H',rfl,hos,I2.bare,⟨λb o q n hb hx=>?_,λb o q n hb hx=>?_,λb o q n hx=>un.free b o (kp b o q) n (by simp),λb o q hx=>?_,un.tups,un.frzs,un.tbls⟩,λb u e=>?_,up a na,nT',fl,ha,hT'',hE⟩
 ·obtain ⟨h1,h2,h3⟩:=hne b o q
  have nb:b ∉ frs (env :: X.stack):=λz=>(hsub b z).elim h3 hb
  exact tr.keep b o nb h1 h2 (un.keep b o (kp b o q) n nb (by simp))
 ·obtain ⟨sl,e⟩:=un.slot b o (kp b o q) n (hin b hb) (by simp)
  obtain ⟨_,o2,ho2,hnf⟩:=hfl.mem (hin b hb)
  rw [e] at ho2;cases ho2
  obtain ⟨sl',e'⟩:=tr.slot b _ (hin b hb) e hnf
  exact ⟨sl',e'⟩
 ·obtain ⟨h1,h2,h3⟩:=hne b o q
  obtain ⟨o',e⟩:=there b o q
  by_cases hb:b∈frs (env :: X.stack)
  ·obtain ⟨_,o2,ho2,hnf⟩:=hfl.mem hb
   rw [e] at ho2;cases ho2
   obtain ⟨sl,e'⟩:=tr.slot b _ hb e hnf
   exact ⟨_,e'⟩
  ·exact ⟨o',tr.keep b o' hb h1 h2 e⟩
 ·refine (I2.hok b u e).stay (λc v hc q=>?_) (λ_ q=>q) λ_ _ q=>q
  have hcn:H' c≠none:=by
   rcases hc with z|z
   ·rw [z,e];intro y;cases y
   ·rw [z];intro y;cases y
  refine tr.keep c v (λz=>?_) (λz=>hcn (by rw [z];exact ha)) (λz=>hcn (by rw [z];exact hT)) q
  rcases hsub c z with y|y
  ·exact hcn (by rw [y];exact hLf)
  ·exact hcn (I2.stkFree c y)
theorem zzy {k n:Nat}{f a c:Addr}{fd:FuncData}{ps:List Str}{rx:ZF}{fx qual:Str}{params:Arguments}{scope:Scope}{cs:List (Str × Addr)}{pm ctv:Value}{p0 cpos:Pos}{e0:Expr}{es:List Expr}{us:List Value}{vs:List V}
  (F:FnOk X.prog X.w X.K X.mg X.base (CX1 X.prog X.w) k f fd ps (spZ X.K CA n rx)) (hm:X.mg fx=some (.ref f)) (hkf:PySem.W.keepIn X.K (.ref f)=true) (hb:Binds X.K fd ps []) (hr:Room (k+1) X.A) (I:Inv X pins σ H s)
  (ho:H a=some (.frz (PySem.W.kla_obj "<lambda>" qual params (.Call (.Name fx p0) (e0 :: es) [] cpos) scope cs pm c ctv) hTr)) (hC:CodeF H qual c)
  (hk:scope.kind=.function) (hco:scope.isCoroutine=false) (hgen:scope.isGenerator=false) (hno:∀z∈scope.names,z.2≠.cell) (hgf:scope.names.lookup fx=some .globalImplicit) (hdf:(fx == ("__debug__":Str))=false)
  (hbind:bindArgs (PySem.W.kla_fn "<lambda>" qual params (.Call (.Name fx p0) (e0 :: es) [] cpos) scope cs pm (.ref c) ctv) ⟨[],[]⟩=pure []) (hA:LArgs scope cs s.heap (e0 :: es) us) (rv:Vals vs us) (hz:spZ X.K CA n rx vs H (λ_ _=>False) E) (hst:∀env,starEach (e0 :: es) env=(false,eval e0 env) :: starEach es env) (hpl:∀env,(backTo cpos (starEach es env)).any (·.1)=false) :
  wpAny (model X.prog X.w) X.A (call (.ref a) []) (λ_ _=>False) (λe s'=>CX1 X.prog X.w X.stack H s E e s') s:=by
 obtain ⟨hoa,_⟩:=I.hok a _ ho
 obtain ⟨oc,vs2,t3,e1,e2,e3⟩:=hC
 refine wpAny_call (PySem.W.kla_callFunE hr.depth hoa rfl hco hgen rfl ⟨c,oc,vs2,t3,rfl,(I.hok c _ e1).1,e2,e3⟩ ?_)
 rw [hbind]
 refine qwp (wpAny_newFunctionEnv hno (λz hz=>by cases hz) (λh₁ hns hsb=>⟨I.nolimit.fresh _ hsb,PySem.W.kla_codeExpr ?_⟩) hk)
 have kp:∀b o,s.heap.get? b=some o->h₁.get? b=some o:=λb o e=>hsb.extBut b o (Nat.ne_of_lt (Heap.lt_size e)) (qps _ e)
 generalize henv:newEnv scope s.heap.objs.size mainGlobals cs (qual++Str.ofString ".<locals>.") (some a) (.ref c) none builtinsNs=env
 have hsc:env.scope=scope:=by rw [<-henv];rfl
 have hce:env.cells=cs:=by rw [<-henv];rfl
 have hfr:env.frame=some s.heap.objs.size:=by rw [<-henv];rfl
 have hgl:env.globals=mainGlobals:=by rw [<-henv];rfl
 have I1:Inv X pins σ H { s with heap:=h₁,toks:=s.toks+([]:List (Str × Value)).length }:=I.kept kp
 have hAs:LArgs env.scope env.cells h₁ (e0 :: es) us:=by rw [hsc,hce];exact hA.keeps kp
 have nst:s.heap.objs.size ∉ frs X.stack:=λz=>by
  obtain ⟨_,o,e,_⟩:=I.stack.mem z
  exact absurd (Heap.lt_size e) (Nat.lt_irrefl _)
 have nbase:X.base.get? s.heap.objs.size=none:=Heap.get?_none_of_le (Nat.le_trans I.ok.bsz I.sz)
 have nH:H s.heap.objs.size=none:=I.hok.fresh (qlr _)
 have e0':Env0 X.prog X.w X.K X.mg X.base (X.A.deeper env) (env :: X.stack) { s with heap:=h₁,toks:=s.toks+([]:List (Str × Value)).length } H:=by
  refine ⟨Around.frames_deeper I.ok.frames,I.ok.mod,I1.bs,Nat.le_trans I.ok.bsz I1.sz,.cons (by rw [hsc,hk];decide) hfr hns nbase I1.stack,λb hb=>?_,I1.hok,I1.bare⟩
  unfold frs at hb
  rw [List.filterMap_cons,hfr] at hb
  rcases List.mem_cons.mp hb with z|z
  ·rw [z];exact nH
  ·exact I1.stkFree b z
 refine wpAny_Call_Name_kw (Calls.Name_function_global (by rw [hsc];exact hk) (by show env.scope.names.lookup fx=_;rw [hsc];exact hgf) (Calls.loadGlobal_global (mg:=X.mg) (by rw [hgl];exact I1.mod.glob.keeps I1.bk) hm ?_) hdf)
 refine PySem.W.callWith_K (h₀:=X.base) I.ok.mod.kin hkf (zzw (us:=us) (by rw [hsc];exact hk) hAs ⟨I1.kIn,?_⟩) (hst env) (hpl env)
 have r2:Vals (vs++[]) (us++[]):=by rw [List.append_nil,List.append_nil];exact rv
 have hlen:(us++[]).length=ps.length:=by rw [List.append_nil,<-rv.length];exact F.len _ _ _ _ hz
 refine wpAny_call (codeAny_mono (F.run (X.A.deeper env) (env :: X.stack) _ H ⟨us,[]⟩ (us++[]) (vs++[]) (λ_ _=>False) E (hr.deeper env) e0' (hb _ us I1.kIn hlen) r2 (by rw [List.append_nil];exact hz)) λres s' hq=>?_)
 cases res with
 | ok fl =>
  cases fl with
  | ret u=>obtain ⟨_,_,_,_,_,_,_,z⟩:=hq;exact z.elim
  | next=>exact False.elim hq
  | brk=>exact False.elim hq
  | cont=>exact False.elim hq
 | error e =>
  obtain ⟨a',C,T,H',rfl,os,bare,un,hok,na,nT,fl,ha,hT,hE⟩:=hq
  have hin:s.heap.objs.size∈frs (env :: X.stack):=by
   unfold frs;rw [List.filterMap_cons,hfr];exact List.mem_cons_self
  have hsub:∀b,b∈frs (env :: X.stack)->b=s.heap.objs.size\/b∈frs X.stack:=λb hb=>by
   unfold frs at hb
   rw [List.filterMap_cons,hfr] at hb
   exact List.mem_cons.mp hb
  have hin2:∀b,b∈frs X.stack->b∈frs (env :: X.stack):=λb hb=>by
   unfold frs;rw [List.filterMap_cons,hfr];exact List.mem_cons_of_mem _ hb
  have I2:Inv X pins σ H' s':=I1.call' (ch:=[s.heap.objs.size]) os
   ⟨λb o q n hb hx=>un.keep b o q n (λz=>(hsub b z).elim (λy=>hx (by simp [y])) hb) (by simp),λb o q n hb _=>un.slot b o q n (hin2 b hb) (by simp),λb o q n _=>un.free b o q n (by simp),λb o q _=>un.there b o q (by simp),un.tups,un.frzs,un.tbls⟩ hok bare λb hb=>by
    have e:b=s.heap.objs.size:=by simpa using hb
    subst e
    refine ⟨.inr I.sz,Nat.ne_of_gt I.lt,λx c z y=>?_,λp hp y=>?_⟩
    ·obtain ⟨v,o,q,_⟩:=I.cell x c z
     rw [y] at q;exact absurd (Heap.lt_size q) (Nat.lt_irrefl _)
    ·have q:=(I.pin p hp).1
     rw [y] at q;exact absurd (Heap.lt_size q) (Nat.lt_irrefl _)
  obtain ⟨oL,es',ep',hoL,hdL,hrL⟩:=id hns
  obtain ⟨sl,hsl⟩:=un.slot _ oL hoL nH hin (by simp)
  have hfl:s'.heap.FunFrames X.base (env :: X.stack):=.cons (by rw [hsc,hk];decide) hfr (m:=λx=>List.lookup x ([]:List (Str × Value)).reverse) ⟨_,es',ep',hsl,hdL,hrL⟩ nbase I2.stack
  exact zo3 (base:=X.base) (Around.frames_deeper I.ok.frames) hfl hfr fl λh' T' tr fl' hT'=>zzx kp hfr I2 un na nT ha hT hE (un.free _ oL hoL nH (by simp)) hfl os tr fl' hT'
end
noncomputable def zcb:List Expr->Option (List Str)
 | []=>some []
 | .Name x _ :: es=>(zcb es).map (x :: ·)
 | _=>none
noncomputable def zhj:Expr->Option (Str × List Str)
 | .Call (.Name f _) es [] _=>(zcb es).map (f,·)
 | _=>none
noncomputable def zge (caps:List (Str × D)):List Str->Option (List D)
 | []=>some []
 | x :: xs=>(caps.lookup x).bind λd=>(zge caps xs).map (d :: ·)
def zpq (sc:Scope) (x:Str):Prop:=sc.names.lookup x=some .free/\(x == ("__debug__":Str))=false/\(x == ("__classdict__":Str))=false
structure LamW (g:LamG):Prop where
 kind:g.scope.kind=.function
 co:g.scope.isCoroutine=false
 gen:g.scope.isGenerator=false
 no:∀z∈g.scope.names,z.2≠.cell
 call:∃fx p0 e0 es cpos xs,g.body=.Call (.Name fx p0) (e0 :: es) [] cpos/\zcb (e0 :: es)=some xs/\g.scope.names.lookup fx=some .globalImplicit/\(fx == ("__debug__":Str))=false/\∀x∈xs,zpq g.scope x
 bind:∀cs pm c ctv,bindArgs (PySem.W.kla_fn "<lambda>" g.qual g.params g.body g.scope cs pm c ctv) ⟨[],[]⟩=pure []
open Classical in
noncomputable def zd3 (i:Nat) (gs:List LamG) (tb:List (Str × Nat × ZF)):ZM:=λl S=>match l[i]? with
 | some (some (.ref n))=>match S[n]? with
  | some (.lam g caps)=>if g∈gs then (zhj g.body).bind λq=>(tb.lookup q.1).bind λt=>(zge caps q.2).bind λds=>if ds.length=t.1 then t.2 ds S else none else none
  | _=>none
 | _=>none
theorem zzz {ρ:List Addr}{H:Hp}{cs:List (Str × Addr)}{caps:List (Str × D)}{x:Str}{d:D}(r:CellsR ρ H cs caps) (h:caps.lookup x=some d):∃c o u v,cs.lookup x=some c/\H c=some (.frz o hTr)/\o.data=.cell (some u)/\RelV v u/\RD ρ H d v:=by
 induction r with
 | nil=>cases h
 | @cons y c o u v e cs ds h1 h2 h3 h4 _ ih =>
  rw [List.lookup_cons] at h ⊢
  split at h
  ·cases h;exact ⟨c,o,u,v,rfl,h1,h2,h3,h4⟩
  ·exact ih h
theorem zpr {P:Program}{w:World}{ρ:List Addr}{H:Hp}{h:Heap}{sc:Scope}{cs:List (Str × Addr)}{caps:List (Str × D)}(hok:HOk P w H h) (r:CellsR ρ H cs caps):∀{es:List Expr}{xs:List Str}{ds:List D},zcb es=some xs->(∀x∈xs,zpq sc x)->zge caps xs=some ds->∃us vs,LArgs sc cs h es us/\Vals vs us/\RDs ρ H ds vs
 | [],xs,ds,e,_,q=>by
  cases e;cases q
  exact ⟨[],[],.nil,.nil,.nil⟩
 | e :: es,xs,ds,h1,hf,q=>by
  unfold zcb at h1
  split at h1
  ·rename_i heq;cases heq
  ·rename_i x p es' heq
   cases heq
   cases h2:zcb es with
   | none=>rw [h2] at h1;cases h1
   | some ys =>
    rw [h2] at h1
    cases h1
    obtain ⟨d,q1,q⟩:=bnd q
    cases q2:zge caps ys with
    | none=>rw [q2] at q;cases q
    | some ds' =>
     rw [q2] at q
     cases q
     obtain ⟨us,vs,a1,a2,a3⟩:=zpr hok r h2 (λx hx=>hf x (List.mem_cons_of_mem _ hx)) q2
     obtain ⟨c,o,u,v,b1,b2,b3,b4,b5⟩:=zzz r q1
     obtain ⟨f1,f2,f3⟩:=hf x List.mem_cons_self
     exact ⟨u :: us,v :: vs,.cons f1 f2 f3 b1 ⟨o,(hok c _ b2).1,b3⟩ a1,.cons b4 a2,.cons b5 a3⟩
  ·cases h1
theorem zi1 {env:Env}:∀{es:List Expr}{xs:List Str},zcb es=some xs->starEach es env=es.map λe=>(false,eval e env)
 | [],_,_=>rfl
 | e :: es,xs,h1=>by
  unfold zcb at h1
  split at h1
  ·rename_i heq;cases heq
  ·rename_i x p es' heq
   cases heq
   cases h2:zcb es with
   | none=>rw [h2] at h1;cases h1
   | some ys =>
    show (false,eval (.Name x p) env) :: starEach es env=_
    rw [zi1 h2];rfl
  ·cases h1
theorem zps {e:Expr}{es:List Expr}{xs:List Str}(h1:zcb (e :: es)=some xs):∃ys,zcb es=some ys:=by
 unfold zcb at h1
 split at h1
 ·rename_i heq;cases heq
 ·rename_i heq
  cases heq
  cases h2:zcb es with
  | none=>rw [h2] at h1;cases h1
  | some ys=>exact ⟨ys,rfl⟩
 ·cases h1
theorem zz0 {env:Env}{e:Expr}{es:List Expr}{xs:List Str}(h1:zcb (e :: es)=some xs):starEach (e :: es) env=(false,eval e env) :: starEach es env:=by
 obtain ⟨ys,h2⟩:=zps h1
 rw [zi1 h1,zi1 h2];rfl
theorem zz1 {env:Env}{pos:Pos}{es:List Expr}{xs:List Str}(h1:zcb es=some xs):(backTo pos (starEach es env)).any (·.1)=false:=by
 rw [zi1 h1]
 unfold backTo
 clear h1
 induction es with
 | nil=>rfl
 | cons e es ih=>rw [List.map_cons,List.map_cons,List.any_cons];exact ih
section
variable {X:Cx}{E:XK}{CA:Str->Addr}{cpos p apos py:Pos}{x y:Str}{i j:Nat}{gs:List LamG}{tb:List (Str × Nat × ZF)}
theorem zz2 (i:Nat) (hxe:∀e s,X.xe e s->False) (hr:Room j X.A) (hg:∀g∈gs,LamW g) (ht:∀f t,tb.lookup f=some t->∃k,k+1<=j/\zcl X.prog X.w X.K X.mg X.base CA f k t.1 t.2)
  (hN:X.N[i]? = some x:=by rfl) (hv:Vis X.env.scope x:=by first|exact Or.inl rfl|exact Or.inr (Or.inl rfl)|exact Or.inr (Or.inr rfl)) (hd:(x == ("__debug__":Str))=false:=by decide) (hcd:(x == ("__classdict__":Str))=false:=by decide)
  (hs:swapsWithSole [.Name y py] (.Call (.Name x p) [] [] cpos) apos.line X.env=pure false:=by rfl) (hw:swappedStores [.Name y py] (.Call (.Name x p) [] [] cpos) X.env=pure none:=by rfl) :
  TZ X E CA [.Assign [.Name y py] (.Call (.Name x p) [] [] cpos) apos] (zd3 i gs tb):=by
 intro pins s σ H I h
 obtain ⟨ρ,l,S,C,S',sim,ro,hm,pz⟩:=h
 unfold zd3 at hm
 split at hm
 ·rename_i n el
  split at hm
  ·rename_i g caps es
   have hgg:g∈gs:=Classical.byContradiction λh=>by rw [if_neg h] at hm;cases hm
   rw [if_pos hgg] at hm
   obtain ⟨⟨f,xs⟩,q1,hm⟩:=bnd hm
   obtain ⟨⟨nn,rx⟩,q2,hm⟩:=bnd hm
   obtain ⟨ds,q3,hm⟩:=bnd hm
   obtain ⟨hlen,hm⟩:=zk3 hm
   obtain ⟨v,hσ,rd⟩:=ro.get i _ el
   cases rd with
   | @ref _ a hn =>
    obtain ⟨cs,pm,c,ctv,e1,kc,cr⟩:=sim.at' n a _ hn es
    have W:=hg g hgg
    obtain ⟨fx,p0,e0,es0,cpos0,ys,b1,b2,b3,b4,b5⟩:=W.call
    have hb:=W.bind cs pm (.ref c) ctv
    rw [b1] at q1 hb e1
    unfold zhj at q1
    dsimp only at q1
    rw [b2] at q1
    cases q1
    obtain ⟨k,hkj,f',fd,ps,F,hmf,hk,hbi⟩:=ht _ _ q2
    refine wpAny_execs_cons (wpAny_mono (Q:=λ_ _=>False) ?_ (λ_ _ z=>z.elim) λ_ _ z=>z)
    refine wpAny_Assign_stores (wpAny_mono (Q:=λ_ _=>False) ?_ (λ_ _ z=>z.elim) λ_ _ z=>z) hs hw
    refine wpAny_Call_Name_kw (wpAny_mono (zh3 hN hv hd hcd pins s σ H (λv H1=>v=.ref a/\H1=H) I ⟨.ref a,hσ,rfl,rfl⟩) (λu s1 ⟨v,H1,I1,rv,e,e'⟩=>?_) λ_ _ z=>(hxe _ _ z).elim)
    subst e e'
    cases rv
    obtain ⟨us,vs,a1,a2,a3⟩:=zpr (sc:=g.scope) I1.hok cr b2 b5 q3
    refine PySem.W.callWith_F0 ⟨_,_,_,_,(I1.hok a _ e1).1⟩ (wpAny_mono (zzy F hmf hk hbi (hr.mono hkj) I1 e1 kc W.kind W.co W.gen W.no b3 b4 hb a1 a2 ⟨by rw [<-a3.length];exact hlen,ρ,ds,S,C,S',sim,a3,hm,pz⟩ (λenv=>?_) λenv=>?_) (λ_ _ z=>z.elim) λe s' cx=>⟨_,s1,I1,cx⟩)
    ·exact zz0 b2
    ·obtain ⟨zs,h2⟩:=zps b2
     exact zz1 h2
  ·cases hm
 ·cases hm
end
section
variable {ρ:List Addr}{H H':Hp}
mutual
theorem RD.tupm (e:∀a vs,H a=some (.tup vs)->H' a=some (.tup vs)):∀{d:D}{v:V},RD ρ H d v->RD ρ H' d v
 | _,_,.non=>.non
 | _,_,.bl b=>.bl b
 | _,_,.int i=>.int i
 | _,_,.str x=>.str x
 | _,_,.tup h r=>.tup (e _ _ h) (RDs.tupm e r)
 | _,_,.ref h=>.ref h
 | _,_,.fn a=>.fn a
theorem RDs.tupm (e:∀a vs,H a=some (.tup vs)->H' a=some (.tup vs)):∀{d:List D}{v:List V},RDs ρ H d v->RDs ρ H' d v
 | _,_,.nil=>.nil
 | _,_,.cons r q=>.cons (RD.tupm e r) (RDs.tupm e q)
end
end
noncomputable def kill:Ob->Ob
 | .lam _ _=>.dead
 | o=>o
noncomputable def zcq (cs:List Addr) (h:Heap) (H:Hp):Hp:=λb=>if b∈cs then (h.get? b).map (.frz · hTr) else H b
noncomputable def zdh (cs:List Addr) (H:Hp):Hp:=λb=>if b∈cs then none else H b
theorem zdq {cs:List Addr}{h:Heap}{H:Hp}{b:Addr}(n:b ∉ cs):zcq cs h H b=H b:=if_neg n
theorem ze6 {cs:List Addr}{H:Hp}{b:Addr}(n:b ∉ cs):zdh cs H b=H b:=if_neg n
section
variable {K:QFg}{ρ:List Addr}{H H':Hp}{S:Sto}
theorem ObR.grow {o:Ob}{a:Addr}(up:∀b u,H b=some u->H' b=some u) (h:ObR K ρ H o a):ObR K ρ H' o a:=by
 have e:Ext0 ρ H ρ H':=⟨λ_ _ h=>h,λa vs h=>up _ _ h,λa o u h=>up _ _ h⟩
 cases o with
 | lst xs=>obtain ⟨vs,e1,r⟩:=h;exact ⟨vs,up _ _ e1,r.mono0 e⟩
 | flst xs =>
  obtain ⟨vs,e1,r⟩:=h
  refine ⟨vs,?_,r.mono0 e⟩
  rcases e1 with ⟨o,e1⟩|e1
  ·exact .inl ⟨o,up _ _ e1⟩
  ·exact .inr e1
 | iset f n=>exact up _ _ h
 | dct kvs=>obtain ⟨vs,e1,r⟩:=h;exact ⟨vs,up _ _ e1,r.mono0 e⟩
 | tdct kvs=>obtain ⟨vs,e1,r⟩:=h;exact ⟨vs,up _ _ e1,r.mono0 e⟩
 | fdct kvs=>obtain ⟨o,vs,e1,r⟩:=h;exact ⟨o,vs,up _ _ e1,r.mono0 e⟩
 | ftdct kvs=>obtain ⟨o,vs,e1,r⟩:=h;exact ⟨o,vs,up _ _ e1,r.mono0 e⟩
 | tset ks=>obtain ⟨xs,e0,e1,r⟩:=h;exact ⟨xs,e0,up _ _ e1,λp hq=>up _ _ (r p hq)⟩
 | fnc x=>exact h
 | exc c=>obtain ⟨C,hc,e1⟩:=h;exact ⟨C,hc,up _ _ e1⟩
 | tab x=>obtain ⟨c,ps,h1,h2,e1,t⟩:=h;exact ⟨c,ps,h1,h2,up _ _ e1,t.mono e.frz⟩
 | lam g caps=>obtain ⟨cs,pm,c,ctv,e1,k,r⟩:=h;exact ⟨cs,pm,c,ctv,up _ _ e1,k.mono e.frz,r.mono e⟩
 | dead=>obtain ⟨o,fd,e1,d⟩:=h;exact ⟨o,fd,up _ _ e1,d⟩
theorem Sim.grow (up:∀b u,H b=some u->H' b=some u) (s:Sim K ρ S H):Sim K ρ S H':=⟨s.len,s.nd,λn a o h1 h2=>(s.at' n a o h1 h2).grow up⟩
theorem ObR.kill {cs:List Addr}{o:Ob}{a:Addr}(hc:∀b∈cs,∃o v,H b=some (.frz o hTr)/\o.data=.cell v) (h:ObR K ρ H o a):ObR K ρ (zdh cs H) (kill o) a:=by
 have off:∀b u,H b=some u->(∀o,u=.frz o hTr->∀v,o.data≠.cell v)->zdh cs H b=some u:=λb u e n=>by
  rw [ze6];exact e
  intro z
  obtain ⟨o,v,e1,d⟩:=hc b z
  rw [e1] at e;cases e
  exact n o rfl v d
 have tp:∀b vs,H b=some (.tup vs)->zdh cs H b=some (.tup vs):=λb vs e=>off b _ e λo z=>(by cases z)
 have cf:∀q c,CodeF H q c->CodeF (zdh cs H) q c:=λq c ⟨oc,vs,t,h1,h2,h3⟩=>⟨oc,vs,t,off _ _ h1 λo z v y=>(by cases z;rw [h2] at y;cases y),h2,h3⟩
 cases o with
 | lst xs=>obtain ⟨vs,e1,r⟩:=h;exact ⟨vs,off _ _ e1 λo z=>(by cases z),r.tupm tp⟩
 | flst xs =>
  obtain ⟨vs,e1,r⟩:=h
  refine ⟨vs,?_,r.tupm tp⟩
  rcases e1 with ⟨o,e1⟩|e1
  ·exact .inl ⟨o,off _ _ e1 λo z=>(by cases z)⟩
  ·exact .inr e1
 | iset f n=>exact off _ _ h λo z=>(by cases z)
 | dct kvs=>obtain ⟨vs,e1,r⟩:=h;exact ⟨vs,off _ _ e1 λo z=>(by cases z),r.tupm tp⟩
 | tdct kvs=>obtain ⟨vs,e1,r⟩:=h;exact ⟨vs,off _ _ e1 λo z=>(by cases z),r.tupm tp⟩
 | fdct kvs=>obtain ⟨o,vs,e1,r⟩:=h;exact ⟨o,vs,off _ _ e1 λo z=>(by cases z),r.tupm tp⟩
 | ftdct kvs=>obtain ⟨o,vs,e1,r⟩:=h;exact ⟨o,vs,off _ _ e1 λo z=>(by cases z),r.tupm tp⟩
 | tset ks=>obtain ⟨xs,e0,e1,r⟩:=h;exact ⟨xs,e0,off _ _ e1 λo z=>(by cases z),λp hq=>tp _ _ (r p hq)⟩
 | fnc x=>exact h
 | exc c=>obtain ⟨C,hc',e1⟩:=h;exact ⟨C,hc',off _ _ e1 λo z=>(by cases z)⟩
 | tab x=>obtain ⟨c,ps,h1,h2,e1,t1,t2⟩:=h;exact ⟨c,ps,h1,h2,off _ _ e1 λo z=>(by cases z),t1,λpos cv z=>let ⟨c,y,k⟩:=t2 pos cv z;⟨c,y,cf _ _ k⟩⟩
 | lam g caps=>obtain ⟨cs,pm,c,ctv,e1,k,r⟩:=h;exact ⟨_,_,off _ _ e1 λo z v y=>(by cases z;cases y),rfl⟩
 | dead=>obtain ⟨o,fd,e1,d⟩:=h;exact ⟨o,fd,off _ _ e1 λo z v y=>(by cases z;rw [d] at y;cases y),d⟩
theorem zpt {o:Ob}(h:(kill o).mut=true):o.mut=true:=by cases o <;> first|exact h|cases h
theorem Sim.kill {cs:List Addr}(hc:∀b∈cs,∃o v,H b=some (.frz o hTr)/\o.data=.cell v) (s:Sim K ρ S H):Sim K ρ (S.map kill) (zdh cs H):=by
 have inv:∀{i:Nat} {o:Ob},(S.map L3.kill)[i]? = some o->∃o',S[i]? = some o'/\L3.kill o' = o:=λ{i o} h=>by
  rw [qgm] at h
  cases e:S[i]? with
  | none=>rw [e] at h;cases h
  | some o'=>rw [e] at h;cases h;exact ⟨o',rfl,rfl⟩
 refine ⟨by rw [qlm];exact s.len,λi j a o1 o2 h1 h2 h3 h4 m1 m2=>?_,λn a o h1 h2=>?_⟩
 ·obtain ⟨q1,e1,rfl⟩:=inv h3
  obtain ⟨q2,e2,rfl⟩:=inv h4
  exact s.nd i j a q1 q2 h1 h2 e1 e2 (zpt m1) (zpt m2)
 ·obtain ⟨q1,e1,rfl⟩:=inv h2
  exact (s.at' n a q1 h1 e1).kill hc
end
inductive Caps (X:Cx):List (Str × Addr)->List (Str × Nat)->Prop where
 | nil:Caps X [] []
 | cons {x:Str} {c:Addr} {i:Nat} {cs:List (Str × Addr)} {xs:List (Str × Nat)}:X.N[i]? = some x->X.env.scope.names.lookup x=some .cell->X.env.cells.lookup x=some c->Caps X cs xs->Caps X ((x,c) :: cs) ((x,i) :: xs)
noncomputable def zgf (l:Lo):List (Str × Nat)->Option (List (Str × D))
 | []=>some []
 | (x,i) :: r=>match l[i]? with
  | some (some d)=>(zgf l r).map ((x,d) :: ·)
  | _=>none
noncomputable def zgg (t:Nat) (y:Str) (g:LamG) (xs:List (Str × Nat)) (m:FM):EM:=λl S=>match S[t]? with
 | some (.tab y')=>if y' = y then (zgf l xs).bind λcaps=>(m [.ref S.length] (S++[.lam g caps])).map λq=>(q.1,q.2.map kill) else none
 | _=>none
section
variable {X:Cx}{pins:List (Addr × Obj)}{σ:L2.St}{H H2 H4:Hp}{s:Shared}{ρ ρ4:List Addr}{l:Lo}
theorem zz3 {cs:List (Str × Addr)}{xs:List (Str × Nat)}(c:Caps X cs xs):∀b∈cs.map (·.2),∃x,X.env.cells.lookup x=some b:=by
 induction c with
 | nil=>intro b hb;cases hb
 | cons h1 h2 h3 _ ih =>
  intro b hb
  rcases List.mem_cons.mp hb with z|z
  ·exact ⟨_,by rw [z];exact h3⟩
  ·exact ih b z
theorem zz4 {cs:List (Str × Addr)}{xs:List (Str × Nat)}(c:Caps X cs xs) (I:Inv X pins σ H2 s) (ro:RO ρ H l σ) (e:Ext0 ρ H ρ4 H4) (hf:∀b∈cs.map (·.2),∀o,s.heap.get? b=some o->H4 b=some (.frz o hTr)):∀{caps:List (Str × D)},zgf l xs=some caps->CellsR ρ4 H4 cs caps:=by
 induction c with
 | nil=>intro caps h;cases h;exact .nil
 | @cons x c i cs xs h1 h2 h3 _ ih =>
  intro caps h
  unfold zgf at h
  split at h
  ·rename_i d el
   cases q:zgf l xs with
   | none=>rw [q] at h;cases h
   | some cp =>
    rw [q] at h
    cases h
    obtain ⟨v,hσ,rd⟩:=ro.get i _ el
    obtain ⟨m,hn,hl⟩:=I.loc
    obtain ⟨u,ru,lk⟩:=hl i x v h1 hσ (.inr (.inl h2))
    have hcell:s.heap.IsCell c (some u):=by
     rcases lk with ⟨z,_⟩|⟨_,c2,z,q2⟩
     ·have z':X.env.scope.names.lookup x=some .local:=z
      rw [h2] at z';cases z'
     ·rw [h3] at z;cases z;exact q2
    obtain ⟨o,ho,hd⟩:=hcell
    exact .cons (hf c List.mem_cons_self o ho) hd ru (rd.mono0 e) (ih (λb hb=>hf b (List.mem_cons_of_mem _ hb)) q)
  ·cases h
theorem Inv.adopted {a:Addr}{o:Obj}(I:Inv X pins σ H s) (ha:H a=none) (ho:s.heap.get? a=some o) (hz:X.s₀.heap.objs.size<=a) (hL:a≠X.env.locals) (hC:∀x c,X.env.cells.lookup x=some c->c≠a) (hp:∀p∈X.pn++pins,p.1≠a):Inv X pins σ (upd H a (.frz o hTr)) s:=by
 have up:∀b u,H b=some u->upd H a (.frz o hTr) b=some u:=λb u e=>by rw [zaj (zbd e ha)];exact e
 have ne:∀b o',X.s₀.heap.get? b=some o'->b≠a:=λb o' e z=>by
  rw [z] at e;exact absurd (Nat.lt_of_lt_of_le (Heap.lt_size e) hz) (Nat.lt_irrefl _)
 refine ⟨I.ok,I.os,I.bare,⟨I.base.keep,I.base.slot,λb o' e n hx=>?_,I.base.there,λb xs e=>up _ _ (I.base.tups b xs e),λb o' u e=>up _ _ (I.base.frzs b o' u e),λb ps e=>?_⟩,I.loc,I.cell,?_,λx c e=>?_,λp hp'=>?_,λb u e=>?_,I.len⟩
 ·rw [zaj (ne b o' e)];exact I.base.free b o' e n hx
 ·obtain ⟨more,q⟩:=I.base.tbls b ps e
  exact ⟨more,up _ _ q⟩
 ·rw [zaj (Ne.symm hL)];exact I.free
 ·rw [zaj (hC x c e)];exact I.freeC x c e
 ·obtain ⟨h1,h2,h3⟩:=I.pin p hp'
  exact ⟨h1,by rw [zaj (hp p hp')];exact h2,h3⟩
 ·by_cases hb:b=a
  ·subst hb
   rw [zbg] at e;cases e
   exact ⟨ho,trivial,⟨_,ho⟩,λ_ _ _ _=>trivial⟩
  ·rw [zaj hb] at e
   exact (I.hok b u e).stay (λc v _ q=>q) (λ_ q=>up _ _ q) λ_ _ q=>up _ _ q
end
noncomputable def zem (y f:Str) (pf pc:Pos) (xs:List (Str × Pos)) (ns:List (Str × NameKind)):LamG :=
 ⟨zcz y,{ posonlyargs:=[],args:=[],vararg:=none,kwonlyargs:=[],kw_defaults:=[],kwarg:=none,defaults:=[] },.Call (.Name f pf) (xs.map λq=>.Name q.1 q.2) [] pc,{ kind:=.function,names:=ns,isGenerator:=false,isCoroutine:=false,more:=[] }⟩
theorem zlt:∀xs:List (Str × Pos),zcb (xs.map λq=>Expr.Name q.1 q.2)=some (xs.map (·.1))
 | []=>rfl
 | x :: xs=>by
  show (zcb (xs.map λq=>Expr.Name q.1 q.2)).map (x.1 :: ·)=_
  rw [zlt xs];rfl
theorem zpu {y f:Str}{pf pc:Pos}{xs:List (Str × Pos)}{ns:List (Str × NameKind)}:zhj (zem y f pf pc xs ns).body=some (f,xs.map (·.1)):=by
 show (zcb (xs.map λq=>Expr.Name q.1 q.2)).map (f,·)=_
 rw [zlt];rfl
theorem zpv {y f:Str}{pf pc p:Pos}{x:Str}{xs:List (Str × Pos)}{ns:List (Str × NameKind)}(h1:∀z∈ns,z.2≠.cell) (h2:ns.lookup f=some .globalImplicit) (h3:(f == ("__debug__":Str))=false)
  (h4:∀z∈(x :: xs.map (·.1)),ns.lookup z=some .free/\(z == ("__debug__":Str))=false/\(z == ("__classdict__":Str))=false):LamW (zem y f pf pc ((x,p) :: xs) ns) :=
 ⟨rfl,rfl,rfl,h1,⟨f,pf,.Name x p,_,pc,_,rfl,zlt ((x,p) :: xs),h2,h3,h4⟩,λ_ _ _ _=>rfl⟩
section
variable {X:Cx}
theorem zpw {j k:Nat}{c P:Addr}{h y:Str}{params:Arguments}{body:Expr}{scope:Scope}{lp p pos:Pos}{cs:List (Str × Addr)}{xs:List (Str × Nat)}{m:FM}(t:Nat) (hT:PySem.W.tabIn X.K y=some (c,P)) (F:Has X.prog X.w X.K X.mg X.base h k 1 m) (hr:Room j X.A) (hkj:k<=j) (hfn:∀x,X.fn x=true)
  (hcs:Caps X cs xs) (hcl:closureFor scope X.env=pure cs) (hcode:X.env.code=.ref c) (hq:X.env.qual++"<lambda>" = zcz y) (hdef:defaultsOf params X.env=([],[])) (hg:Gl X h:=by rfl) (hdb:(h == ("__debug__":Str))=false:=by decide)
  (he:starEach [.Lambda params body scope lp] X.env=(false,eval (.Lambda params body scope lp) X.env) :: starEach [] X.env:=by rfl) (hpl:(backTo pos (starEach [] X.env)).any (·.1)=false:=by rfl) :
  PE3 X (.Call (.Name h p) [.Lambda params body scope lp] [] pos) (zgg t y ⟨zcz y,params,body,scope⟩ xs m):=by
 intro pins s σ H Q I hx
 obtain ⟨ρ,l,S,v,S',sim,ro,hm,pz⟩:=hx
 unfold zgg at hm
 split at hm
 ·rename_i y' es
  obtain ⟨rfl,hm⟩:=zk3 hm
  obtain ⟨caps,hcap,hm⟩:=bnd hm
  cases hmm:m [.ref S.length] (S++[.lam ⟨zcz y',params,body,scope⟩ caps]) with
  | none=>rw [hmm] at hm;cases hm
  | some q =>
   obtain ⟨v1,S1⟩:=q
   rw [hmm] at hm
   cases hm
   have hl:t<ρ.length:=by rw [sim.len];exact (qme es).1
   have hn:=qge hl
   obtain ⟨c0,ps,t1,t2,hP,tok⟩:=sim.at' t _ _ hn es
   rw [hT] at t1
   obtain ⟨rfl,rfl⟩:c=c0/\P=ρ[t]:=by cases t1;exact ⟨rfl,rfl⟩
   obtain ⟨f,fd,ps',F,hmf,hk,hb⟩:=F
   refine wpAny_Call_Name_kw (zgt I hg hmf ?_ hdb)
   refine PySem.W.callWith_K (h₀:=X.base) I.ok.mod.kin hk ?_ he hpl
   rw [he]
   show wpAny _ _ (spliced ((false,eval (.Lambda params body scope lp) X.env) :: backTo pos (starEach [] X.env))) _ _ s
   refine Calls.spliced_cons (zzo I hcode t2 hP tok hq hdef hcl λfa c' pm ctv H2 s2 md I2 ho hf hsz=>Calls.spliced_nil ⟨I2.kIn,?_⟩)
   have sim2:Sim X.K ρ S H2:=sim.made hn es md
   have e2:Ext ρ H ρ H2:=zzp hn ⟨ps,hP⟩ md
   have lk:=zz3 hcs
   have c0:∀b∈cs.map (·.2),H2 b=none:=λb hb=>let ⟨x,e⟩:=lk b hb;I2.freeC x b e
   have cO:∀b∈cs.map (·.2),∃o v,s2.heap.get? b=some o/\o.data=.cell v:=λb hb=>by
    obtain ⟨x,e⟩:=lk b hb
    obtain ⟨v,o,e1,d⟩:=I2.cell x b e
    exact ⟨o,v,e1,d⟩
   have cz:∀b∈cs.map (·.2),X.s₀.heap.objs.size<=b:=λb hb=>let ⟨x,e⟩:=lk b hb;I.ok.cab x b (hfn x) e
   have fne:fa ∉ cs.map (·.2):=λz=>by
    obtain ⟨o,v,e,d⟩:=cO fa z
    rw [ho] at e;cases e;cases d
   have fL:fa≠X.env.locals:=Nat.ne_of_gt (Nat.lt_of_lt_of_le I.lt hsz)
   have I3:Inv X pins σ (upd H2 fa (.frz (PySem.W.kla_obj "<lambda>" (zcz y') params body scope cs pm c' ctv) hTr)) s2 :=
    Inv.adopted I2 hf ho (Nat.le_trans I.sz hsz) fL (λx c e z=>by
     obtain ⟨v,o,q,_⟩:=I.cell x c e
     rw [z] at q;exact absurd (Nat.lt_of_lt_of_le (Heap.lt_size q) hsz) (Nat.lt_irrefl _)) λp hp z=>by
     have q:=(I.pin p hp).1
     rw [z] at q;exact absurd (Nat.lt_of_lt_of_le (Heap.lt_size q) hsz) (Nat.lt_irrefl _)
   generalize hH3:upd H2 fa (.frz (PySem.W.kla_obj "<lambda>" (zcz y') params body scope cs pm c' ctv) hTr)=H3 at I3
   have h3f:H3 fa=some (.frz (PySem.W.kla_obj "<lambda>" (zcz y') params body scope cs pm c' ctv) hTr):=by rw [<-hH3];exact zbg
   have up3:∀b u,H2 b=some u->H3 b=some u:=λb u e=>by rw [<-hH3,zaj (zbd e hf)];exact e
   have c3:∀b∈cs.map (·.2),H3 b=none:=λb hb=>let ⟨x,e⟩:=lk b hb;I3.freeC x b e
   have c4:∀b∈cs.map (·.2),∀o,s2.heap.get? b=some o->zcq (cs.map (·.2)) s2.heap H3 b=some (.frz o hTr):=λb hb o e=>by
    unfold zcq;rw [if_pos hb,e];rfl
   have up4:∀b u,H3 b=some u->zcq (cs.map (·.2)) s2.heap H3 b=some u:=λb u e=>by
    rw [zdq];exact e
    intro z;rw [c3 b z] at e;cases e
   have e4:Ext0 ρ H (ρ++[fa]) (zcq (cs.map (·.2)) s2.heap H3):=⟨λn a z=>by rw [List.getElem?_append_left (qme z).1];exact z,λa vs z=>up4 _ _ (up3 _ _ (e2.tup _ _ z)),λa o u z=>up4 _ _ (up3 _ _ (e2.frz _ _ _ z))⟩
   have cr:CellsR (ρ++[fa]) (zcq (cs.map (·.2)) s2.heap H3) cs caps:=zz4 hcs I2 ro e4 c4 hcap
   have sim4:Sim X.K (ρ++[fa]) (S++[.lam ⟨zcz y',params,body,scope⟩ caps]) (zcq (cs.map (·.2)) s2.heap H3):=by
    have a:=(sim2.grow (H':=zcq (cs.map (·.2)) s2.heap H2) λb u e=>by
     rw [zdq];exact e
     intro z;rw [c0 b z] at e;cases e).pushG (a:=fa) (o1:=.lam ⟨zcz y',params,body,scope⟩ caps) (u:=.frz (PySem.W.kla_obj "<lambda>" (zcz y') params body scope cs pm c' ctv) hTr) (by rw [zdq fne];exact hf)
    have eH:upd (zcq (cs.map (·.2)) s2.heap H2) fa (.frz (PySem.W.kla_obj "<lambda>" (zcz y') params body scope cs pm c' ctv) hTr)=zcq (cs.map (·.2)) s2.heap H3:=by
     funext b
     by_cases hb:b=fa
     ·rw [hb,zbg,zdq fne,h3f]
     ·rw [zaj hb]
      unfold zcq
      rw [<-hH3,zaj hb]
    rw [eH] at a
    obtain ⟨oc,vs,tt,k1,k2,k3⟩:=md.1
    exact a ⟨cs,pm,c',ctv,up4 _ _ h3f,⟨oc,vs,tt,up4 _ _ (up3 _ _ k1),k2,k3⟩,cr⟩
   have stN:∀b∈frs X.stack,b ∉ cs.map (·.2):=λb hb z=>by
    rcases List.mem_cons.mp (I2.stkSub b hb) with e|hb
    ·obtain ⟨x,q⟩:=lk b z
     exact I2.cne x b q e
    ·obtain ⟨_,o,q,_⟩:=I2.ok.funs.mem hb
     exact absurd (Nat.lt_of_lt_of_le (Heap.lt_size q) (cz b z)) (Nat.lt_irrefl _)
   have env:Env0 X.prog X.w X.K X.mg X.base X.A X.stack s2 (zcq (cs.map (·.2)) s2.heap H3):=by
    have E3:=I3.env0
    refine ⟨E3.frames,E3.mod,λb o e=>⟨(E3.bs b o e).1,?_⟩,E3.bsz,E3.funs,λb hb=>by rw [zdq (stN b hb)];exact E3.frf b hb,λb u e=>?_,E3.bare⟩
    ·rw [zdq];exact (E3.bs b o e).2
     intro z
     exact absurd (Nat.lt_of_lt_of_le (Heap.lt_size e) (Nat.le_trans I.ok.bsz (cz b z))) (Nat.lt_irrefl _)
    ·by_cases hb:b∈cs.map (·.2)
     ·obtain ⟨o,v,q,d⟩:=cO b hb
      rw [c4 b hb o q] at e;cases e
      exact ⟨q,trivial,⟨_,q⟩,λ_ _ _ _=>trivial⟩
     ·rw [zdq hb] at e
      exact (I3.hok b u e).stay (λ_ _ _ q=>q) (λ_ q=>up4 _ _ q) λ_ _ q=>up4 _ _ q
   have hlen:([Value.ref fa]++[]).length=ps'.length:=(F.len [.ref fa] (zcq (cs.map (·.2)) s2.heap H3) (λ_ _=>True) (λ_ _ _=>True) ⟨rfl,ρ++[fa],[.ref S.length],_,v1,S1,sim4,.cons (.ref (by rw [<-sim.len];exact za5 ρ fa)) .nil,hmm,λ_ _ _ _ _ _=>trivial⟩)
   refine wpAny_call (codeAny_mono (F.run X.A X.stack s2 (zcq (cs.map (·.2)) s2.heap H3) ⟨[.ref fa],[]⟩ ([.ref fa]++[]) [.ref fa] (λv' H'=>∃ρ',Ext (ρ++[fa]) (zcq (cs.map (·.2)) s2.heap H3) ρ' H'/\Sim X.K ρ' S1 H'/\RD ρ' H' v1 v') (λ_ _ _=>True) (hr.mono hkj) env (hb s2 [.ref fa] I2.kIn hlen) (show Vals [V.ref fa] [Value.ref fa] from .cons rfl .nil)
    ⟨rfl,ρ++[fa],[.ref S.length],_,v1,S1,sim4,.cons (.ref (by rw [<-sim.len];exact za5 ρ fa)) .nil,hmm,λρ' H' v' a b d=>⟨ρ',a,b,d⟩⟩) λr s' hq=>?_)
   cases r with
   | error e=>exact False.elim hq
   | ok fl =>
    cases fl with
    | next=>exact False.elim hq
    | brk=>exact False.elim hq
    | cont=>exact False.elim hq
    | ret u =>
     obtain ⟨v',H',os,bare,un,hok',rv,ρ',ex,sim',rd⟩:=hq
     have cF:∀b∈cs.map (·.2),∃o v,H' b=some (.frz o hTr)/\o.data=.cell v/\s2.heap.get? b=some o:=λb hb=>by
      obtain ⟨o,v,q,d⟩:=cO b hb
      exact ⟨o,v,un.frzs b o hTr (c4 b hb o q),d,q⟩
     have off:∀b u,H' b=some u->(∀o,u≠.frz o hTr)->zdh (cs.map (·.2)) H' b=some u:=λb u e n=>by
      rw [ze6];exact e
      intro z
      obtain ⟨o,v,e1,_⟩:=cF b z
      rw [e1] at e;cases e
      exact n o rfl
     have tp:∀b vs,H' b=some (.tup vs)->zdh (cs.map (·.2)) H' b=some (.tup vs):=λb vs e=>off b _ e λo z=>(by cases z)
     have n3:∀b u,H3 b=some u->b ∉ cs.map (·.2):=λb u e z=>by rw [c3 b z] at e;cases e
     have I5:Inv X pins σ (zdh (cs.map (·.2)) H') s':=I3.call' (ch:=[]) os
      ⟨λb o q n hb hx=>?_,λb o q n hb hx=>?_,λb o q n hx=>?_,λb o q hx=>un.there b o q hx,λb xs e=>tp b xs (un.tups b xs (up4 _ _ e)),λb o u e=>by rw [ze6 (n3 b _ e)];exact un.frzs b o u (up4 _ _ e),λb ps e=>?_⟩ (λb u e=>?_) bare λb z=>absurd z (by simp)
     ·have up:∀b u,H b=some u->b ∉ cs.map (·.2):=λb u e z=>by
       obtain ⟨x,q⟩:=lk b z
       rw [I.freeC x b q] at e;cases e
      refine ⟨v',_,I5,rv,pz ρ' _ v' ⟨⟨λn a z=>ex.pre n a (e4.pre n a z),λa vs z=>tp _ _ (ex.tup _ _ (e4.tup _ _ z)),λa o u z=>?_⟩,λa vs z nn=>?_⟩ (sim'.kill λb hb=>let ⟨o,v,e,d,_⟩:=cF b hb;⟨o,v,e,d⟩) (rd.tupm tp)⟩
      ·rw [ze6 (up a _ z)];exact ex.frz _ _ _ (e4.frz _ _ _ z)
      ·obtain ⟨z2,n2⟩:=e2.out a vs z nn
       obtain ⟨z5,n5⟩:=ex.out a vs (up4 _ _ (up3 _ _ z2)) λn q=>by
        rcases zbu q with q|⟨_,q⟩
        ·exact n2 n q
        ·rw [q,hf] at z2;cases z2
       exact ⟨by rw [ze6 (up a _ z)];exact z5,n5⟩
     ·by_cases hc:b∈cs.map (·.2)
      ·obtain ⟨o',v,e1,_,e2⟩:=cF b hc
       rw [q] at e2;cases e2
       exact (hok' b _ e1).1
      ·exact un.keep b o q (by rw [zdq hc];exact n) hb hx
     ·by_cases hc:b∈cs.map (·.2)
      ·exact absurd hc (stN b hb)
      ·exact un.slot b o q (by rw [zdq hc];exact n) hb hx
     ·by_cases hc:b∈cs.map (·.2)
      ·unfold zdh;rw [if_pos hc]
      ·rw [ze6 hc];exact un.free b o q (by rw [zdq hc];exact n) hx
     ·obtain ⟨more,z⟩:=un.tbls b ps (up4 _ _ e)
      exact ⟨more,off _ _ z λo y=>(by cases y)⟩
     ·by_cases hc:b∈cs.map (·.2)
      ·unfold zdh at e;rw [if_pos hc] at e;cases e
      ·rw [ze6 hc] at e
       exact (hok' b u e).stay (λ_ _ _ q=>q) (λ_ q=>off _ _ q λo y=>(by cases y)) λ_ _ q=>tp _ _ q
 ·cases hm
end
section
variable {X:Cx}{E:XK}{CA:Str->Addr}{a b:Expr}{es:List Expr}{pos p:Pos}{x:Str}{k j n:Nat}{m:FM}{ma:EM}{r:QFg->Nat}{z:ZM}
theorem zz5 {z:ZM}(F:Has X.prog X.w X.K X.mg X.base x k n m) (hr:Room j X.A) (hkj:k<=j) (hg:Gl X x) (ha:PAz X E CA (a :: es) z) (hdb:(x == ("__debug__":Str))=false:=by decide) (he:starEach (a :: es) X.env=(false,eval a X.env) :: starEach es X.env:=by rfl) (hpl:(backTo pos (starEach es X.env)).any (·.1)=false:=by rfl) :
  PEz X E CA (.Call (.Name x p) (a :: es) [] pos) z:=by
 obtain ⟨f,fd,ps,F,hm,hk,hb⟩:=F
 exact λpins s σ H Q I q=>zjr F (hr.mono hkj) hg hm hk hb .nil znn ha hdb he hpl pins s σ H Q I q
theorem zz6 {z:ZM}(ha:PE3 X a ma) (hb:PEz X E CA b z):PEz X E CA (.BinOp a .LShift b pos) (zf9 ma z):=λpins s σ H Q I ⟨ρ,l,S,C,S',sim,ro,hm,p⟩=>zmq zms ha hb pins s σ H Q I (by
 obtain ⟨⟨x,S1⟩,q1,hm⟩:=bnd hm
 exact ⟨ρ,l,S,x,S1,sim,ro,q1,λρ1 H1 x' e1 s1 r1=>⟨ρ1,l,S1,C,S',s1,ro.mono e1,hm,λρ2 H2 e2 s2=>p ρ2 H2 (e1.trans e2) s2⟩⟩)
theorem zz7 {z:ZM}{mb:EM}(ha:PEz X E CA a z) (hb:PE3 X b mb) (hs:zjv b:=by intro _ _;rfl):PEz X E CA (.Subscript a b pos) z:=λpins s σ H Q I q=>zna znd ha hb hs pins s σ H Q I q
end
def zpx:V->List V->Hp->VK->Prop:=λy vs H Q=>∃(a:Addr) (ns:List Int) (x:Int),y=.ref a/\vs=[.int x]/\H a=some (.tup (ns.map V.int))/\Q (.int (ns.count x)) H
noncomputable def zgh:D->List D->Sto->Option (D × Sto)
 | .tup xs,[.int x],S=>(zdo xs).bind λns=>some (.int (ns.count x),S)
 | _,_,_=>none
noncomputable def eqN (x:Int):Value->Bool
 | .int y _=>y == x
 | _=>false
theorem zpy {x:Int}:∀{ns:List Int}{its:List Value},Vals (ns.map V.int) its->its.countP (eqN x)=ns.count x
 | [],its,r=>by cases r;rfl
 | n :: ns,its,r=>by
  cases r with
  | cons p q =>
   obtain ⟨t,rfl⟩:=p
   rw [List.countP_cons,List.count_cons,zpy q];rfl
section
variable {X:Cx}
theorem zz8:MtM X "tuple.count" zpx:=by
 intro pins s σ H y vs v us Q I ry rv h
 obtain ⟨a,ns,x,rfl,rfl,hH,q⟩:=h
 cases ry
 obtain ⟨u,rfl,ru⟩:=rv.one
 obtain ⟨t,rfl⟩:=ru
 obtain ⟨its,r,o,e,c,n,d,hd⟩:=zlq I hH
 obtain ⟨o1,o2,o3,o4⟩:=o
 dsimp only at c d hd
 subst c d hd
 refine call_meets F.slot_tuple_count ⟨_,e,rfl⟩ F.entry_tuple_count (F.args_tuple_count_2 _ _) (SeqAt.tuple_countAt a its.toArray n none o4 (.int x t) (eqN x)) ⟨e,λw hw=>?_,⟨.int (ns.count x),H,I.tok _,⟨_,by rw [<-zpy (x:=x) r]⟩,q⟩⟩
 obtain ⟨i,hi⟩:=List.getElem?_of_mem (show w∈its by simpa using hw)
 have hil:=(qme hi).1
 rw [<-r.length,qlm] at hil
 obtain ⟨t2,e2⟩:=zy7 r (qge hil)
 rw [hi] at e2
 cases e2
 exact SeqAt.EqAt.int_int _ _ _ _
theorem zz9 {K:QFg}:Mt3 K zgh zpx:=by
 intro ρ S H x x' xs vs v S' Q sim rx r h p
 unfold zgh at h
 split at h
 ·obtain ⟨ns,h1,h⟩:=bnd h
  cases h
  obtain ⟨w,rfl,rw'⟩:=r.one
  cases rw'
  cases rx with
  | tup ha rr =>
   have:=zk9 h1 rr
   subst this
   exact ⟨_,ns,_,rfl,rfl,ha,p ρ H _ (Ext.refl ..) sim (.int _)⟩
 ·cases h
variable {o e:Expr}{mo m:EM}{apos cpos:Pos}
theorem yaa (ho:PE3 X o mo) (he:PE3 X e m)
  (hbase:attributeBase o "count" X.env (eval o X.env)=eval o X.env:=by rfl)
  (hfew:((backTo cpos (starEach [e] X.env)).all (λx=>!x.1) && (backToKw cpos (keywordEach [] X.env)).all (λx=>x.1.isSome)
   && decide ([e].length+([]:List Keyword).length+(if ([]:List Keyword).isEmpty then 0 else 1)<30))=true:=by rfl)
  (hline:(apos.endLine == cpos.line)=true:=by rfl) (hs:starEach [e] X.env=(false,eval e X.env) :: starEach [] X.env:=by rfl) :
  PE3 X (.Call (.Attribute o "count" apos) [e] [] cpos) (zlr zgh mo (zaa m zae)) :=
 PE.imp (zyv zy6 PySem.F.plainAttrs_tuple PySem.F.slot_tuple_count PySem.F.type_tuple_count zz8 ho (zac he zag hs) hbase hfew hline hs rfl) λσ H Q hx2_=>by
  obtain ⟨ρ,l,S,v,S',sim,ro,hq,p⟩:=hx2_
  obtain ⟨⟨x,S1⟩,h1,hq⟩:=bnd hq
  obtain ⟨_,h2,hq⟩:=bnd hq
  obtain ⟨⟨ys,S2⟩,h4,hq⟩:=bnd hq
  refine ⟨ρ,l,S,x,S1,sim,ro,h1,λρ1 H1 x' e1 s1 r1=>⟨?_,ρ1,l,S1,ys,S2,s1,ro.mono e1,h4,λρ2 H2 vs e2 s2 r2=>zz9 ρ2 S2 H2 x x' ys vs v S' Q s2 (r1.mono e2) r2 hq (p.ext (e1.trans e2))⟩⟩
  cases r1 with
  | @tup xs a us ha rr=>exact ⟨a,us,rfl,ha⟩
  | _=>cases h2
end
def zpz (K:QFg):V->List V->Hp->VK->Prop:=λy vs H Q=>∃x ρ S dx xs p qs a us,vs=[x]/\Sim K ρ S H/\RD ρ H dx x/\y=.ref a/\H a=some (.lst us)/\RDs ρ H xs us/\zak S 60 dx=some p/\pyAll S 60 xs=some qs/\p.canLay0=true/\PyData.canLayAll0 qs=true/\Q (.int ((qs.map λq=>q.eqv p).count true)) H
noncomputable def ze7:D->List D->Sto->Option (D × Sto)
 | .ref n,[x],S=>match S[n]? with
  | some (.lst xs)=>(zak S 60 x).bind λp=>(pyAll S 60 xs).bind λqs=>if p.canLay0=true/\PyData.canLayAll0 qs=true then some (.int ((qs.map λq=>q.eqv p).count true),S) else none
  | _=>none
 | _,_,_=>none
theorem zp0 {α:Type}{f:α->Bool}:∀l:List α,l.countP f=(l.map f).count true
 | []=>rfl
 | x :: l=>by rw [List.countP_cons,List.map_cons,List.count_cons,zp0 l];simp
section
variable {X:Cx}{k:Nat}
theorem yab (hr:Room k X.A):MtM X "list.count" (zpz X.K):=by
 intro pins s σ H y vs v us' Q I ry rv' h
 obtain ⟨x,ρ,S,dx,xs,p,qs,a,us,rfl,sim,r1,rfl,hH,r2,h1,h2,c1,c2,hq⟩:=h
 cases ry
 obtain ⟨u,rfl,ru⟩:=rv'.one
 obtain ⟨⟨as,k1⟩,_,_,k2⟩:=zd0 I sim 60 dx x u p r1 ru h1
 obtain ⟨z,its,n,rv,hl,e⟩:=I.lstM hH
 obtain ⟨⟨bs,k3⟩,_,_,_⟩:=zoo I sim 60 xs us its qs r2 rv h2
 have em:=zlo (p:=p) k3 c2
 refine call_meets F.slot_list_count ⟨_,e,rfl⟩ F.entry_list_count (F.args_list_count_2 _ _) (SeqAt.list_countAt a its.toArray n none #[] u (eqR s.heap p)) ⟨e,λw hw=>zlp k1 c1 (by have:=hr.un;show X.A.units+1+_<_;omega) k3 c2 w (by simpa using hw),⟨.int _,H,I.tok _,⟨_,rfl⟩,?_⟩⟩
 rw [zp0]
 show Q (.int ((its.map (eqR s.heap p)).count true)) H
 rw [em]
 exact hq
theorem yac {K:QFg}:Mt3 K ze7 (zpz K):=by
 intro ρ S H x x' xs vs v S' Q sim rx r h p
 unfold ze7 at h
 split at h
 ·split at h
  ·rename_i n y S ys e
   obtain ⟨d1,h2,h⟩:=bnd h
   obtain ⟨ds,h3,h⟩:=bnd h
   obtain ⟨hc,h⟩:=zpi h
   cases h
   obtain ⟨w,rfl,rw'⟩:=r.one
   obtain ⟨a,us,ha,hH,r2⟩:=sim.lst e
   cases rx with
   | ref hn =>
    rw [ha] at hn;cases hn
    exact ⟨w,ρ,_,y,ys,d1,ds,a,us,rfl,sim,rw',rfl,hH,r2,h2,h3,hc.1,hc.2,p ρ H _ (Ext.refl ..) sim (.int _)⟩
  ·cases h
 ·cases h
variable {o e:Expr}{mo me:EM}{apos cpos:Pos}
theorem yad (hr:Room k X.A) (ho:PE3 X o mo) (he:PE3 X e me) (hbase:attributeBase o "count" X.env (eval o X.env)=eval o X.env:=by rfl)
  (hfew:((backTo cpos (starEach [e] X.env)).all (λx=>!x.1) && (backToKw cpos (keywordEach [] X.env)).all (λx=>x.1.isSome) && decide (([e]:List Expr).length+([]:List Keyword).length+(if ([]:List Keyword).isEmpty then 0 else 1)<30))=true:=by rfl)
  (hline:(apos.endLine == cpos.line)=true:=by rfl) (hs:starEach [e] X.env=(false,eval e X.env) :: starEach [] X.env:=by rfl) (hplain:(backTo cpos (starEach [] X.env)).any (·.1)=false:=by rfl) :
  PE3 X (.Call (.Attribute o "count" apos) [e] [] cpos) (zc1 ze7 mo (zaa me zae)):=zik PySem.F.slot_list_count PySem.F.type_list_count (yab hr) yac ho (zac he zag hs) hbase hfew hline hs hplain
end
theorem yae {i:Int}{u:Value}:merged ([]:List (Key × Value)) [(Sum.inl i,u)]=[(Sum.inl i,u)]:=by simp [merged,stored]
section
variable {X:Cx}{pos:Pos}
theorem yaf {a:Int}{i:Nat}{x:Str}{j3:Nat}{p1 p3:Pos}(hN:X.N[i]? = some x) (hv:Vis X.env.scope x) (hd:(x == ("__debug__":Str))=false:=by decide) (hcd:(x == ("__classdict__":Str))=false:=by decide) :
  PE X (.Dict [some (.Name x p1)] [.Constant (.int a) j3 p3] pos) (λσ H Q=>∃k,σ[i]? = some (some (.int k))/\∀p,H p=none->Q (.ref p) (upd H p (.dK [(Sum.inl k,.int a)]))):=by
 intro pins s σ H Q I q
 obtain ⟨k,hσ,q⟩:=q
 have hn:=I.fresh
 have I1:=I.laid (a:=s.heap.objs.size) (o:=.dK []) (h':=s.heap.push { cls:=.type "dict",data:=.dict #[] }) (t':=s.toks) (λ_ _ q=>qps _ q) (qlr _)
  ⟨Nat.zero_le _,beq_eq_false_iff_ne.mpr (Ne.symm (Nat.ne_of_lt (zou I))),[],.nil,Heap.DictOf.new s.heap⟩
 refine wpAny_Dict_walk (knd:=zcg X.prog X.w) rfl rfl (by simp) (by simp) ?_
 refine pairTrees_cons_walk (thn (zh3 hN hv hd hcd pins _ σ _ (λv H2=>v=.int k/\H2=upd H s.heap.objs.size (.dK [])) I1 ⟨.int k,hσ,rfl,rfl⟩) λu s2 ⟨v,H2,I2,rv,e1,e2⟩=>wpAny_Constant_int ?_)
 subst e1 e2
 obtain ⟨t,rfl⟩:=rv
 refine pairTrees_nil_walk ?_
 obtain ⟨_,hd,vs0,r0,dd⟩:=I2.hok s.heap.objs.size _ zbg
 cases r0
 refine ⟨[(Sum.inl k,_)],⟨zmf X.prog X.w k _,rfl,trivial⟩,dd,λh' dd' hs=>?_⟩
 rw [yae] at dd'
 obtain ⟨o,es,ep,ho,hr⟩:=id dd'
 have I3:=I2.write (x:=s.heap.objs.size) (e:=s.heap.objs.size) (o:=.dK [(Sum.inl k,.int a)]) (h':=h') (t':=s2.toks+1) (by rw [zbg];exact trivial) (.inl rfl) (λb o hb e=>hs.extBut b o hb e) ⟨o,ho⟩
  ⟨by show 1<=sizeLine;decide,hd,_,.cons ⟨rfl,_,rfl⟩ .nil,dd'⟩
 rw [zmg] at I3
 exact ⟨.ref s.heap.objs.size,_,I3.tok _,rfl,q _ hn⟩
noncomputable def ze8 (i:Nat) (a:Int):EM:=λl S=>match l[i]? with
 | some (some (.int k))=>some (.ref S.length,S++[.dct [(Sum.inl k,.int a)]])
 | _=>none
theorem yag {a:Int}{x:Str}{j3:Nat}{p1 p3:Pos}(i:Nat) (hN:X.N[i]? = some x:=by rfl) (hv:Vis X.env.scope x:=by first|exact Or.inl rfl|exact Or.inr (Or.inl rfl)|exact Or.inr (Or.inr rfl)) (hd:(x == ("__debug__":Str))=false:=by decide) (hcd:(x == ("__classdict__":Str))=false:=by decide) :
  PE3 X (.Dict [some (.Name x p1)] [.Constant (.int a) j3 p3] pos) (ze8 i a):=PE.imp (yaf hN hv hd hcd) λσ H Q hx=>by
 obtain ⟨ρ,l,S,v,S',sim,ro,hm,p⟩:=hx
 unfold ze8 at hm
 split at hm
 ·rename_i k el
  cases hm
  obtain ⟨v,hσ,rd⟩:=ro.get i _ el
  cases rd
  refine ⟨k,hσ,λd hd=>?_⟩
  exact p (ρ++[d]) _ _ (zfi hd) (sim.pushG hd ⟨[.int a],zbg,.cons (.int a) .nil⟩) (.ref (by rw [<-sim.len];exact za5 ρ d))
 ·cases hm
end
theorem yah:∀g∈([]:List LamG),LamW g:=λ_ z=>by cases z
theorem zp1 {g0:LamG}{gs:List LamG}(h:LamW g0) (t:∀g∈gs,LamW g):∀g∈g0 :: gs,LamW g:=λg z=>by
 rcases List.mem_cons.mp z with e|e
 ·rw [e];exact h
 ·exact t g e
section
variable {P:Program}{w:World}{K:QFg}{mg:Str->Option Value}{base:Heap}{CA:Str->Addr}{j k n:Nat}{f0:Str}{rx:ZF}{tb:List (Str × Nat × ZF)}
theorem yai:∀f t,([]:List (Str × Nat × ZF)).lookup f=some t->∃k,k+1<=j/\zcl P w K mg base CA f k t.1 t.2:=λ_ _ z=>by cases z
theorem zp2 (F:zcl P w K mg base CA f0 k n rx) (hk:k+1<=j) (ht:∀f t,tb.lookup f=some t->∃k,k+1<=j/\zcl P w K mg base CA f k t.1 t.2):∀f t,((f0,n,rx) :: tb).lookup f=some t->∃k,k+1<=j/\zcl P w K mg base CA f k t.1 t.2:=λf t hl=>by
 rw [List.lookup_cons] at hl
 split at hl
 ·rename_i q
  cases hl
  have e:f=f0:=by simpa using q
  subst e
  exact ⟨k,hk,F⟩
 ·exact ht f t hl
end
section
variable {prog:Program}{w:World}{A:Around}{E:Value->Shared->Prop}{s:Shared}
theorem yaj:isSubtype (.type "range") (.type "tuple")=pure false:=by rw [isSubtype_type];kernel_rfl
theorem yak {r:Addr}:checkBuiltinCall "tuple.__new__" ⟨[.type "tuple",.ref r],[]⟩=pure ():=by kernel_rfl
theorem yal:Bind.madeHere "tuple.__new__" (.type "tuple")=pure ():=by kernel_rfl
theorem zp3:typeLookup (.type "tuple") (Str.ofString "__init__")=pure (some (.builtin "object.__init__")):=by kernel_rfl
theorem yam {r:Addr}{n:Nat}{t u v:Tok}{Q:Value->Shared->Prop}(hh:A.handled=none) (hr:IsRange s.heap r 0 n 1 t u v) (hn:n<=1000)
  (h:∀(h':Heap) (tk:Nat) (acc:Array Value),s.heap.objs.size<=h'.objs.size->(∀b o,s.heap.get? b=some o->h'.get? b=some o)->ItemsOf (λi v=>∃t,v=.int (0+i*1) t) acc n->Q (.ref h'.objs.size) { s with heap:=h'.push { cls:=.type "tuple",data:=.seq acc },toks:=tk }) :
  codeAny (model prog w) A (.call (.builtin "tuple.__new__") ⟨[.type "tuple",.ref r],[]⟩) (wants Q E) s:=by
 refine codeAny_call_builtin F.plain_tuple_new F.entry_tuple_new ?_
 rw [yak]
 refine qwp ?_
 have k2:=F.called_tuple.sub
 have hz:Builtin.Range.rangeSize 0 (n:Int) 1=((n:Nat):Int):=by rw [rangeSize_one];split <;> omega
 have hT:s.TypeIs (.ref r) "range":=⟨_,hr,rfl⟩
 have q1:=yaj
 have m1:=yal
 have m2:=zp3
 have cl:=SK.collectG (prog:=prog) (w:=w) (A:=A.in1) (E:=λe s'=>wants Q E (.error e) s') (s:=s) (R:=λl s'=>∃(h':Heap) (tk:Nat) (acc:Array Value),l=acc.toList/\s' = { s with heap:=h',toks:=tk }/\s.heap.objs.size<=h'.objs.size/\(∀b o,s.heap.get? b=some o->h'.get? b=some o)/\ItemsOf (λi v=>∃t,v=.int (0+i*1) t) acc n)
  (by simpa using hh) hr (small_one (by omega) (by omega) (by omega) (by omega)) hz (by omega) λh' tk acc a b c=>⟨h',tk,acc,rfl,rfl,a,b,c⟩
 unfold Builtin.«tuple.__new__»
 generalize hC:collect=C
 simp only [m1,m2,k2]
 wp_walk
 subst hC
 refine thn cl λa s' hq=>?_
 obtain ⟨h',tk,acc,rfl,rfl,z1,z2,z3⟩:=hq
 refine qwb (qwp ?_)
 unfold Builtin.Tuple.tupleExact
 have hs:acc.size=n:=z3.1
 have H:=h h' tk acc z1 z2 z3
 refine qwb (wpAny_newObj_type (qwp ?_) ?_)
 ·simpa using H
 ·show acc.toList.toArray.size<=sizeLine
  rw [sizeLine_eq];simp;omega
theorem yan {a r:Addr}{acc:Array Value}{Q:Value->Shared->Prop}(h1:s.heap.get? a=some { cls:=.type "tuple",data:=.seq acc }) (h:Q .none s):codeAny (model prog w) A (.call (.builtin "object.__init__") ⟨[.ref a,.ref r],[]⟩) (wants Q E) s:=by
 have hT:s.TypeIs (.ref a) "tuple":=⟨_,h1,rfl⟩
 have m2:=zp3
 have k1:=F.called_tuple.made
 refine codeAny_call_builtin F.called_tuple.init.plain F.entry_object_init (F.called_tuple.init.check _ _ _ _ _ _ _ _ hT (F.args_object_init_2 _ _) ?_)
 exact object_init_meets (self:=.ref a) (rest:=[.ref r]) m2 k1 (by decide) prog w A (wants Q E) s ⟨hT,h⟩
theorem yao {r:Addr}{n:Nat}{t u v:Tok}{Q:Value->Shared->Prop}(hh:A.handled=none) (hr:IsRange s.heap r 0 n 1 t u v) (hn:n<=1000)
  (h:∀(h':Heap) (tk:Nat) (acc:Array Value),s.heap.objs.size<=h'.objs.size->(∀b o,s.heap.get? b=some o->h'.get? b=some o)->ItemsOf (λi v=>∃t,v=.int (0+i*1) t) acc n->Q (.ref h'.objs.size) { s with heap:=h'.push { cls:=.type "tuple",data:=.seq acc },toks:=tk }) :
  wpAny (model prog w) A (call (.type "tuple") [.ref r]) Q E s:=by
 obtain ⟨c,tl,k0⟩:=F.called_tuple.mro;have k1:=F.called_tuple.made;have k2:=F.called_tuple.sub
 refine wpAny_call (codeAny_of_tree (show wpAny _ _ (callAny (.type "tuple") _) _ _ _ from ?_))
 refine qwp ⟨Code.quiet_builtin _ (by decide +kernel),codeAny_builtin F.entry_type_call ?_⟩;rw [Around.under_plain (weight_type_call_type "tuple" [.ref r] []) rfl]
 have k3:=F.called_tuple.notType;have k4:=F.called_tuple.canCreate;have k5:=F.typeCall_tuple_1 (.ref r)
 repeat (any_goals (first|assumption|wp_step))
 refine codeAny_mono (yam (E:=E) (Q:=λx s1=>∃(h':Heap) (tk:Nat) (acc:Array Value),x=.ref h'.objs.size/\s1={ s with heap:=h'.push { cls:=.type "tuple",data:=.seq acc },toks:=tk }/\s.heap.objs.size<=h'.objs.size/\(∀b o,s.heap.get? b=some o->h'.get? b=some o)/\ItemsOf (λi v=>∃t,v=.int (0+i*1) t) acc n) (by simpa using hh) hr hn λh' tk acc a b c=>⟨h',tk,acc,rfl,rfl,a,b,c⟩) λq s1 hq=>?_
 match q,hq with
 | .error e,hq=>exact hq
 | .ok .next,hq=>exact hq.elim
 | .ok .brk,hq=>exact hq.elim
 | .ok .cont,hq=>exact hq.elim
 | .ok (.ret x),hq =>
  obtain ⟨h',tk,acc,rfl,rfl,z1,z2,z3⟩:=hq
  have H:=h h' tk acc z1 z2 z3
  have g1:(h'.push { cls:=.type "tuple",data:=.seq acc }).get? h'.objs.size=some { cls:=.type "tuple",data:=.seq acc }:=Heap.get?_push_size _ rfl
  have g2:Shared.TypeIs { s with heap:=h'.push { cls:=.type "tuple",data:=.seq acc },toks:=tk } (.ref h'.objs.size) "tuple":=⟨_,g1,rfl⟩
  have k6:=F.called_tuple.init.lookup;have k7:=F.called_tuple.init.bind (.ref h'.objs.size)
  repeat (any_goals (first|assumption|wp_step))
  refine codeAny_mono (yan (E:=E) (Q:=λx s1=>x=.none/\s1={ s with heap:=h'.push { cls:=.type "tuple",data:=.seq acc },toks:=tk }) g1 ⟨rfl,rfl⟩) λq2 s2 hq2=>?_
  match q2,hq2 with
  | .error e,hq=>exact hq
  | .ok .next,hq=>exact hq.elim
  | .ok .brk,hq=>exact hq.elim
  | .ok .cont,hq=>exact hq.elim
  | .ok (.ret x),hq =>
   obtain ⟨rfl,rfl⟩:=hq
   repeat (any_goals (first|assumption|wp_step))
end
noncomputable def zdr (n:Nat):List Int:=(List.range n).map λk=>((k:Nat):Int)
theorem yap {acc:Array Value}{n:Nat}(h:ItemsOf (λi v=>∃t,v=Value.int (0+i*1) t) acc n):Vals ((zdr n).map V.int) acc.toList:=by
 refine zkz (by simp [zdr,h.1]) λj x v e1 e2=>?_
 obtain ⟨t,rfl⟩:=h.2 j v (by rw [<-e2,Array.getElem?_toList])
 have hj:j<n:=by rw [<-h.1];have:=(qme e2).1;simpa using this
 unfold zdr at e1
 rw [List.map_map,qgm,List.getElem?_range hj] at e1
 cases e1
 exact ⟨t,by show Value.int (0+(j:Int)*1) t=Value.int (j:Int) t;congr 1;omega⟩
section
variable {X:Cx}{a:Expr}{mA:AM}{p p0 pos pos':Pos}
def yaq:List V->Hp->VK->Prop:=λxs H Q=>∃(r:Addr) (n:Nat),xs=[.ref r]/\H r=some (.rng 0 n)/\n<=1000/\∀l,H l=none->Q (.ref l) (upd H l (.tup ((zdr n).map V.int)))
theorem yar (hc:X.calm=true):CallR X (.type "tuple") yaq:=by
 intro pins s σ H xs us Q I r h
 obtain ⟨p,n,rfl,hH,hn,q⟩:=h
 obtain ⟨u,rfl,rx⟩:=zcm r
 cases rx
 obtain ⟨t,u,v,er⟩:=I.hok p _ hH
 refine yao (I.ok.hd hc) er hn λh' tk acc z1 kp hi=>?_
 have I1:Inv X pins σ H { s with heap:=h',toks:=tk }:=I.kept kp
 have I2:Inv X pins σ (upd H h'.objs.size (.tup ((zdr n).map V.int))) { s with heap:=h'.push { cls:=.type "tuple",data:=.seq acc },toks:=tk } :=
  I1.laid (t':=tk) (λb o e=>qps _ e) (qlr _) (show ObjOk X.prog X.w _ _ _ (.tup ((zdr n).map V.int)) from ⟨by rw [qlm,sizeLine_eq];simp only [zdr,qlm,List.length_range];omega,acc.toList,yap hi,by simpa using IsTD.new h' acc⟩)
 exact ⟨.ref h'.objs.size,_,I2,rfl,q _ (I1.hok.fresh (qlr _))⟩
noncomputable def zgi (mA:AM):EM:=λl S=>(mA l S).bind λq=>match q.1 with
 | [.int n]=>if 0<=n/\n<=1000 then some (.tup ((zdr n.toNat).map D.int),q.2) else none
 | _=>none
theorem yas (hc:X.calm=true) (hg:Gl X "tuple") (hm:X.mg "tuple" = none) (hgr:Gl X "range") (hmr:X.mg "range" = none) (ha:PA3 X [a] mA)
  (he:starEach [.Call (.Name "range" p0) [a] [] pos'] X.env=[(false,eval (.Call (.Name "range" p0) [a] [] pos') X.env)]:=by rfl)
  (he2:starEach [a] X.env=(false,eval a X.env) :: starEach [] X.env:=by rfl) :
  PE3 X (.Call (.Name "tuple" p) [.Call (.Name "range" p0) [a] [] pos'] [] pos) (zgi mA) :=
 PE.imp (zgy (yar hc) hg hm zha (zcn (zgy zoq hgr hmr zor ha (by decide) (by decide) he2 rfl) zdw he) (by decide) (by decide) he rfl) λσ H Q hx=>by
  obtain ⟨ρ,l,S,v,S',sim,ro,hm,p⟩:=hx
  obtain ⟨⟨xs,S2⟩,q2,q1⟩:=bnd hm
  dsimp only at q1
  split at q1
  ·rename_i n
   obtain ⟨hb,e⟩:=za3 q1
   cases e
   refine ⟨ρ,l,S,_,_,sim,ro,q2,λρ1 H1 vs e1 s1 r1=>?_⟩
   obtain ⟨u,rfl,ru⟩:=r1.one
   cases ru
   refine ⟨_,rfl,λr hr=>⟨r,n.toNat,rfl,by rw [zbg];congr 2;omega,by omega,λd hd=>?_⟩⟩
   exact p ρ1 _ _ ((e1.trans (zb1 hr)).trans (zb1 hd)) ((s1.laid hr).laid hd) (.tup zbg (rdI ρ1 _ _))
  ·cases q1
end
section
variable {prog:Program}{w:World}{A:Around}{E:Value->Shared->Prop}{s:Shared}{Q:Value->Shared->Prop}
theorem yat {t a:Addr}{o oa:Obj}{u:Value}{n na:Nat}{l:List Value}{p:PyData}{xs:List PyData}{as bs:List Addr}(h1:s.heap.get? t=some o) (h2:o.cls=.type "tuple") (h3:o.data=.seq #[u,.ref a] n) (hp:Reads s.heap u p as) (hps:p.showable=true) (hpd:p.hasDict=false)
  (g1:s.heap.get? a=some oa) (g2:oa.cls=.type "list") (g3:oa.data=.seq l.toArray na) (hl:ReadsAll s.heap l xs bs) (hls:PyData.showableAll xs=true) (hsm:sysModules ∉ bs)
  (hg:A.guards=some []) (hu:A.units+(p.depth+PyData.depthAll xs+5)<cLine)
  (hQ:∀h' u tk,(∀b o,s.heap.get? b=some o->h'.get? b=some o)->Q (.str (PyData.tuple [p,.list xs]).shown u) { s with heap:=h',toks:=tk })
  (hsz:(PyData.tuple [p,.list xs]).shown.length<=sizeLine):wpAny (model prog w) A (call (.builtin "repr") [.ref t]) Q E s:=by
 have hl':ReadsAll s.heap l.toArray.toList xs bs:=by simpa using hl
 have sh:(PyData.tuple [p,.list xs]).shown=tupleText [p.shown,listText (PyData.shownAll xs)]:=by simp only [PyData.shown,PyData.shownAll]
 rw [sh] at hsz
 have z1:p.shown.length<=sizeLine:=Nat.le_trans (tupleText_mem_le (by simp)) hsz
 have z2:(listText (PyData.shownAll xs)).length<=sizeLine:=Nat.le_trans (tupleText_mem_le (by simp)) hsz
 have rl:Reads s.heap (.ref a) (.list xs) (a :: bs):=.list g1 g2 g3 hl'
 have rt:Reads s.heap (.ref t) (.tuple [p,.list xs]) _:=.tuple h1 h2 h3 (.cons hp (.cons rl .nil))
 obtain ⟨cs,c1,c2⟩:=ReprK.of_reads (prog:=prog) (w:=w) hp hps (λe=>by rw [hpd] at e;cases e) z1
 obtain ⟨ds,d1,d2⟩:=ReprAllK.of_readsAll (prog:=prog) (w:=w) hl' hls (λ_=>hsm) λt ht=>Nat.le_trans (listText_mem_le ht) z2
 have na':a ∉ ds:=not_mem_of_deeper rl (by simp only [PyData.depth];omega) d1
 have kl:ReprK prog w (a :: ds) s.heap (PyData.depthAll xs+1) (.ref a) (listText (PyData.shownAll xs)):=by
  cases l with
  | nil =>
   cases hl
   have:=ReprK.listEmpty (prog:=prog) (w:=w) (as:=a :: ds) (d:=PyData.depthAll []+1) g1 g2 g3
   simpa only [PyData.shownAll,listText_nil] using this
  | cons x l =>
   exact ReprK.list g1 g2 g3 na' (by simpa using d2.length_eq) λi y e=>d2.item i y (by simpa using e)
 have dd:(PyData.list xs).depth=PyData.depthAll xs+1:=by simp only [PyData.depth]
 have nt:t ∉ cs++a :: ds:=by
  intro z
  obtain ⟨dq,aq,rq,le⟩:∃dq aq,Reads s.heap (.ref t) dq aq/\dq.depth<=max p.depth (PyData.depthAll xs+1):=by
   rcases List.mem_append.mp z with z|z
   ·obtain ⟨dq,aq,rq,le⟩:=c1 t z
    exact ⟨dq,aq,rq,by omega⟩
   ·rcases List.mem_cons.mp z with rfl|z
    ·exact ⟨_,_,rl,by omega⟩
    ·obtain ⟨dq,aq,rq,le⟩:=d1 t z
     exact ⟨dq,aq,rq,by omega⟩
  refine not_mem_of_deeper (n:=max p.depth (PyData.depthAll xs+1)) (bs:=[t]) rt ?_ (λb hb=>?_) (List.mem_singleton.mpr rfl)
  ·simp only [PyData.depth,PyData.depthAll];omega
  ·rw [List.mem_singleton.mp hb];exact ⟨dq,aq,rq,le⟩
 have all:ReprAllK prog w (cs++a :: ds) s.heap (p.depth+PyData.depthAll xs+1) (#[u,.ref a]:Array Value).toList [p.shown,listText (PyData.shownAll xs)] :=
  .cons ((c2.more λb hb=>List.mem_append_left _ hb).level_le (by omega)) (.cons ((kl.more λb hb=>List.mem_append_right _ hb).level_le (by omega)) .nil)
 refine call_repr_slot (by omega) ⟨o,h1,h2⟩ F.slot_tuple_repr ?_
 rw [sh] at hQ
 exact call_tuple_reprK h1 h2 h3 nt all hg (λb _=>Clear.nil b) (by show A.units+1+_<_;omega) (λ_ _ e=>e) (λh' u tk k=>⟨_,_,rfl,hQ h' u tk k⟩) hsz
end
noncomputable def ze9:FM
 | [.tup [x,.ref n]],S=>match S[n]? with
  | some (.lst ys)=>(zak S 60 x).bind λp=>(pyTs S 60 ys).bind λds=>txU (.tuple [p,.list ds]) S
  | _=>none
 | _,_=>none
def zp4 (K:QFg):List V->Hp->VK->Prop:=λxs H Q=>∃v ρ S d z S',xs=[v]/\Sim K ρ S H/\RD ρ H d v/\ze9 [d] S=some (.str z,S')/\Q (.str z) H
section
variable {X:Cx}{a:Expr}{es:List Expr}{mA:AM}{pos p:Pos}
theorem yau {k:Nat}(hr:Room k X.A):CallR X (.builtin "repr") (zp4 X.K):=by
 intro pins s σ H xs us Q I r h
 obtain ⟨v,ρ,S,d,z,S',rfl,sim,rd,hp,q⟩:=h
 obtain ⟨u,rfl,ru⟩:=zcm r
 unfold ze9 at hp
 split at hp
 ·rename_i x n T heq
  cases heq
  split at hp
  ·rename_i ys e0
   obtain ⟨p,h1,hp⟩:=bnd hp
   obtain ⟨ds,h2,hp⟩:=bnd hp
   unfold txU at hp
   obtain ⟨hz,e⟩:=za3 hp
   cases e
   cases rd with
   | @tup _ ta vs ha rr =>
    cases ru
    obtain ⟨v1,v2,rfl,r1,r2⟩:=rr.two
    cases r2 with
    | @ref _ ad hn =>
     obtain ⟨us,hH,r3⟩:=sim.at' _ ad _ hn e0
     obtain ⟨zz,its,n2,rv,ho⟩:=I.hok ad _ hH
     obtain ⟨zt,itt,rt,ot,ho2,hc2,n3,hd2,_⟩:=I.hok ta _ ha
     have rt':Vals [v1,V.ref ad] itt:=rt
     cases rt' with
     | cons w1 w2 =>
      cases w2 with
      | cons w3 w4 =>
       cases w4
       cases w3
       obtain ⟨⟨as,k1⟩,k2,k3,k4⟩:=zd0 I sim 60 _ v1 _ p r1 w1 h1
       obtain ⟨⟨bs,m1,m2⟩,m3,m4⟩:=readsTs_of I sim 60 ys us its ds r3 rv h2
       exact yat ho2 hc2 hd2 k1 k2 k3 ho rfl rfl m1 m3 m2 hr.gd (by have:=hr.un;omega) (λh' u tk hk=>⟨.str _,H,I.kept hk,⟨u,rfl⟩,q⟩) hz
  ·cases hp
 ·cases hp
theorem yav {K:QFg}:Fn3 K ze9 (zp4 K):=by
 intro ρ S H xs vs v S' Q sim r h p
 have key:∃d z,xs=[d]/\v=.str z/\S' = S:=by
  unfold ze9 at h
  split at h
  ·split at h
   ·obtain ⟨p,h1,h⟩:=bnd h
    obtain ⟨ds,h2,h⟩:=bnd h
    unfold txU at h
    obtain ⟨hz,e⟩:=za3 h
    cases e
    exact ⟨_,_,rfl,rfl,rfl⟩
   ·cases h
  ·cases h
 obtain ⟨d,z,rfl,rfl,rfl⟩:=key
 obtain ⟨w,rfl,rw'⟩:=r.one
 exact ⟨w,ρ,_,d,z,_,rfl,sim,rw',h,p ρ H _ (Ext.refl ..) sim (.str _)⟩
noncomputable def zc5:FM:=λxs S=>match zei xs S with|some v=>some v|none=>ze9 xs S
theorem zi2 {k:Nat}(hr:Room k X.A) (hg:Gl X "repr") (hm:X.mg "repr" = none) (ha:PA3 X (a :: es) mA) (he:starEach (a :: es) X.env=(false,eval a X.env) :: starEach es X.env:=by rfl) (hpl:(backTo pos (starEach es X.env)).any (·.1)=false:=by rfl):PE3 X (.Call (.Name "repr" p) (a :: es) [] pos) (zaf zc5 mA) :=
 zfn (CallR.or3 (CallR.or3 (zxm hr) (zwr hr)) (yau hr)) (zzv (zxo zxn zws) yav) hg hm zwt ha (by decide) (by decide) he hpl
end
theorem zan {α:Type}{x:α}{p:α->Prop}:(∃d,(some (some x):Option (Option α))=some (some d)/\p d)=p x:=by
 apply propext;constructor
 ·rintro ⟨d,h,q⟩;cases h;exact q
 ·exact λq=>⟨x,rfl,q⟩
theorem zc6 {α:Type}{x:α}{p:α->Prop}:(∃d,(some x:Option α)=some d/\p d)=p x:=by
 apply propext;constructor
 ·rintro ⟨d,h,q⟩;cases h;exact q
 ·exact λq=>⟨x,rfl,q⟩
theorem za9 {b:Bool}{p:Bool->Prop}:(∃k,D.bl b=D.bl k/\p k)=p b:=by
 apply propext;constructor
 ·rintro ⟨d,h,q⟩;cases h;exact q
 ·exact λq=>⟨b,rfl,q⟩
theorem zp5 {α:Type}{x y:α}:L2.atI [x,y] 0=some x:=rfl
theorem zp6 {α:Type}{x y:α}:L2.atI [x,y] 1=some y:=rfl
theorem zp7 {α:Type}{x y z:α}:L2.atI [x,y,z] 0=some x:=rfl
theorem zp8 {α:Type}{x y z:α}:L2.atI [x,y,z] 1=some y:=rfl
theorem zp9 {α:Type}{x y z:α}:L2.atI [x,y,z] 2=some z:=rfl
theorem zd4 {S:Sto}{xs:List D}:lstOf (S++[.lst xs]) S.length=some xs:=by unfold lstOf;rw [za5]
theorem zgj {α:Type}(xs:List α) (i:Int) (h0:0<=i) (h1:i<xs.length):∃x,L2.atI xs i=some x/\x∈xs:=by
 have hl:i.toNat<xs.length:=by omega
 refine ⟨xs[i.toNat],?_,List.getElem_mem hl⟩
 unfold L2.atI L2.ixN
 rw [if_pos h0,if_pos h1]
 simp [hl]
section
variable {S:Sto}{Q:D->Sto->Prop}{l:Lo}{QG:Lo->Sto->Prop}
theorem zqa {i j:Int}:Wo (zdb (.int i) (.int j) S) Q=(((-(2 ^ 64)<i/\i<2 ^ 64)\/(-(2 ^ 64)<j/\j<2 ^ 64))/\Q (.int (i*j)) S):=zeh
theorem zlu {xs:List D}{i:Int}:Wo (za2 (.tup xs) (.int i) S) Q = ∃v,L2.atI xs i=some v/\Q v S:=by
 have e:za2 (.tup xs) (.int i) S=dIx (.tup xs) (.int i) S:=by
  unfold za2
  cases h:dIx (.tup xs) (.int i) S with
  | some v=>rfl
  | none=>rfl
 rw [e,zks]
theorem zdi {k:Nat}{i:Int}:Wo (za2 (.ref k) (.int i) S) Q = ∃xs,lstOf S k=some xs/\∃v,L2.atI xs i=some v/\Q v S:=by
 have e:za2 (.ref k) (.int i) S=dIx (.ref k) (.int i) S:=by
  unfold za2
  cases h:dIx (.ref k) (.int i) S with
  | some v=>rfl
  | none=>rfl
 rw [e,zkt]
theorem zi3 {k:Nat}:Wo (zbj [.ref k] S) Q = ∃xs,lstOf S k=some xs/\Q (.int xs.length) S:=zkv
theorem zd5 {xs:List D}:Wo (zbj [.tup xs] S) Q=Q (.int xs.length) S:=zku
theorem zgk {i j:Int}:Wo (dNe (.int i) (.int j) S) Q=Q (.bl (!decide (i=j))) S:=zav
theorem yaw {n:Nat}:Wo (zf5 [.ref n] S) Q = ∃xs,lstOf S n=some xs/\xs.all zf4=true/\Q (.bl (xs.all isT)) S:=by
 show Wo ((lstOf S n).bind λxs=>if xs.all zf4=true then some (.bl (xs.all isT),S) else none) Q=_
 rw [zeg];simp only [zeh]
theorem zqb {o i:EM}{v:D}:Wg (zf7 o i v l S) QG=We o l S λx S1=>We i l S1 λy S2=>∃S',zhf x y v S2=some S'/\QG l S':=by
 apply propext
 constructor
 ·rintro ⟨l',S',h,q⟩
  obtain ⟨⟨x,S1⟩,h1,h⟩:=bnd h
  obtain ⟨⟨y,S2⟩,h2,h⟩:=bnd h
  obtain ⟨S3,h3,h⟩:=bnd h
  cases h
  exact ⟨x,S1,h1,y,S2,h2,_,h3,q⟩
 ·rintro ⟨x,S1,h1,y,S2,h2,S3,h3,q⟩
  refine ⟨l,S3,?_,q⟩
  unfold zf7;rw [h1];show (i l S1).bind _=_;rw [h2];show (zhf x y v S2).bind _=_;rw [h3];rfl
theorem zhk {U:String}{b:Bool}:Wo (zb2 U (.bl b) S) Q=Q (.bl (isI "bool" U)) S:=zav
theorem zi4 {U:String}{b:Int}:Wo (zb2 U (.int b) S) Q=Q (.bl (isI "int" U)) S:=zav
theorem zgl {U:String}{b:List D}:Wo (zb2 U (.tup b) S) Q=Q (.bl (isI "tuple" U)) S:=zav
theorem zi5 {U:String}:isI U U=true:=by unfold isI;simp
end
def Gr (S0 S:Sto):Prop:=∃ex,S=S0++ex
theorem Gr.refl (S:Sto):Gr S S:=⟨[],by rw [List.append_nil]⟩
theorem Gr.trans {A B C:Sto}(h:Gr A B) (g:Gr B C):Gr A C:=by obtain ⟨x,rfl⟩:=h;obtain ⟨y,rfl⟩:=g;exact ⟨x++y,by rw [List.append_assoc]⟩
theorem Gr.push {A B:Sto}(h:Gr A B) (o:Ob):Gr A (B++[o]):=h.trans ⟨[o],rfl⟩
theorem Gr.get {A B:Sto}{n:Nat}{o:Ob}(h:Gr A B) (e:A[n]? = some o):B[n]? = some o:=by
 obtain ⟨x,rfl⟩:=h
 rw [List.getElem?_append_left (qme e).1];exact e
theorem Gr.lst {A B:Sto}{n:Nat}{xs:List D}(h:Gr A B) (e:lstOf A n=some xs):lstOf B n=some xs:=by
 unfold lstOf at e ⊢
 cases q:A[n]? with
 | none=>rw [q] at e;cases e
 | some o=>rw [h.get q];rw [q] at e;exact e
section
variable {it:ItM}{im:IM}{ixs:List (Option Nat)}{g:GM}{t:TM}{e:EM}{l:Lo}{S S1:Sto}{Q:D->Sto->Prop}{k:Nat}
theorem zlv (xs:List D) (R:Nat->List D->Lo->Sto->Prop) (hit:∀i acc l S,R i acc l S->it i S=some xs[i]?)
  (step:∀(i:Nat) x acc l S,xs[i]? = some x->R i acc l S->Wg (g x l S) λl1 S1=>Wt t l1 S1 λb S2=>if b=true then We e l1 S2 λv S3=>R (i+1) (acc++[v]) l1 S3 else R (i+1) acc l1 S2) :
  ∀(n i:Nat) (acc:List D) (l:Lo) (S:Sto),n+i=xs.length->R i acc l S->∃rest S' l',zc9 it g t e (n+1) i l S=some (rest,S')/\R xs.length (acc++rest) l' S'
 | 0,i,acc,l,S,hn,h=>by
  have hi:i=xs.length:=by omega
  have e0:=hit i acc l S h
  rw [List.getElem?_eq_none_iff.mpr (by omega)] at e0
  refine ⟨[],S,l,?_,by rw [List.append_nil,<-hi];exact h⟩
  unfold zc9;rw [e0];rfl
 | n+1,i,acc,l,S,hn,h=>by
  have hi:i<xs.length:=by omega
  have e0:=hit i acc l S h
  rw [qge hi] at e0
  obtain ⟨l1,S1,e1,b,S2,e2,q⟩:=step i _ acc l S (qge hi) h
  cases b with
  | true =>
   obtain ⟨v,S3,e3,q⟩:=q
   obtain ⟨rest,S',l',e4,q⟩:=zlv xs R hit step n (i+1) (acc++[v]) l1 S3 (by omega) q
   refine ⟨v :: rest,S',l',?_,by rw [List.append_assoc] at q;exact q⟩
   unfold zc9;rw [e0];show (g _ l S).bind _=_;rw [e1];show (t l1 S1).bind _=_;rw [e2]
   show (e l1 S2).bind _=_;rw [e3];show (zc9 it g t e (n+1) (i+1) l1 S3).bind _=_;rw [e4];rfl
  | false =>
   obtain ⟨rest,S',l',e4,q⟩:=zlv xs R hit step n (i+1) acc l1 S2 (by omega) q
   refine ⟨rest,S',l',?_,q⟩
   unfold zc9;rw [e0];show (g _ l S).bind _=_;rw [e1];show (t l1 S1).bind _=_;rw [e2]
   exact e4
theorem zlw (xs:List D) (R:Nat->List D->Lo->Sto->Prop) (him:im l S=some (it,xs.length+1,S1)) (h0:R 0 [] (zcc ixs l) S1) (hit:∀i acc l S,R i acc l S->it i S=some xs[i]?)
  (step:∀(i:Nat) x acc l S,xs[i]? = some x->R i acc l S->Wg (g x l S) λl1 S1=>Wt t l1 S1 λb S2=>if b=true then We e l1 S2 λv S3=>R (i+1) (acc++[v]) l1 S3 else R (i+1) acc l1 S2)
  (fin:∀acc l' S',R xs.length acc l' S'->acc.length<=sizeLine/\Q (.ref S'.length) (S'++[.lst acc])):We (zdn im ixs g t e) l S Q:=by
 obtain ⟨rest,S',l',h1,h2⟩:=zlv (it:=it) (g:=g) (t:=t) (e:=e) xs R hit step xs.length 0 [] (zcc ixs l) S1 rfl h0
 obtain ⟨hz,q⟩:=fin rest l' S' h2
 refine ⟨_,_,?_,q⟩
 unfold zdn;rw [him];show (zc9 it g t e (xs.length+1) 0 (zcc ixs l) S1).bind _=_;rw [h1];show (if _ then _ else _)=_;rw [if_pos hz]
theorem yax (xs:List D) (F:D->D) (P:Sto->Prop) (L:Lo->Prop) (him:im l S=some (it,xs.length+1,S1)) (h0:P S1) (l0:L (zcc ixs l)) (hit:∀i S,P S->it i S=some xs[i]?) (hz:xs.length<=sizeLine)
  (step:∀x l S,x∈xs->L l->P S->Wg (g x l S) λl1 S2=>P S2/\L l1/\We e l1 S2 λv S3=>v=F x/\P S3)
  (fin:∀S',P S'->Q (.ref S'.length) (S'++[.lst (xs.map F)])):We (zdn im ixs g zf0 e) l S Q:=by
 refine zlw xs (λi acc l S=>acc=(xs.take i).map F/\L l/\P S) him ⟨rfl,l0,h0⟩ (λi acc l S h=>hit i S h.2.2) ?_ ?_
 ·rintro i x acc l S hx ⟨rfl,hl,hp⟩
  obtain ⟨l1,S2,e1,p1,q1,v,S3,e2,rfl,p3⟩:=step x l S (qmg hx) hl hp
  refine ⟨l1,S2,e1,?_⟩
  dsimp only
  rw [zwp,if_pos rfl]
  refine ⟨_,S3,e2,?_,q1,p3⟩
  rw [List.take_add_one,hx];simp
 ·rintro acc l' S' ⟨rfl,hl,hp⟩
  rw [List.take_length]
  exact ⟨by rw [qlm];exact hz,fin S' hp⟩
theorem yay (xs:List D) (F:D->Option D) (P:Sto->Prop) (L:Lo->Prop) (him:im l S=some (it,xs.length+1,S1)) (h0:P S1) (l0:L (zcc ixs l)) (hit:∀i S,P S->it i S=some xs[i]?) (hz:xs.length<=sizeLine)
  (step:∀x l S,x∈xs->L l->P S->Wg (g x l S) λl1 S2=>L l1/\Wt t l1 S2 λb S3=>P S3/\(b=false->F x=none)/\(b=true->We e l1 S3 λv S4=>F x=some v/\P S4))
  (fin:∀S',P S'->Q (.ref S'.length) (S'++[.lst (xs.filterMap F)])):We (zdn im ixs g t e) l S Q:=by
 refine zlw xs (λi acc l S=>acc=(xs.take i).filterMap F/\L l/\P S) him ⟨rfl,l0,h0⟩ (λi acc l S h=>hit i S h.2.2) ?_ ?_
 ·rintro i x acc l S hx ⟨rfl,hl,hp⟩
  obtain ⟨l1,S2,e1,q1,b,S3,e2,p3,hf,ht⟩:=step x l S (qmg hx) hl hp
  refine ⟨l1,S2,e1,b,S3,e2,?_⟩
  have et:xs.take (i+1)=xs.take i++[x]:=by rw [List.take_add_one,hx];rfl
  cases b with
  | true =>
   obtain ⟨v,S4,e4,hv,p4⟩:=ht rfl
   dsimp only
   rw [if_pos rfl]
   refine ⟨v,S4,e4,?_,q1,p4⟩
   rw [et,List.filterMap_append];simp [hv]
  | false =>
   dsimp only
   rw [if_neg Bool.false_ne_true]
   refine ⟨?_,q1,p3⟩
   rw [et,List.filterMap_append];simp [hf rfl]
 ·rintro acc l' S' ⟨rfl,hl,hp⟩
  rw [List.take_length]
  exact ⟨Nat.le_trans (List.length_filterMap_le _ _) hz,fin S' hp⟩
end
theorem zqc {as:AM}{l:Lo}{S S1:Sto}{j:Int}(h:as l S=some ([.int j],S1)) (hz:-(2 ^ 62)<=j/\j<2 ^ 62):zb7 as l S=some ((0,j.toNat),S1):=by
 unfold zb7;rw [h];simp only [Option.bind_some];rw [if_pos hz]
theorem yaz {as:AM}{l:Lo}{S S1:Sto}{n:Nat}(h:as l S=some ([.int (n:Int)],S1)) (hn:n<1000000000):zio (zb7 as) l S=some (itX (zbo 0 n),(zbo 0 n).length+1,S1):=by
 have:=zqc h ⟨by omega,by omega⟩
 unfold zio;rw [this];simp only [Option.bind_some,Int.toNat_natCast,zkx]
theorem zqd {e:EM}{l:Lo}{S S1:Sto}{xs:List D}(h:e l S=some (.tup xs,S1)):zfz e l S=some (itX xs,xs.length+1,S1):=by
 unfold zfz;rw [h];rfl
section
variable {g:GM}{b:SM}
theorem zlx (P:Nat->Lo->Sto->Prop) (O:D->Sto->Prop):∀(xs:List D) (k:Nat) (l:Lo) (S:Sto),P k l S ->
  (∀(i:Nat) x l S,xs[i]? = some x->P (k+i) l S->Wg (g x l S) λl1 S1=>Ws b l1 S1 λf l2 S2=>((f=.nx\/f=.ct)/\P (k+i+1) l2 S2)\/∃d,f=.rt d/\O d S2) ->
  Wr (zc7 g b xs l S) λf l' S'=>(f=.nx/\P (k+xs.length) l' S')\/∃d,f=.rt d/\O d S'
 | [],k,l,S,h0,_=>⟨_,_,_,rfl,.inl ⟨rfl,h0⟩⟩
 | x :: xs,k,l,S,h0,hs=>by
  obtain ⟨l1,S1,e1,f,l2,S2,e2,q⟩:=hs 0 x l S rfl h0
  rcases q with ⟨hf,h1⟩|⟨d,rfl,hd⟩
  ·have ih:=zlx P O xs (k+1) l2 S2 h1 λi y l S hy hp=>by
    have:=hs (i+1) y l S (by simpa using hy) (by rw [show k+(i+1)=k+1+i by omega];exact hp)
    rw [show k+(i+1)+1=k+1+i+1 by omega] at this
    exact this
   obtain ⟨f',l',S',e3,q1⟩:=ih
   refine ⟨f',l',S',?_,by rw [List.length_cons,show k+(xs.length+1)=k+1+xs.length by omega];exact q1⟩
   unfold zc7
   rw [e1];show (b l1 S1).bind _=_;rw [e2]
   rcases hf with rfl|rfl <;> exact e3
  ·refine ⟨_,l2,S2,?_,.inr ⟨d,rfl,hd⟩⟩
   unfold zc7
   rw [e1];show (b l1 S1).bind _=_;rw [e2];rfl
theorem zi6 (P:Nat->Lo->Sto->Prop) (O:D->Sto->Prop) {as:AM}{l:Lo}{S S1:Sto}{n:Nat}{QS:Fl->Lo->Sto->Prop}(h:as l S=some ([.int (n:Int)],S1)) (hn:n<1000000000) (h0:P 0 l S1)
  (step:∀(i:Nat) l S,i<n->P i l S->Wg (g (.int i) l S) λl1 S1=>Ws b l1 S1 λf l2 S2=>((f=.nx\/f=.ct)/\P (i+1) l2 S2)\/∃d,f=.rt d/\O d S2)
  (fin:∀l' S',P n l' S'->QS .nx l' S') (out:∀d l' S',O d S'->QS (.rt d) l' S'):Ws (zee (zb7 as) g b) l S QS:=by
 rw [zwq]
 refine ⟨_,_,h,(n:Int),rfl,⟨by omega,by omega⟩,?_⟩
 rw [Int.toNat_natCast]
 refine (zlx P O (zbo 0 n) 0 l S1 h0 ?_).mono ?_
 ·intro i x l S hx hp
  obtain ⟨hi,rfl⟩:=zon hx
  rw [Nat.zero_add] at hp
  have:=step i l S hi hp
  rw [Int.zero_add,Nat.zero_add]
  exact this
 ·rintro f l' S' (⟨rfl,hp⟩|⟨d,rfl,hd⟩)
  ·rw [zkx,Nat.zero_add] at hp;exact fin l' S' hp
  ·exact out d l' S' hd
end
section
variable {S:Sto}{Q:D->Sto->Prop}{l:Lo}
theorem zfa {i j:Int}:Wo (zbf (.int i) (.int j) S) Q=Q (.int (i+j)) S:=zav
theorem zgm {xs ys:List D}:Wo (zbf (.tup xs) (.tup ys) S) Q=(xs.length+ys.length<=sizeLine/\Q (.tup (xs++ys)) S):=zeh
theorem ya0 {n m:Nat}{xs ys:List D}(h1:S[n]? = some (.lst xs)) (h2:S[m]? = some (.lst ys)):Wo (zbf (.ref n) (.ref m) S) Q=(xs.length+ys.length<=sizeLine/\Q (.ref S.length) (S++[.lst (xs++ys)])):=by
 show Wo (match S[n]?,S[m]? with|some (.lst xs),some (.lst ys)=>if xs.length+ys.length<=sizeLine then some (.ref S.length,S++[.lst (xs++ys)]) else none|_,_=>none) Q=_
 rw [h1,h2];exact zeh
theorem zly {k:Bool}:Wo (zhg [.bl k] S) Q=Q (.int (if k then 1 else 0)) S:=zav
def Wp (o:OM) (l:Lo) (S:Sto) (Q:Option Int->Sto->Prop):Prop:=∃v S',o l S=some (v,S')/\Q v S'
theorem zhl {Q:Option Int->Sto->Prop}:Wp zec l S Q=Q none S:=by
 apply propext
 exact ⟨λhx1_=>by obtain ⟨v,S',h,q⟩:=hx1_;cases h;exact q,λq=>⟨_,_,rfl,q⟩⟩
theorem zhm {e:EM}{Q:Option Int->Sto->Prop}:Wp (zdy e) l S Q=We e l S λx S1=>∃i,x=.int i/\Q (some i) S1:=by
 apply propext
 constructor
 ·rintro ⟨v,S',h,q⟩
  obtain ⟨⟨x,S1⟩,h1,h⟩:=bnd h
  refine ⟨x,S1,h1,?_⟩
  cases x with
  | int i=>cases h;exact ⟨i,rfl,q⟩
  | _=>cases h
 ·rintro ⟨x,S1,h1,i,rfl,q⟩
  exact ⟨_,S1,by unfold zdy;rw [h1];rfl,q⟩
noncomputable def slA (x:D) (a b:Option Int) (S:Sto):Option (D × Sto):=match x with
 | .tup xs=>some (.tup (cutD xs a b),S)
 | .ref n=>(lstOf S n).bind λxs=>some (.ref S.length,S++[.lst (cutD xs a b)])
 | .str z=>if z.length<=sizeLine then some (.str (Txt.slice z a b),S) else none
 | _=>none
theorem zhn {m:EM}{lo hi:OM}:We (zd1 m lo hi) l S Q=We m l S λx S1=>Wp lo l S1 λa S2=>Wp hi l S2 λb S3=>Wo (slA x a b S3) Q:=by
 apply propext
 constructor
 ·rintro ⟨v,S',h,q⟩
  obtain ⟨⟨x,S1⟩,h1,h⟩:=bnd h
  obtain ⟨⟨a,S2⟩,h2,h⟩:=bnd h
  obtain ⟨⟨b,S3⟩,h3,h⟩:=bnd h
  exact ⟨x,S1,h1,a,S2,h2,b,S3,h3,v,S',h,q⟩
 ·rintro ⟨x,S1,h1,a,S2,h2,b,S3,h3,v,S',h,q⟩
  refine ⟨v,S',?_,q⟩
  unfold zd1;rw [h1];show (lo l S1).bind _=_;rw [h2];show (hi l S2).bind _=_;rw [h3];exact h
theorem zho {xs:List D}{a b:Option Int}:Wo (slA (.tup xs) a b S) Q=Q (.tup (cutD xs a b)) S:=zav
end
section
variable {it:ItM}{im:IM}{g:GM}{b:SM}
theorem ya1 {e:EM}(xs:List D) (P:Nat->Lo->Sto->Prop) (O:D->Sto->Prop) {l:Lo}{S S1:Sto}{QS:Fl->Lo->Sto->Prop}(he:e l S=some (.tup xs,S1)) (h0:P 0 l S1)
  (step:∀(i:Nat) x l S,xs[i]? = some x->P i l S->Wg (g x l S) λl1 S1=>Ws b l1 S1 λf l2 S2=>((f=.nx\/f=.ct)/\P (i+1) l2 S2)\/∃d,f=.rt d/\O d S2)
  (fin:∀l' S',P xs.length l' S'->QS .nx l' S') (out:∀d l' S',O d S'->QS (.rt d) l' S'):Ws (zez e g b) l S QS:=by
 rw [zom]
 refine ⟨_,_,he,?_⟩
 refine (zlx P O xs 0 l S1 h0 ?_).mono ?_
 ·intro i x l S hx hp
  rw [Nat.zero_add] at hp ⊢
  exact step i x l S hx hp
 ·rintro f l' S' (⟨rfl,hp⟩|⟨d,rfl,hd⟩)
  ·rw [Nat.zero_add] at hp;exact fin l' S' hp
  ·exact out d l' S' hd
theorem zqe {n:Nat}(xs:List D) (P:Nat->Lo->Sto->Prop) (O:D->Sto->Prop) (hit:∀i l S,P i l S->lstOf S n=some xs)
  (step:∀(i:Nat) x l S,xs[i]? = some x->P i l S->Wg (g x l S) λl1 S1=>Ws b l1 S1 λf l2 S2=>((f=.nx\/f=.ct)/\P (i+1) l2 S2)\/∃d,f=.rt d/\O d S2) :
  ∀(k i:Nat) (l:Lo) (S:Sto),k+i=xs.length->P i l S->Wr (zc8 g b n (k+1) i l S) λf l' S'=>(f=.nx/\P xs.length l' S')\/∃d,f=.rt d/\O d S'
 | 0,i,l,S,hn,h=>by
  have hi:i=xs.length:=by omega
  refine ⟨.nx,l,S,?_,.inl ⟨rfl,by rw [<-hi];exact h⟩⟩
  unfold zc8;rw [hit i l S h];simp only [Option.bind_some];rw [List.getElem?_eq_none_iff.mpr (by omega)]
 | k+1,i,l,S,hn,h=>by
  have hi:i<xs.length:=by omega
  obtain ⟨l1,S1,e1,f,l2,S2,e2,q⟩:=step i _ l S (qge hi) h
  rcases q with ⟨hf,h1⟩|⟨d,rfl,hd⟩
  ·obtain ⟨f',l',S',e3,q1⟩:=zqe xs P O hit step k (i+1) l2 S2 (by omega) h1
   refine ⟨f',l',S',?_,q1⟩
   unfold zc8;rw [hit i l S h];simp only [Option.bind_some];rw [qge hi];show (g _ l S).bind _=_;rw [e1];show (b l1 S1).bind _=_;rw [e2]
   rcases hf with rfl|rfl <;> exact e3
  ·refine ⟨_,l2,S2,?_,.inr ⟨d,rfl,hd⟩⟩
   unfold zc8;rw [hit i l S h];simp only [Option.bind_some];rw [qge hi];show (g _ l S).bind _=_;rw [e1];show (b l1 S1).bind _=_;rw [e2];rfl
theorem ya2 {e:EM}{n:Nat}(xs:List D) (P:Nat->Lo->Sto->Prop) (O:D->Sto->Prop) {l:Lo}{S S1:Sto}{QS:Fl->Lo->Sto->Prop}(he:e l S=some (.ref n,S1)) (h0:P 0 l S1) (hit:∀i l S,P i l S->lstOf S n=some xs)
  (step:∀(i:Nat) x l S,xs[i]? = some x->P i l S->Wg (g x l S) λl1 S1=>Ws b l1 S1 λf l2 S2=>((f=.nx\/f=.ct)/\P (i+1) l2 S2)\/∃d,f=.rt d/\O d S2)
  (fin:∀l' S',P xs.length l' S'->QS .nx l' S') (out:∀d l' S',O d S'->QS (.rt d) l' S'):Ws (zez e g b) l S QS:=by
 rw [zom]
 refine ⟨_,_,he,?_⟩
 simp only
 rw [hit 0 l S1 h0];simp only [Option.bind_some]
 refine (zqe xs P O hit step xs.length 0 l S1 rfl h0).mono ?_
 rintro f l' S' (⟨rfl,hp⟩|⟨d,rfl,hd⟩)
 ·exact fin l' S' hp
 ·exact out d l' S' hd
end
theorem zlz (B:Nat):∀ts:List Str,(∀t∈ts,t.length<=B)->(ts.map (·.length)).sum<=B*ts.length
 | [],_=>Nat.zero_le _
 | t :: ts,h=>by
  have h1:=h t List.mem_cons_self
  have h2:=zlz B ts λx hx=>h x (List.mem_cons_of_mem _ hx)
  simp only [List.map_cons,List.sum_cons,List.length_cons]
  rw [Nat.mul_add];omega
theorem zqf (xs:List PyData):PyData.shownAll xs=xs.map PyData.shown:=by
 induction xs with
 | nil=>rfl
 | cons x xs ih=>unfold PyData.shownAll;rw [ih];rfl
theorem zqg (B:Nat) (xs:List PyData) (h:∀x∈xs,x.shown.length<=B):(PyData.list xs).shown.length<=B*xs.length+2*xs.length+3:=by
 show (listText (PyData.shownAll xs)).length<=_
 rw [zqf]
 have h1:=listText_len_le (xs.map PyData.shown)
 have h2:=zlz B (xs.map PyData.shown) λt ht=>by
  obtain ⟨p,hp,rfl⟩:=List.mem_map.mp ht
  exact h p hp
 simp only [qlm] at h1 h2
 omega
theorem zhp (B:Nat) (xs:List PyData) (h:∀x∈xs,x.shown.length<=B):(PyData.tuple xs).shown.length<=B*xs.length+2*xs.length+3:=by
 show (tupleText (PyData.shownAll xs)).length<=_
 rw [zqf]
 have h1:=tupleText_len_le (xs.map PyData.shown)
 have h2:=zlz B (xs.map PyData.shown) λt ht=>by
  obtain ⟨p,hp,rfl⟩:=List.mem_map.mp ht
  exact h p hp
 simp only [qlm] at h1 h2
 omega
def Sh (S:Sto) (k B:Nat) (d:D):Prop:=∃p:PyData,p.shown.length<=B/\∀S',Gr S S'->zak S' k d=some p
theorem Sh.le {S:Sto}{k B B':Nat}{d:D}(h:Sh S k B d) (hb:B<=B'):Sh S k B' d:=let ⟨p,h1,h2⟩:=h;⟨p,Nat.le_trans h1 hb,h2⟩
theorem zl0 {S:Sto}{k B:Nat}:∀(xs:List D),(∀x∈xs,Sh S k B x)->∃ps:List PyData,ps.length=xs.length/\(∀p∈ps,p.shown.length<=B)/\∀S',Gr S S'->pyAll S' k xs=some ps
 | [],_=>⟨[],rfl,(λp hp=>by cases hp),λex _=>by unfold pyAll;rfl⟩
 | x :: xs,h=>by
  obtain ⟨p,h1,h2⟩:=h x List.mem_cons_self
  obtain ⟨ps,h3,h4,h5⟩:=zl0 xs λy hy=>h y (List.mem_cons_of_mem _ hy)
  refine ⟨p :: ps,by simp [h3],λq hq=>?_,λex g=>?_⟩
  ·rcases List.mem_cons.mp hq with rfl|hq
   ·exact h1
   ·exact h4 q hq
  ·unfold pyAll;rw [h2 ex g,h5 ex g];rfl
theorem zgn {S:Sto}{k B n:Nat}{xs:List D}(h:∀x∈xs,Sh S k B x) (hn:xs.length<=n):Sh S (k+1) (B*n+2*n+3) (.tup xs):=by
 obtain ⟨ps,h1,h2,h3⟩:=zl0 xs h
 refine ⟨.tuple ps,?_,λex g=>?_⟩
 ·have:=zhp B ps h2
  rw [h1] at this
  have h4:B*xs.length<=B*n:=Nat.mul_le_mul_left _ hn
  omega
 ·unfold zak;rw [h3 ex g];rfl
theorem zqh {S:Sto}{k B n j:Nat}{xs:List D}(hj:lstOf S j=some xs) (h:∀x∈xs,Sh S k B x) (hn:xs.length<=n):Sh S (k+1) (B*n+2*n+3) (.ref j):=by
 obtain ⟨ps,h1,h2,h3⟩:=zl0 xs h
 refine ⟨.list ps,?_,λex g=>?_⟩
 ·have:=zqg B ps h2
  rw [h1] at this
  have h4:B*xs.length<=B*n:=Nat.mul_le_mul_left _ hn
  omega
 ·unfold zak;rw [g.lst hj];show (pyAll ex k xs).bind _=_;rw [h3 ex g];rfl
theorem zd6 {n:Nat}(h:n<1000000):((n:Nat):Int).natAbs.log2<1920:=by
 by_cases hz:n=0
 ·subst hz;decide
 ·have h1:((n:Nat):Int).natAbs=n:=by omega
  rw [h1]
  have h2:n.log2<20:=(Nat.log2_lt hz).mpr (Nat.lt_of_lt_of_le h (by decide))
  omega
theorem zl1 {S:Sto}{k n:Nat}(h:n<1000000):Sh S (k+1) 10 (.int n):=by
 refine ⟨.int n,?_,λex _=>by unfold zak;rw [if_pos (zd6 h)]⟩
 show (PySem.Str.ofString (toString (n:Int))).length<=10
 exact PySem.W.KT.len_num (by omega) (by omega)
theorem ya3 {S:Sto}{k:Nat}:Sh S (k+1) 10 .non:=⟨.none,by decide +kernel,λex _=>by unfold zak;rfl⟩
section
variable {l:Lo}{S:Sto}{Q:D->Sto->Prop}{QG:Lo->Sto->Prop}{a b c:EM}
end
theorem zcw {m n:SM}{l l':Lo}{S S':Sto}{QS:Fl->Lo->Sto->Prop}(h1:Ws m l S λf l1 S1=>f=.nx/\l1=l'/\S1=S') (h2:Ws n l' S' QS):Ws (zai m n) l S QS:=by
 rw [zc2]
 obtain ⟨f,l1,S1,e,rfl,rfl,rfl⟩:=h1
 exact ⟨_,_,_,e,h2⟩
theorem zi7 {m n:SM}{l:Lo}{S:Sto}{QS:Fl->Lo->Sto->Prop}(R:Lo->Sto->Prop) (O:D->Sto->Prop) (h1:Ws m l S λf l1 S1=>(f=.nx/\R l1 S1)\/∃d,f=.rt d/\O d S1) (h2:∀l1 S1,R l1 S1->Ws n l1 S1 QS) (h3:∀d l1 S1,O d S1->QS (.rt d) l1 S1):Ws (zai m n) l S QS:=by
 rw [zc2]
 obtain ⟨f,l1,S1,e,q⟩:=h1
 rcases q with ⟨rfl,r⟩|⟨d,rfl,o⟩
 ·exact ⟨_,_,_,e,h2 l1 S1 r⟩
 ·exact ⟨_,_,_,e,h3 d l1 S1 o⟩
end L3
section
namespace G
open PySem PySem.Spec PyProof.Rows L2 L3
noncomputable abbrev bd:List Stmt:=PySem.Challenge.pw_opencells_k42_words_of_bits.main.body
noncomputable def zi8:SM:=zay (zd9 (eUn (zb2 "int") (zab 0)) (zd9 (zie (eUn (zb2 "bool") (zab 0))) (zfk dLe dLt (eC (.int 0)) (zab 0) (zab 1))))
noncomputable def zde:FM:=zbp 2 zi8
noncomputable def zqi:SM:=zai (sIf (zbz (zco (tE (eUn (zb2 "tuple") (zab 0)))) (tE (eOp dNe (zaf zbj (zaa (zab 0) (zae))) (zab 1)))) (zay (eC (.bl false))) (zbi)) (zay (zd9 (zaf zf5 (zaa (zdn (zfz (zab 0)) [none,some 2] (zao 0) (zf0) (zaf zde (zaa (zab 0) (zaa (zab 1) (zae))))) (zae))) (eOp dEq (zaf zgd (zaa (zaf zgc (zaa (zab 0) (zae))) zae)) (zab 1))))
noncomputable def zgo:FM:=zbp 3 zqi
noncomputable def zqj:SM:=zai (zaq (zab 0) (zfx 2 (zdm (zao 1) (zdm (zao 2) (zfw))))) (zai (sIf (tE (eOp dGt (zaf zbj (zaa (zab 2) (zae))) (eC (.int 8)))) (zkd) (zbi)) (zay (zaf zbk (zaa (zaf zg8 (zaa (eC (.int 1)) (zaa (eUn ziz (eOp zfp (zaf zbj (zaa (zab 2) (zae))) (eC (.int 1)))) (zae)))) (zaa (eUn ziz (eOp zfp (zab 1) (eC (.int 1)))) (zae))))))
noncomputable def zds:FM:=zbp 3 zqj
noncomputable def zqk:ZM:=zlc (zaq (zab 0) (zfx 2 (zdm (zao 1) (zdm (zao 2) (zfw))))) (zIf (tE (eOp dGt (zaf zbj (zaa (zab 2) (zae))) (eC (.int 8)))) (λ_ S=>some ("TooMany",S)) (zlb))
noncomputable def zdf:ZF:=zga 3 zqk
noncomputable def zql:SM:=zay (zaf zgo (zaa (zab 1) (zaa (zaf zbj (zaa (eOp za2 (zab 0) (eC (.int 1))) (zae))) (zaa (eOp zdc (eC (.int 1)) (eOp za2 (zaf zds (zaa (zab 0) (zae))) (eC (.int 0)))) (zae)))))
noncomputable def zhq:FM:=zbp 2 zql
noncomputable def zqm:ZM:=zf9 (zab 1) (zf9 (zaf zbj (zaa (eOp za2 (zab 0) (eC (.int 1))) (zae))) (zf9 (eC (.int 1)) (zld zdf (zaa (zab 0) (zae)))))
noncomputable def zfb:ZF:=zga 2 zqm
noncomputable def zqn:SM:=zai (zaq (zaf zc5 (zaa (zaf zbk (zaa (zab 0) (zaa (zab 1) (zae)))) (zae))) (zao 3)) (zai (zee (zb7 (zaa (eC (.int 2)) (zae))) (zao 4) (zai (zaq (zaf zhq (zaa (zab 0) (zaa (zab 1) (zae)))) (zao 5)) (sIf (zbz (zco (tE (eUn (zb2 "bool") (zab 5)))) (tE (eOp dNe (zab 5) (zab 2)))) (zay (eC (.bl false))) (zbi)))) (zay (eOp dEq (zaf zc5 (zaa (zaf zbk (zaa (zab 0) (zaa (zab 1) (zae)))) (zae))) (zab 3))))
noncomputable def zfc:FM:=zbp 6 zqn
noncomputable def zqo:SM:=zai (sIf (zbz (zco (tE (eUn (zb2 "tuple") (zab 0)))) (tE (eOp dNe (zaf zbj (zaa (zab 0) (zae))) (zab 1)))) (zay (eC (.bl false))) (zbi)) (zai (zez (zab 0) (zao 3) (sIf (zbz (zco (tE (eUn (zb2 "int") (zab 3)))) (zbz (tE (eUn (zb2 "bool") (zab 3))) (zbz (tE (eOp dLt (zab 3) (eC (.int 0)))) (tE (eOp dGe (zab 3) (eOp zdc (eC (.int 1)) (zab 2))))))) (zay (eC (.bl false))) (zbi))) (zay (eOp dEq (zaf zbj (zaa (zdn (zfz (zab 0)) [none,some 0] (zao 0) (tE (eOp dGt (zlr zgh (zab 1) (zaa (zab 0) zae)) (eC (.int 1)))) (zab 0)) (zae))) (eC (.int 0)))))
noncomputable def zgp:FM:=zbp 4 zqo
noncomputable def zqp:SM:=zai (sIf (tE (eOp dGt (eOp zce (zab 0) (eC (.str "left"))) (eC (.int 0)))) (zai (zaq (eOp zb6 (eOp zce (zab 0) (eC (.str "left"))) (zab 1)) (zao 2)) (zai (zaq (eOp zfq (eOp zce (zab 0) (eC (.str "left"))) (zab 1)) (zf7 (zab 0) (eC (.str "left")))) (zay (zab 2)))) (zbi)) (zai (zaq (eOp zce (zab 0) (eC (.str "at"))) (zao 3)) (zai (zaq (eOp zbf (zab 3) (eC (.int 1))) (zf7 (zab 0) (eC (.str "at")))) (zai (zaq (eOp zbf (eOp zdb (eOp zdb (eC (.int 977)) (zab 3)) (zab 3)) (eC (.int 31))) (zao 4)) (zai (sIf (tE (eOp dGt (zaf zbj (zaa (eOp zce (zab 0) (eC (.str "cells"))) (zae))) (eC (.int 0)))) (zai (zaq (eOp za2 (eOp zce (zab 0) (eC (.str "cells"))) (eOp zb6 (zab 3) (zaf zbj (zaa (eOp zce (zab 0) (eC (.str "cells"))) (zae))))) (zao 4)) (sIf (zfj (tE (eOp dLt (zab 3) (zaf zbj (zaa (eOp zce (zab 0) (eC (.str "cells"))) (zae))))) (tE (eOp dGe (zaf zew (zaa (zab 4) (zae))) (eOp zdx (eC (.int 10)) (eC (.int 18)))))) (zai (zaq (eOp zfq (zaf zew (zaa (zab 4) (zae))) (zab 1)) (zf7 (zab 0) (eC (.str "left")))) (zay (eOp zb6 (zaf zew (zaa (zab 4) (zae))) (zab 1)))) (zbi))) (zbi)) (zai (zaq (eOp za2 (zaf zbk (zaa (eC (.int 2147483647)) (zaa (eC (.int 2147483629)) (zaa (eC (.int 2147483587)) (zaa (eC (.int 2147483579)) (zaa (eC (.int 2147483563)) (zaa (eC (.int 2147483549)) (zaa (eC (.int 2147483543)) (zae))))))))) (eOp zb6 (zab 3) (eC (.int 7)))) (zao 5)) (zai (zaq (eOp zb6 (eOp zdx (eOp zbf (eOp zbf (eOp zb6 (zab 4) (eC (.int 2147483497))) (eOp zdb (eC (.int 69621)) (zab 3))) (eC (.int 7))) (eC (.int 3))) (zab 5)) (zao 6)) (zai (zaq (eOp zb6 (eOp zdx (eOp zbf (eOp zdb (zab 6) (eOp zbf (zab 3) (eC (.int 3)))) (eC (.int 11))) (eC (.int 5))) (eC (.int 2147483489))) (zao 6)) (zay (eOp zb6 (eOp zfq (zab 6) (eC (.int 13))) (zab 1))))))))))
noncomputable def zbm:FM:=zbp 7 zqp
noncomputable def zqq:SM:=zai (zaq (zaf zbm (zaa (zab 0) (zaa (eC (.int 15)) (zae)))) (zao 3)) (zai (zaq (zaf zbm (zaa (zab 0) (zaa (zaf zbj (zaa (zab 1) (zae))) (zae)))) (zao 4)) (zai (zaq (eOp za2 (zab 1) (zaf zbm (zaa (zab 0) (zaa (zaf zbj (zaa (zab 1) (zae))) (zae))))) (zao 5)) (zai (zaq (eOp za2 (zaf zb0 (zaa (eC .non) (zaa (eC (.bl true)) (zaa (eC (.str "")) (zaa (eC (.int 0)) (zaa (ziu) (zaa (zaf zb0 (zae)) (zaa (eC (.str "01")) (zaa (zaf zbk (zaa (zaf zbk (zaa (eC (.int 0)) (zae))) (zaa (zaf zbk (zaa (eC (.int 1)) (zae))) (zae)))) (zaa (zaf zbk (zaa (eC .non) (zae))) (zaa (zaf zbk (zaa (eC (.str "0")) (zae))) (zae)))))))))))) (zaf zbm (zaa (zab 0) (zaa (eC (.int 10)) (zae))))) (zao 6)) (zai (sIf (tE (eOp dEq (zab 3) (eC (.int 0)))) (zay (zaf zfu (zaa (zab 1) (zae)))) (zbi)) (zai (sIf (tE (eOp dEq (zab 3) (eC (.int 1)))) (zay (eOp zbf (zd1 (zab 1) (zec) (zdy (zab 4))) (zd1 (zab 1) (zdy (eOp zbf (zab 4) (eC (.int 1)))) (zec)))) (zbi)) (zai (sIf (tE (eOp dEq (zab 3) (eC (.int 2)))) (zay (eOp zbf (zab 1) (zaf zbk (zaa (zab 5) (zae))))) (zbi)) (zai (sIf (tE (eOp dEq (zab 3) (eC (.int 3)))) (zay (zab 6)) (zbi)) (zai (zaq (eOp za2 (zab 1) (zab 4)) (zao 7)) (zai (zaq (zaf zb0 (zaa (zab 5) (zaa (eOp zdc (eC (.int 1)) (zab 2)) (zaa (eUn zk1 (eC (.int 1))) (zaa (eOp dEq (zab 7) (eC (.int 1))) (zaa (eOp dEq (zab 7) (eC (.int 1))) (zaa (zaf zf6 (zaa (zab 7) (zae))) (zaa (zaf zbk (zaa (zab 7) (zae))) (zaa (eOp zbf (zab 7) (eOp zdx (eC (.int 10)) (eC (.int 30)))) (zae)))))))))) (zao 8)) (zai (zaq (eOp zbf (zab 8) (zaf zb0 (zaa (zaf zb0 (zaa (zab 7) (zae))) (zaa (ziu) (zaa (ze8 7 0) (zae)))))) (zao 8)) (zay (eOp zbf (eOp zbf (zd1 (zab 1) (zec) (zdy (zab 4))) (zaf zbk (zaa (eOp za2 (zab 8) (eOp zfp (zab 3) (eC (.int 4)))) (zae)))) (zd1 (zab 1) (zdy (eOp zbf (zab 4) (eC (.int 1)))) (zec))))))))))))))
noncomputable def zhr:FM:=zbp 9 zqq
noncomputable def zqr:SM:=zai (zaq (zk0 (zb7 (zaa (eOp zdc (eC (.int 1)) (zab 2)) (zae)))) (zao 3)) (zay (zaf zex (zaa (zdn (zio (zb7 (zaa (zab 1) (zae)))) [none,some 3,some 0] (zao 0) (zf0) (zc1 ze2 (zab 1) (zaa (zaf zbm (zaa (zab 2) (zaa (zaf zbj (zaa (zab 1) (zae))) (zae)))) zae))) (zae))))
noncomputable def zhs:FM:=zbp 4 zqr
noncomputable def zqs:SM:=zay (zaf zbk (zaa (eOp za2 (zaf zb0 (zaa (eC (.int 1)) (zaa (eC (.int 1)) (zaa (eC (.int 2)) (zaa (eC (.int 2)) (zaa (eC (.int 3)) (zaa (eC (.int 3)) (zaa (eC (.int 3)) (zaa (eC (.int 3)) (zae)))))))))) (eOp zfp (zaf zbj (zaa (eOp za2 (zab 0) (eC (.int 1))) (zae))) (eC (.int 1)))) (zaa (eOp za2 (zaf zb0 (zaa (eC (.int 0)) (zaa (eC (.int 1)) (zaa (eC (.int 2)) (zaa (eC (.int 2)) (zae)))))) (eOp zfp (eOp za2 (zab 0) (eC (.int 0))) (eC (.int 1)))) (zae))))
noncomputable def zht:FM:=zbp 1 zqs
noncomputable def zqt:SM:=zai (zaq (zaf zb0 (zaa (eUn (zdd [("TooMany",true)]) (zab 0)) (zaa (eUn (zdd [("TooMany",false)]) (zab 0)) (zaa (eUn (zdd [("TooMany",false)]) (zab 0)) (zae))))) (zao 1)) (zai (zfv (zc1 zey (zab 1) (zaa (eUn (zdd [("TooMany",false)]) (zab 0)) zae))) (zai (sIf (zbz (zco (tE (eUn (zdd [("TooMany",true)]) (zab 0)))) (tE (eOp dNe (zc1 ze7 (zab 1) (zaa (eC (.bl true)) zae)) (eC (.int 1))))) (zay (eC (.str "other"))) (zbi)) (zay (eOp za2 (zaf zb0 (zaa (eC (.str "many")) (zaa (eC (.str "words")) (zaa (eC (.str "other")) (zaa (eC (.str "other")) (zae)))))) (zc1 ze4 (zab 1) (zaa (eC (.bl true)) zae))))))
noncomputable def zhu:FM:=zbp 2 zqt
noncomputable def zqu:SM:=zai (zaq (eC .non) (zao 1)) (zai (zaq (eC .non) (zao 2)) (zai (zhh 3 (λc=>c == "TooMany") zkd (zd3 0 [(zem "_law_great_right" "bits_of" ⟨140,26,140,33⟩ ⟨140,26,140,52⟩ [("_law_machine_here",⟨140,34,140,51⟩)] [("_law_machine_here",.free),("bits_of",.globalImplicit)]),(zem "_law_great_right" "is_words" ⟨142,30,142,38⟩ ⟨142,30,142,69⟩ [("_law_machine_here",⟨142,39,142,56⟩),("_law_thing",⟨142,58,142,68⟩)] [("_law_machine_here",.free),("_law_thing",.free),("is_words",.globalImplicit)])] [("bits_of",1,zdf),("is_words",2,zfb)]) (zaq (zab 3) (zao 1))) (zai (sIf (tE (eOp dIs (zab 1) (eC .non))) (zay (zaf zbk (zaa (eC (.str "told")) (zaa (zab 2) (zae))))) (zbi)) (zay (zaf zbk (zaa (eC (.str "refused")) (zaa (zaf zhu (zaa (zab 1) (zae))) (zae))))))))
noncomputable def zfd:FM:=zbp 4 zqu
noncomputable def zqv:SM:=zai (zaq (zaf zb0 (zaa (eC .non) (zaa (zaf zbk (zae)) (zaa (zgi (zaa (zaf zbj (zaa (eOp za2 (zab 1) (eC (.int 1))) (zae))) (zae))) (zaa (zaf zbk (zaa (eC (.int 0)) (zae))) (zaa (zaf zb0 (zaa (eC (.int 0)) (zaa (eC (.int 1)) (zae)))) (zaa (eC (.bl true)) (zae)))))))) (zao 2)) (zai (zaq (eOp za2 (zab 2) (zaf zbm (zaa (zab 0) (zaa (eC (.int 6)) (zae))))) (zao 3)) (zai (sIf (tE (eOp zf2 (zgg 1 "_law_great_right" (zem "_law_great_right" "bits_of" ⟨140,26,140,33⟩ ⟨140,26,140,52⟩ [("_law_machine_here",⟨140,34,140,51⟩)] [("_law_machine_here",.free),("bits_of",.globalImplicit)]) [("_law_machine_here",1)] zfd) (zaf zbk (zaa (eC (.str "refused")) (zaa (eC (.str "many")) (zae)))))) (zay (eC (.bl false))) (zbi)) (zay (eOp zf1 (zgg 1 "_law_great_right" (zem "_law_great_right" "is_words" ⟨142,30,142,38⟩ ⟨142,30,142,69⟩ [("_law_machine_here",⟨142,39,142,56⟩),("_law_thing",⟨142,58,142,68⟩)] [("_law_machine_here",.free),("_law_thing",.free),("is_words",.globalImplicit)]) [("_law_thing",3),("_law_machine_here",1)] zfd) (zaf zbk (zaa (eC (.str "refused")) (zaa (eC (.str "many")) (zae))))))))
noncomputable def zhv:FM:=zbp 4 zqv
noncomputable def zqw:SM:=zai (zaq (eOp za2 (zaf zb0 (zaa (eC (.int 0)) (zaa (eC (.int 1)) (zaa (eC (.int 4)) (zaa (eC (.int 7)) (zae)))))) (zaf zbm (zaa (zab 0) (zaa (eC (.int 4)) (zae))))) (zao 3)) (zai (zaq (eOp za2 (zaf zb0 (zaa (eC (.int 2)) (zaa (eC (.int 3)) (zaa (eC (.int 8)) (zaa (eC (.int 8)) (zae)))))) (zaf zbm (zaa (zab 0) (zaa (eC (.int 4)) (zae))))) (zao 4)) (zai (zaq (zaf zb0 (zae)) (zao 5)) (zai (zee (zb7 (zaa (zab 1) (zae))) (zao 6) (zai (zaq (zaf zb0 (zae)) (zao 7)) (zai (zee (zb7 (zaa (zab 2) (zae))) (zao 8) (zai (zaq (zaf zbm (zaa (zab 0) (zaa (zab 1) (zae)))) (zao 9)) (zai (zaq (zaf zbm (zaa (zab 0) (zaa (zab 4) (zae)))) (zao 10)) (zai (sIf (tE (eOp dLt (zaf zbm (zaa (zab 0) (zaa (eC (.int 8)) (zae)))) (zab 3))) (zaq (eC .non) (zao 9)) (zbi)) (zai (sIf (tE (eOp dLt (zaf zbm (zaa (zab 0) (zaa (eC (.int 8)) (zae)))) (zab 3))) (zaq (eC .non) (zao 10)) (zbi)) (zfv (zc1 zey (zab 7) (zaa (zaf zbk (zaa (zab 9) (zaa (zab 10) (zae)))) zae)))))))) (zfv (zc1 zey (zab 5) (zaa (zaf zex (zaa (zab 7) (zae))) zae)))))) (zay (zaf zbk (zaa (zab 2) (zaa (zaf zex (zaa (zab 5) (zae))) (zae))))))))
noncomputable def zhw:FM:=zbp 11 zqw
noncomputable def zqx:SM:=zay (zk7 "cells" 0 "at" 0 "left" 0)
noncomputable def zhx:FM:=zbp 1 zqx
noncomputable def zqy:SM:=zai (zaq (zaf zhx (zaa (zab 0) (zae))) (zao 1)) (zai (zaq (eOp dEq (zaf zbm (zaa (zab 1) (zaa (eC (.int 4)) (zae)))) (eC (.int 3))) (zao 2)) (zai (zaq (eOp za2 (zaf zb0 (zaa (eOp zbf (eC (.int 1)) (zaf zbm (zaa (zab 1) (zaa (eC (.int 8)) (zae))))) (zaa (eOp zbf (eC (.int 9)) (zaf zbm (zaa (zab 1) (zaa (eC (.int 16)) (zae))))) (zae)))) (zaf zhg (zaa (zab 2) (zae)))) (zao 3)) (zai (zaq (zaf zhw (zaa (zab 1) (zaa (zab 3) (zaa (eOp zbf (eC (.int 1)) (zaf zbm (zaa (zab 1) (zaa (eC (.int 4)) (zae))))) (zae))))) (zao 4)) (zai (sIf (tE (zab 2)) (zay (zaf zhv (zaa (zab 1) (zaa (zab 4) (zae))))) (zbi)) (zai (zaq (zaf zht (zaa (zab 4) (zae))) (zfx 2 (zdm (zao 5) (zdm (zao 6) (zfw))))) (zai (sIf (tE (eOp dNe (zaf zc5 (zaa (zaf zds (zaa (zab 4) (zae))) (zae))) (zaf zc5 (zaa (zaf zbk (zaa (zab 5) (zaa (zab 6) (zae)))) (zae))))) (zay (eC (.bl false))) (zbi)) (zai (zee (zb7 (zaa (eC (.int 6)) (zae))) (zao 7) (zai (zaq (zaf zhs (zaa (zab 1) (zaa (zab 3) (zaa (zab 5) (zae))))) (zao 8)) (zai (zaq (zaf zhr (zaa (zab 1) (zaa (zab 8) (zaa (zab 5) (zae))))) (zao 9)) (zai (zaq (zaf zb0 (zaa (zab 9) (zaa (zab 9) (zae)))) (zao 10)) (zai (sIf (tE (eUn (zb2 "tuple") (zab 9))) (zaq (zaf zb0 (zaa (eOp za2 (zaf zb0 (zaa (zaf zfu (zaa (zab 9) (zae))) (zaa (eOp zbf (zab 9) (zd1 (zab 8) (zec) (zdy (eC (.int 1))))) (zaa (zd1 (zab 9) (zdy (eC (.int 1))) (zec)) (zae))))) (zaf zbm (zaa (zab 1) (zaa (eC (.int 3)) (zae))))) (zaa (zab 9) (zae)))) (zao 10)) (zbi)) (zai (sIf (zco (tE (zaf zfc (zaa (zab 4) (zaa (zab 8) (zaa (eC (.bl true)) (zae))))))) (zay (eC (.bl false))) (zbi)) (zez (zab 10) (zao 11) (sIf (zco (tE (zaf zfc (zaa (zab 4) (zaa (zab 11) (zaa (zaf zgp (zaa (zab 11) (zaa (zab 3) (zaa (zab 5) (zae))))) (zae))))))) (zay (eC (.bl false))) (zbi))))))))) (zay (eC (.bl true))))))))))
noncomputable def zen:FM:=zbp 12 zqy
theorem bl0 {C:List PySem.Value->Prop}(h:C []):∀us:List PySem.Value,us.length=0->C us:=by
 intro us hl
 rw [List.eq_nil_of_length_eq_zero hl];exact h
theorem blS {n:Nat}{C:List PySem.Value->Prop}(h:∀a (us:List PySem.Value),us.length=n->C (a :: us)):∀us:List PySem.Value,us.length=n+1->C us:=by
 intro us hl
 cases us with
 | nil=>cases hl
 | cons a us=>exact h a us (Nat.succ.inj hl)
theorem bl1 {C:List PySem.Value->Prop}(h:∀a0,C [a0]):∀us:List PySem.Value,us.length=1->C us:=blS λa0=>bl0 (C:=λus=>C (a0 :: us)) (h a0)
theorem bl2 {C:List PySem.Value->Prop}(h:∀a0 a1,C [a0,a1]):∀us:List PySem.Value,us.length=2->C us:=blS λa0=>blS λa1=>bl0 (C:=λus=>C (a0 :: a1 :: us)) (h a0 a1)
theorem bl3 {C:List PySem.Value->Prop}(h:∀a0 a1 a2,C [a0,a1,a2]):∀us:List PySem.Value,us.length=3->C us:=blS λa0=>blS λa1=>blS λa2=>bl0 (C:=λus=>C (a0 :: a1 :: a2 :: us)) (h a0 a1 a2)
inductive FI (K:QFg) (x:Str) (st:Stmt):Prop
 | mk {f:Addr} {oc kV dc pm cd ct:Value} {od an:Option Addr} {sl:Array (Option Value)} (a:PySem.W.nsIn K mainGlobals x=some (some (.ref f))) (l:K.lookup f=some ⟨oc,od,.func (PySem.W.fnOf x x (zd8 st) (zch st) (zau st) .none kV dc pm an cd ct),sl⟩) (c:PySem.W.codeIn K cd x=true) (k:PySem.W.keepIn K (.ref f)=true)
inductive FJ (K:QFg) (mg:Str->Option Value) (x:Str) (st:Stmt):Prop
 | mk {f:Addr} {fd:FuncData} (F:Fun K x x st f fd) (m:mg x=some (.ref f)) (n:Fnc K mg x)
theorem FI.ok {K:QFg}{x:Str}{st:Stmt}{h:Heap}{mg:Str->Option Value}(i:FI K x st) (X:K.In h) (G:h.Ns mainGlobals mg):FJ K mg x st:=by
 obtain ⟨a,l,c,k⟩:=i
 exact ⟨zu1 l c k,PySem.W.mg_of X G a,_,_,a,l,PySem.W.mg_of X G a⟩
section
variable {P:Program}{w:World}{K:QFg}{mg:Str->Option Value}{base:Heap}{CA:Str->Addr}
theorem zcx {x:Str}{st:Stmt}{N ps:List Str}{n k:Nat}{b:SM}(F:FJ K mg x st) (S:FnScope N ps (zau st)) (hn:ps.length=n)
  (hb:∀us:List Value,us.length=ps.length->∀(kV doc pm:Value) (an:Option Addr) (cdv ct:Value),bindArgs (PySem.W.fnOf x x (zd8 st) (zch st) (zau st) .none kV doc pm an cdv ct) ⟨us,[]⟩=pure (ps.zip us))
  (hbody:∀(f:Addr) (cdv:Value),PySem.W.codeIn K cdv x=true->∀(A:Around) (outer:List Env) (s:Shared) (H:Hp) (E:XK),Room k (A.deeper (envOfC x (zau st) s.heap.objs.size f cdv)) ->
   zcj (zbh CX0 P w K mg base N x (zau st) f cdv A outer s H E).nox (zch st) b):Has P w K mg base x (k+1) n (zbp N.length b):=by
 obtain ⟨F,m,_⟩:=F
 exact zwo F m S hn (F.binds λ_ _ _ _ _ _ us hl=>hb us hl _ _ _ _ _ _) (hbody _)
theorem ya4 {x:Str}{st:Stmt}{N ps:List Str}{n k:Nat}{b:SM}{c T:Addr}(F:FJ K mg x st) (hT:PySem.W.tabIn K x=some (c,T)) (S:FnScope N ps (zau st)) (hn:ps.length=n)
  (hb:∀us:List Value,us.length=ps.length->∀(kV doc pm:Value) (an:Option Addr) (cdv ct:Value),bindArgs (PySem.W.fnOf x x (zd8 st) (zch st) (zau st) .none kV doc pm an cdv ct) ⟨us,[]⟩=pure (ps.zip us))
  (hbody:∀(f:Addr),PySem.W.codeIn K (.ref c) x=true->∀(A:Around) (outer:List Env) (s:Shared) (H:Hp) (E:XK),Room k (A.deeper (envOfC x (zau st) s.heap.objs.size f (.ref c))) ->
   zcj (zbh CX0 P w K mg base N x (zau st) f (.ref c) A outer s H E).nox (zch st) b):Has P w K mg base x (k+1) n (zbp N.length b):=by
 obtain ⟨F,m,o⟩:=F
 exact zzr F m o hT S hn (F.binds λ_ _ _ _ _ _ us hl=>hb us hl _ _ _ _ _ _) (hbody _)
theorem zqz {x:Str}{st:Stmt}{N ps:List Str}{n k:Nat}{r:ZM}(F:FJ K mg x st) (S:FnScope N ps (zau st)) (hn:ps.length=n)
  (hb:∀us:List Value,us.length=ps.length->∀(kV doc pm:Value) (an:Option Addr) (cdv ct:Value),bindArgs (PySem.W.fnOf x x (zd8 st) (zch st) (zau st) .none kV doc pm an cdv ct) ⟨us,[]⟩=pure (ps.zip us))
  (hbody:∀(f:Addr) (cdv:Value),PySem.W.codeIn K cdv x=true->∀(A:Around) (outer:List Env) (s:Shared) (H:Hp) (E:XK),Room k (A.deeper (envOfC x (zau st) s.heap.objs.size f cdv)) ->
   zel (zbh (CX1 P w) P w K mg base N x (zau st) f cdv A outer s H E) E CA (zch st) r):zcl P w K mg base CA x (k+1) n (zga N.length r):=by
 obtain ⟨F,m,_⟩:=F
 exact zyj F m S hn (F.binds λ_ _ _ _ _ _ us hl=>hb us hl _ _ _ _ _ _) (hbody _)
theorem ya5:FnScope ["thing","count"] ["thing","count"] (zau (top bd 15)):=⟨rfl,rfl,rfl,by decide +kernel,rfl,by decide +kernel,by decide +kernel⟩
theorem h_m_is_below (F:FJ K mg "is_below" (top bd 15)) (z_isinstance:mg "isinstance" = none) (z_int:mg "int" = none) (z_bool:mg "bool" = none):Has P w K mg base "is_below" 1 2 zde:=by
 have sc:=ya5
 refine zcx (k:=0) F sc rfl (bl2 λ_ _=>λ_ _ _ _ _ _=>rfl) λf cdv hcd A outer s H E hr=>?_
 exact zax (za8 (zj6 (zed (U:="int") rfl z_isinstance rfl z_int zkj (by decide) (zad 0)) (zj6 (zvl (zed (U:="bool") rfl z_isinstance rfl z_bool zkk (by decide) (zad 0))) (zn1 (zvg ztm zmy (zfo λ_ _ _ _=>.bl _) (zfo λ_ _ _ _=>.bl _) (zah) (zad 0) (zad 1))))))
theorem ya6:FnScope ["thing","many","count"] ["thing","many","count"] (zau (top bd 16)):=⟨rfl,rfl,rfl,by decide +kernel,rfl,by decide +kernel,by decide +kernel⟩
theorem ya7:List.Nodup (["number","count"]:List Str):=by decide +kernel
noncomputable abbrev ya8:List Str:=["thing","many","count"]
theorem h_m_are_unlike_below (F:FJ K mg "are_unlike_below" (top bd 16)) (z_all:mg "all" = none) (z_len:mg "len" = none) (z_set:mg "set" = none) (z_isinstance:mg "isinstance" = none) (z_tuple:mg "tuple" = none) (h_m_is_below:Has P w K mg base "is_below" 1 2 zde):Has P w K mg base "are_unlike_below" 2 3 zgo:=by
 have sc:=ya6
 refine zcx (k:=1) F sc rfl (bl3 λ_ _ _=>λ_ _ _ _ _ _=>rfl) λf cdv hcd A outer s H E hr=>?_
 exact zap (zbx (zfl (zeu (zev (zdl (zed (U:="tuple") rfl z_isinstance rfl z_tuple zha (by decide) (zad 0)))) (zg1 (zg6 (zck rfl z_len (zac (zad 0) (zag))) (zad 1))))) (zax (za8 (zcs))) (zbw)) (zax (za8 (zj6 (zxj rfl rfl z_all (zac (zlm (N':=["number","count"]) (ixs:=[none,some 2]) rfl (zln (scO:=zau (top bd 16)) (NO:=ya8) rfl rfl (by decide +kernel)) (zof (zad 0)) (λ_ _ _ _ _=>zcp 0 ya7) (λ_ _ _ _ _=>zog) (λ_ _ _ _ _=>zba h_m_is_below hr (by decide) rfl (zac (zad 0) (zac (zad 1) (zag))) (zam (zam za7)))) (zag))) (zn1 (zfr (zzi rfl z_len (zac (zzh hr rfl z_set (zac (zad 0) (zag))) zag)) (zad 1))))))
theorem zq0:FnScope ["machine","asks","rooms"] ["machine"] (zau (top bd 19)):=⟨rfl,rfl,rfl,by decide +kernel,rfl,by decide +kernel,by decide +kernel⟩
theorem h_m_bits_of (F:FJ K mg "bits_of" (top bd 19)) (z_max:mg "max" = none) (z_len:mg "len" = none) (c_MOST_WITH_WORDS:∃t,mg "MOST_WITH_WORDS" = some (.int 8 t)) (q_TooMany:mg "TooMany" = some (.ref (CA "TooMany"))) (x_TooMany:PySem.W.excIn K (CA "TooMany") zc4 "ValueError.__new__" = true):Has P w K mg base "bits_of" 1 1 zds:=by
 obtain ⟨_,c_MOST_WITH_WORDS⟩:=c_MOST_WITH_WORDS
 have sc:=zq0
 refine zcx (k:=0) F sc rfl (bl1 λ_=>λ_ _ _ _ _ _=>rfl) λf cdv hcd A outer s H E hr=>?_
 exact zap (zkg (zad 0) (zkf rfl (zfy (zcp 1 sc.nd) (zfy (zcp 2 sc.nd) (zke))))) (zap (zbx (zg5 (zck rfl z_len (zac (zad 2) (zag))) (zny rfl c_MOST_WITH_WORDS)) (zax (zn7)) (zbw)) (zax (za8 (zbv (zac (zwn rfl rfl z_max (zac (zah) (zac (zpl (zg4 (zck rfl z_len (zac (zad 2) (zag))) (zah))) (zag)))) (zac (zpl (zg4 (zad 1) (zah))) (zag)))))))
theorem hz_bits_of (F:FJ K mg "bits_of" (top bd 19)) (z_max:mg "max" = none) (z_len:mg "len" = none) (c_MOST_WITH_WORDS:∃t,mg "MOST_WITH_WORDS" = some (.int 8 t)) (q_TooMany:mg "TooMany" = some (.ref (CA "TooMany"))) (x_TooMany:PySem.W.excIn K (CA "TooMany") zc4 "ValueError.__new__" = true):zcl P w K mg base CA "bits_of" 1 1 zdf:=by
 obtain ⟨_,c_MOST_WITH_WORDS⟩:=c_MOST_WITH_WORDS
 have sc:=zq0
 refine zqz (k:=0) F sc rfl (bl1 λ_=>λ_ _ _ _ _ _=>rfl) λf cdv hcd A outer s H E hr=>?_
 exact zyb (zkg (zad 0) (zkf rfl (zfy (zcp 1 sc.nd) (zfy (zcp 2 sc.nd) (zke))))) (zle (zyc (zg5 (zck rfl z_len (zac (zad 2) (zag))) (zny rfl c_MOST_WITH_WORDS)) (zle (zye rfl q_TooMany x_TooMany)) (zx7)))
theorem zq1:FnScope ["machine","thing"] ["machine","thing"] (zau (top bd 20)):=⟨rfl,rfl,rfl,by decide +kernel,rfl,by decide +kernel,by decide +kernel⟩
theorem h_m_is_words (F:FJ K mg "is_words" (top bd 20)) (z_len:mg "len" = none) (h_m_are_unlike_below:Has P w K mg base "are_unlike_below" 2 3 zgo) (h_m_bits_of:Has P w K mg base "bits_of" 1 1 zds) (hz_bits_of:zcl P w K mg base CA "bits_of" 1 1 zdf):Has P w K mg base "is_words" 3 2 zhq:=by
 have sc:=zq1
 refine zcx (k:=2) F sc rfl (bl2 λ_ _=>λ_ _ _ _ _ _=>rfl) λf cdv hcd A outer s H E hr=>?_
 exact zax (za8 (zba h_m_are_unlike_below hr (by decide) rfl (zac (zad 1) (zac (zck rfl z_len (zac (zb3 (zad 0) (zah)) (zag))) (zac (ziv (zah) (zb3 (zba h_m_bits_of hr (by decide) rfl (zac (zad 0) (zag)) (zam za7)) (zah))) (zag)))) (zam (zam (zam za7)))))
theorem hz_is_words (F:FJ K mg "is_words" (top bd 20)) (z_len:mg "len" = none) (h_m_are_unlike_below:Has P w K mg base "are_unlike_below" 2 3 zgo) (h_m_bits_of:Has P w K mg base "bits_of" 1 1 zds) (hz_bits_of:zcl P w K mg base CA "bits_of" 1 1 zdf):zcl P w K mg base CA "is_words" 3 2 zfb:=by
 have sc:=zq1
 refine zqz (k:=2) F sc rfl (bl2 λ_ _=>λ_ _ _ _ _ _=>rfl) λf cdv hcd A outer s H E hr=>?_
 exact zle (zya (zz5 h_m_are_unlike_below hr (by decide) rfl (zo5 (zad 1) (zo5 (zck rfl z_len (zac (zb3 (zad 0) (zah)) (zag))) (zx9 (zz6 (zah) (zz7 (zyd hz_bits_of zx6 hr (by decide) rfl (zac (zad 0) (zag)) (zam za7)) (zah))))))))
theorem ya9:FnScope ["_law_machine_here","_law_thing","_law_due","_law_kept","_law_again","_law_found"] ["_law_machine_here","_law_thing","_law_due"] (zau (top bd 31)):=⟨rfl,rfl,rfl,by decide +kernel,rfl,by decide +kernel,by decide +kernel⟩
theorem h_m_law_right (F:FJ K mg "_law_right" (top bd 31)) (z_repr:mg "repr" = none) (z_isinstance:mg "isinstance" = none) (z_bool:mg "bool" = none) (z_range:mg "range" = none) (h_m_is_words:Has P w K mg base "is_words" 3 2 zhq):Has P w K mg base "_law_right" 4 3 zfc:=by
 have sc:=ya9
 refine zcx (k:=3) F sc rfl (bl3 λ_ _ _=>λ_ _ _ _ _ _=>rfl) λf cdv hcd A outer s H E hr=>?_
 exact zap (za1 3 sc.nd (zi2 hr rfl z_repr (zac (zbv (zac (zad 0) (zac (zad 1) (zag)))) (zag)))) (zap (zil PassesOwn.never rfl rfl z_range (zac (zah) (zag)) (zcp 4 sc.nd) (zap (za1 5 sc.nd (zba h_m_is_words hr (by decide) rfl (zac (zad 0) (zac (zad 1) (zag))) (zam (zam za7)))) (zax (zbx (zfl (zeu (zev (zdl (zed (U:="bool") rfl z_isinstance rfl z_bool zkk (by decide) (zad 5)))) (zg1 (zg6 (zad 5) (zad 2))))) (zax (za8 (zcs))) (zbw))))) (zax (za8 (zfr (zi2 hr rfl z_repr (zac (zbv (zac (zad 0) (zac (zad 1) (zag)))) (zag))) (zad 3)))))
theorem yba:FnScope ["_law_thing","_law_many","_law_b","_law_word"] ["_law_thing","_law_many","_law_b"] (zau (top bd 28)):=⟨rfl,rfl,rfl,by decide +kernel,rfl,by decide +kernel,by decide +kernel⟩
theorem ybb:List.Nodup (["_law_word","_law_thing"]:List Str):=by decide +kernel
noncomputable abbrev ybc:List Str:=["_law_thing","_law_many","_law_b","_law_word"]
theorem h_m_law_are_words (F:FJ K mg "_law_are_words" (top bd 28)) (z_len:mg "len" = none) (z_isinstance:mg "isinstance" = none) (z_int:mg "int" = none) (z_bool:mg "bool" = none) (z_tuple:mg "tuple" = none):Has P w K mg base "_law_are_words" 1 3 zgp:=by
 have sc:=yba
 refine zcx (k:=0) F sc rfl (bl3 λ_ _ _=>λ_ _ _ _ _ _=>rfl) λf cdv hcd A outer s H E hr=>?_
 exact zap (zbx (zfl (zeu (zev (zdl (zed (U:="tuple") rfl z_isinstance rfl z_tuple zha (by decide) (zad 0)))) (zg1 (zg6 (zck rfl z_len (zac (zad 0) (zag))) (zad 1))))) (zax (za8 (zcs))) (zbw)) (zap (zob PassesOwn.never rfl (zad 0) (zcp 3 sc.nd) (zax (zbx (zfl (zeu (zev (zdl (zed (U:="int") rfl z_isinstance rfl z_int zkj (by decide) (zad 3)))) (zeu (zdl (zed (U:="bool") rfl z_isinstance rfl z_bool zkk (by decide) (zad 3))) (zeu (zih (zad 3) (zah)) (zg1 (zn3 (zad 3) (ziv (zah) (zad 2)))))))) (zax (za8 (zcs))) (zbw)))) (zax (za8 (zfr (zck rfl z_len (zac (zlm (N':=["_law_word","_law_thing"]) (ixs:=[none,some 0]) rfl (zln (scO:=zau (top bd 28)) (NO:=ybc) rfl rfl (by decide +kernel)) (zof (zad 0)) (λ_ _ _ _ _=>zcp 0 ybb) (λ_ _ _ _ _=>zwi (zg5 (yaa (zad 1) (zad 0)) (zah))) (λ_ _ _ _ _=>zad 0)) (zag))) (zah)))))
theorem ybd:FnScope ["_law_pen_here","_law_many","_law_digit","_law_at","_law_cell","_law_prime","_law_number"] ["_law_pen_here","_law_many"] (zau (top bd 23)):=⟨rfl,rfl,rfl,by decide +kernel,rfl,by decide +kernel,by decide +kernel⟩
theorem h_m_law_take (F:FJ K mg "_law_take" (top bd 23)) (z_len:mg "len" = none) (z_abs:mg "abs" = none):Has P w K mg base "_law_take" 1 2 zbm:=by
 have sc:=ybd
 refine zcx (k:=0) F sc rfl (bl2 λ_ _=>λ_ _ _ _ _ _=>rfl) λf cdv hcd A outer s H E hr=>?_
 exact zap (zbx (zg5 (zek hr (zad 0) (zbn)) (zah)) (zap (za1 2 sc.nd (zeb (zek hr (zad 0) (zbn)) (zad 1))) (zap (zk6 hr (zad 0) (zbn) (zj7 (zek hr (zad 0) (zbn)) (zad 1))) (zax (za8 (zad 2))))) (zbw)) (zap (za1 3 sc.nd (zek hr (zad 0) (zbn))) (zap (zk6 hr (zad 0) (zbn) (zca (zad 3) (zah))) (zap (za1 4 sc.nd (zca (zir (zir (zah) (zad 3)) (zad 3)) (zah))) (zap (zbx (zg5 (zck rfl z_len (zac (zek hr (zad 0) (zbn)) (zag))) (zah)) (zap (za1 4 sc.nd (zb3 (zek hr (zad 0) (zbn)) (zeb (zad 3) (zck rfl z_len (zac (zek hr (zad 0) (zbn)) (zag)))))) (zax (zbx (zfl (zvk (zih (zad 3) (zck rfl z_len (zac (zek hr (zad 0) (zbn)) (zag)))) (zvj (zn3 (zkl rfl z_abs (zac (zad 4) (zag))) (zig (zah) (zah)))))) (zap (zk6 hr (zad 0) (zbn) (zj7 (zkl rfl z_abs (zac (zad 4) (zag))) (zad 1))) (zax (za8 (zeb (zkl rfl z_abs (zac (zad 4) (zag))) (zad 1))))) (zbw)))) (zbw)) (zap (za1 5 sc.nd (zb3 (zbv (zac (zah) (zac (zah) (zac (zah) (zac (zah) (zac (zah) (zac (zah) (zac (zah) (zag))))))))) (zeb (zad 3) (zah)))) (zap (za1 6 sc.nd (zeb (zig (zca (zca (zeb (zad 4) (zah)) (zir (zah) (zad 3))) (zah)) (zah)) (zad 5))) (zap (za1 6 sc.nd (zeb (zig (zca (zir (zad 6) (zca (zad 3) (zah))) (zah)) (zah)) (zah))) (zax (za8 (zeb (zj7 (zad 6) (zah)) (zad 1)))))))))))
theorem ybe:FnScope ["_law_pen_here","_law_words_here","_law_b","_law_way","_law_at","_law_other","_law_odd","_law_number","_law_some"] ["_law_pen_here","_law_words_here","_law_b"] (zau (top bd 27)):=⟨rfl,rfl,rfl,by decide +kernel,rfl,by decide +kernel,by decide +kernel⟩
theorem h_m_law_spoilt (F:FJ K mg "_law_spoilt" (top bd 27)) (z_str:mg "str" = none) (z_list:mg "list" = none) (z_len:mg "len" = none) (h_m_law_take:Has P w K mg base "_law_take" 1 2 zbm):Has P w K mg base "_law_spoilt" 2 3 zhr:=by
 have sc:=ybe
 refine zcx (k:=1) F sc rfl (bl3 λ_ _ _=>λ_ _ _ _ _ _=>rfl) λf cdv hcd A outer s H E hr=>?_
 exact zap (za1 3 sc.nd (zba h_m_law_take hr (by decide) rfl (zac (zad 0) (zac (zah) (zag))) (zam (zam za7)))) (zap (za1 4 sc.nd (zba h_m_law_take hr (by decide) rfl (zac (zad 0) (zac (zck rfl z_len (zac (zad 1) (zag))) (zag))) (zam (zam za7)))) (zap (za1 5 sc.nd (zb3 (zad 1) (zba h_m_law_take hr (by decide) rfl (zac (zad 0) (zac (zck rfl z_len (zac (zad 1) (zag))) (zag))) (zam (zam za7))))) (by with_reducible exact zap (za1 6 (by with_unfolding_all exact sc.nd) (zb3 (zb5 (zac (by with_unfolding_all exact zea) (zac (by with_unfolding_all exact zcs) (zac (by with_unfolding_all exact zbn) (zac (by with_unfolding_all exact zah) (zac (by with_unfolding_all exact zov) (zac (by with_unfolding_all exact zb5 (zag)) (zac (by with_unfolding_all exact zbn) (zac (by with_unfolding_all exact zbv (zac (zbv (zac (zah) (zag))) (zac (zbv (zac (zah) (zag))) (zag)))) (zac (by with_unfolding_all exact zbv (zac (zea) (zag))) (zac (by with_unfolding_all exact zbv (zac (zbn) (zag))) (zag) (by with_unfolding_all rfl)) (by with_unfolding_all rfl)) (by with_unfolding_all rfl)) (by with_unfolding_all rfl)) (by with_unfolding_all rfl)) (by with_unfolding_all rfl)) (by with_unfolding_all rfl)) (by with_unfolding_all rfl)) (by with_unfolding_all rfl)) (by with_unfolding_all rfl))) (by with_unfolding_all exact zba h_m_law_take hr (by decide) rfl (zac (zad 0) (zac (zah) (zag))) (zam (zam za7))) (by with_unfolding_all (intro _ _;rfl))) (by with_unfolding_all rfl) (by with_unfolding_all first|exact Or.inl rfl|exact Or.inr rfl) (by with_unfolding_all rfl) (by with_unfolding_all first|exact .inl rfl|exact .inr rfl|assumption)) (by with_unfolding_all exact zap (zbx (zij (zad 3) (zah)) (zax (za8 (zoi rfl z_list (zac (zad 1) (zag))))) (zbw)) (zap (zbx (zij (zad 3) (zah)) (zax (za8 (zca (zf8 (zad 1) (zfs) (zft (zad 4))) (zf8 (zad 1) (zft (zca (zad 4) (zah))) (zfs))))) (zbw)) (zap (zbx (zij (zad 3) (zah)) (zax (za8 (zca (zad 1) (zbv (zac (zad 5) (zag)))))) (zbw)) (zap (zbx (zij (zad 3) (zah)) (zax (za8 (zad 6))) (zbw)) (zap (za1 7 sc.nd (zb3 (zad 1) (zad 4))) (by with_reducible exact zap (za1 8 (by with_unfolding_all exact sc.nd) (zb5 (zac (by with_unfolding_all exact zad 5) (zac (by with_unfolding_all exact ziv (zah) (zad 2)) (zac (by with_unfolding_all exact zxk (zah)) (zac (by with_unfolding_all exact zfr (zad 7) (zah)) (zac (by with_unfolding_all exact zfr (zad 7) (zah)) (zac (by with_unfolding_all exact zxu rfl z_str (zac (zad 7) (zag))) (zac (by with_unfolding_all exact zbv (zac (zad 7) (zag))) (zac (by with_unfolding_all exact zca (zad 7) (zig (zah) (zah))) (zag) (by with_unfolding_all rfl)) (by with_unfolding_all rfl)) (by with_unfolding_all rfl)) (by with_unfolding_all rfl)) (by with_unfolding_all rfl)) (by with_unfolding_all rfl)) (by with_unfolding_all rfl)) (by with_unfolding_all rfl))) (by with_unfolding_all rfl) (by with_unfolding_all first|exact Or.inl rfl|exact Or.inr rfl) (by with_unfolding_all rfl) (by with_unfolding_all first|exact .inl rfl|exact .inr rfl|assumption)) (by with_unfolding_all exact zap (za1 8 sc.nd (zca (zad 8) (zb5 (zac (zb5 (zac (zad 7) (zag))) (zac (zov) (zac (yag 7) (zag))))))) (zax (za8 (zca (zca (zf8 (zad 1) (zfs) (zft (zad 4))) (zbv (zac (zb3 (zad 8) (zg4 (zad 3) (zah))) (zag)))) (zf8 (zad 1) (zft (zca (zad 4) (zah))) (zfs)))))))))))))))
theorem ybf:FnScope ["_law_pen_here","_law_many","_law_b","_law_left"] ["_law_pen_here","_law_many","_law_b"] (zau (top bd 26)):=⟨rfl,rfl,rfl,by decide +kernel,rfl,by decide +kernel,by decide +kernel⟩
theorem ybg:List.Nodup (["_law_room","_law_left","_law_pen_here"]:List Str):=by decide +kernel
noncomputable abbrev ybh:List Str:=["_law_pen_here","_law_many","_law_b","_law_left"]
theorem h_m_law_words (F:FJ K mg "_law_words" (top bd 26)) (z_tuple:mg "tuple" = none) (z_range:mg "range" = none) (z_len:mg "len" = none) (z_list:mg "list" = none) (h_m_law_take:Has P w K mg base "_law_take" 1 2 zbm):Has P w K mg base "_law_words" 2 3 zhs:=by
 have sc:=ybf
 refine zcx (k:=1) F sc rfl (bl3 λ_ _ _=>λ_ _ _ _ _ _=>rfl) λf cdv hcd A outer s H E hr=>?_
 exact zap (za1 3 sc.nd (zxc rfl rfl z_list rfl z_range (zac (ziv (zah) (zad 2)) (zag)))) (zax (za8 (zkm rfl z_tuple (zac (zlm (N':=["_law_room","_law_left","_law_pen_here"]) (ixs:=[none,some 3,some 0]) rfl (zln (scO:=zau (top bd 26)) (NO:=ybh) rfl rfl (by decide +kernel)) (zwf rfl z_range (zac (zad 1) (zag))) (λ_ _ _ _ _=>zcp 0 ybg) (λ_ _ _ _ _=>zog) (λ_ _ _ _ _=>zw9 (zad 1) (zba h_m_law_take hr (by decide) rfl (zac (zad 2) (zac (zck rfl z_len (zac (zad 1) (zag))) (zag))) (zam (zam za7))))) (zag)))))
theorem ybi:FnScope ["_law_machine_here"] ["_law_machine_here"] (zau (top bd 25)):=⟨rfl,rfl,rfl,by decide +kernel,rfl,by decide +kernel,by decide +kernel⟩
theorem h_m_law_bits (F:FJ K mg "_law_bits" (top bd 25)) (z_len:mg "len" = none):Has P w K mg base "_law_bits" 1 1 zht:=by
 have sc:=ybi
 refine zcx (k:=0) F sc rfl (bl1 λ_=>λ_ _ _ _ _ _=>rfl) λf cdv hcd A outer s H E hr=>?_
 exact zax (za8 (zbv (zac (zb3 (zb5 (zac (zah) (zac (zah) (zac (zah) (zac (zah) (zac (zah) (zac (zah) (zac (zah) (zac (zah) (zag)))))))))) (zg4 (zck rfl z_len (zac (zb3 (zad 0) (zah)) (zag))) (zah))) (zac (zb3 (zb5 (zac (zah) (zac (zah) (zac (zah) (zac (zah) (zag)))))) (zg4 (zb3 (zad 0) (zah)) (zah))) (zag)))))
theorem ybj:FnScope ["_law_caught","_law_marks"] ["_law_caught"] (zau (top bd 29)):=⟨rfl,rfl,rfl,by decide +kernel,rfl,by decide +kernel,by decide +kernel⟩
theorem h_m_law_class (F:FJ K mg "_law_class" (top bd 29)) (z_isinstance:mg "isinstance" = none) (z_ValueError:mg "ValueError" = none) (q_Unreached:mg "Unreached" = some (.ref (CA "Unreached"))) (q_Clash:mg "Clash" = some (.ref (CA "Clash"))) (q_NotOpen:mg "NotOpen" = some (.ref (CA "NotOpen"))) (q_NoBack:mg "NoBack" = some (.ref (CA "NoBack"))) (q_NoText:mg "NoText" = some (.ref (CA "NoText"))) (q_NoName:mg "NoName" = some (.ref (CA "NoName"))) (q_NoLine:mg "NoLine" = some (.ref (CA "NoLine"))) (q_NotClosed:mg "NotClosed" = some (.ref (CA "NotClosed"))) (q_Unlike:mg "Unlike" = some (.ref (CA "Unlike"))) (q_NotFull:mg "NotFull" = some (.ref (CA "NotFull"))) (q_NoWords:mg "NoWords" = some (.ref (CA "NoWords"))) (q_TooMany:mg "TooMany" = some (.ref (CA "TooMany"))) (n_TooMany:PySem.W.nsIn K mainGlobals "TooMany" = some (some (.ref (CA "TooMany")))) (e_TooMany:ExcQ K (CA "TooMany")) (i_0:PySem.W.kitOne K (.ref (CA "TooMany")) (.type "ValueError")=some true) (i_1:PySem.W.kitAny K (.ref (CA "TooMany")) [.ref (CA "Unreached"),.ref (CA "Clash"),.ref (CA "NotOpen"),.ref (CA "NoBack"),.ref (CA "NoText"),.ref (CA "NoName"),.ref (CA "NoLine")]=some false) (i_2:PySem.W.kitAny K (.ref (CA "TooMany")) [.ref (CA "NotClosed"),.ref (CA "Unlike"),.ref (CA "NotFull")]=some false) (i_3:PySem.W.kitOne K (.ref (CA "TooMany")) (.ref (CA "NoWords"))=some false) (i_4:PySem.W.kitOne K (.ref (CA "TooMany")) (.ref (CA "TooMany"))=some true):Has P w K mg base "_law_class" 1 1 zhu:=by
 have sc:=ybj
 refine zcx (k:=0) F sc rfl (bl1 λ_=>λ_ _ _ _ _ _=>rfl) λf cdv hcd A outer s H E hr=>?_
 exact zap (za1 1 sc.nd (zb5 (zac (zpf rfl z_isinstance (zad 0) rfl q_TooMany (zhi (R:=λC b=>ExcQ _ C/\PySem.W.kitOne _ (.ref C) _=some b) n_TooMany ⟨e_TooMany,i_4⟩)) (zac (zpf rfl z_isinstance (zad 0) rfl q_NoWords (zhi (R:=λC b=>ExcQ _ C/\PySem.W.kitOne _ (.ref C) _=some b) n_TooMany ⟨e_TooMany,i_3⟩)) (zac (zpe rfl z_isinstance (zad 0) (zdp rfl q_NotClosed (zdp rfl q_Unlike (zdp rfl q_NotFull (zpb)))) (by simp only [List.length_cons,List.length_nil];decide) (zhi (R:=λC b=>ExcQ _ C/\PySem.W.kitAny _ (.ref C) _=some b) n_TooMany ⟨e_TooMany,i_2⟩)) (zag)))))) (zap (zkc (zkb (zad 1) (zpe rfl z_isinstance (zad 0) (zdp rfl q_Unreached (zdp rfl q_Clash (zdp rfl q_NotOpen (zdp rfl q_NoBack (zdp rfl q_NoText (zdp rfl q_NoName (zdp rfl q_NoLine (zpb)))))))) (by simp only [List.length_cons,List.length_nil];decide) (zhi (R:=λC b=>ExcQ _ C/\PySem.W.kitAny _ (.ref C) _=some b) n_TooMany ⟨e_TooMany,i_1⟩)))) (zap (zbx (zfl (zeu (zev (zdl (zyt (U:="ValueError") rfl z_isinstance (zad 0) rfl z_ValueError (by decide +kernel) (zhi (R:=λC b=>ExcQ _ C/\PySem.W.kitOne _ (.ref C) _=some b) n_TooMany ⟨e_TooMany,i_0⟩)))) (zg1 (zg6 (yad hr (zad 1) (zcs)) (zah))))) (zax (za8 (zbn))) (zbw)) (zax (za8 (zb3 (zb5 (zac (zbn) (zac (zbn) (zac (zbn) (zac (zbn) (zag)))))) (zy3 hr (zad 1) (zcs)))))))
theorem ybk:FnScope ["_law_asked","_law_caught","_law_found","e"] ["_law_asked"] (zau (top bd 30)):=⟨rfl,rfl,rfl,by decide +kernel,rfl,by decide +kernel,by decide +kernel⟩
theorem h_m_law_heard (F:FJ K mg "_law_heard" (top bd 30)) (h_m_law_class:Has P w K mg base "_law_class" 1 1 zhu) (hz_bits_of:zcl P w K mg base CA "bits_of" 1 1 zdf) (hz_is_words:zcl P w K mg base CA "is_words" 3 2 zfb) (q_CellError:mg "CellError" = some (.ref (CA "CellError"))) (x_CellError:PySem.W.excIn K (CA "CellError") zc4 "ValueError.__new__" = true) (x_TooMany:PySem.W.excIn K (CA "TooMany") zc4 "ValueError.__new__" = true) (n_TooMany:PySem.W.nsIn K mainGlobals "TooMany" = some (some (.ref (CA "TooMany")))) (s_TooMany_CellError:(Value.ref (CA "TooMany") :: zd2 K (CA "TooMany")).contains (.ref (CA "CellError"))=true):Has P w K mg base "_law_heard" 5 1 zfd:=by
 have sc:=ybk
 refine zcx (k:=4) F sc rfl (bl1 λ_=>λ_ _ _ _ _ _=>rfl) λf cdv hcd A outer s H E hr=>?_
 exact zap (za1 1 sc.nd (zea)) (zap (za1 2 sc.nd (zea)) (zap (zzk (CA:=CA) 3 sc.nd (λ_ _ h=>h) rfl rfl rfl q_CellError x_CellError (zyu ⟨n_TooMany,x_TooMany,s_TooMany_CellError⟩) (λ_=>zax (za1 1 sc.nd (zad 3))) (λ_=>zz2 0 (λ_ _ h=>h) hr (zp1 (zpv (by decide +kernel) rfl rfl (by decide +kernel)) (zp1 (zpv (by decide +kernel) rfl rfl (by decide +kernel)) yah)) (zp2 hz_bits_of (by decide) (zp2 hz_is_words (by decide) yai))) (zax zn7)) (zap (zbx (zvp (zad 1) (zea)) (zax (za8 (zbv (zac (zbn) (zac (zad 2) (zag)))))) (zbw)) (zax (za8 (zbv (zac (zbn) (zac (zba h_m_law_class hr (by decide) rfl (zac (zad 1) (zag)) (zam za7)) (zag)))))))))
theorem ybl:FnScope ["_law_pen_here","_law_machine_here","_law_things","_law_thing"] ["_law_pen_here","_law_machine_here"] (zau (top bd 32)):=⟨rfl,rfl,rfl,by decide +kernel,rfl,by decide +kernel,by decide +kernel⟩
theorem h_m_law_great_right (F:FJ K mg "_law_great_right" (top bd 32)) (z_tuple:mg "tuple" = none) (z_range:mg "range" = none) (z_len:mg "len" = none) (h_m_law_heard:Has P w K mg base "_law_heard" 5 1 zfd) (h_m_law_take:Has P w K mg base "_law_take" 1 2 zbm) {c T:Addr} (t_law_great_right:PySem.W.tabIn K "_law_great_right" = some (c,T)):Has P w K mg base "_law_great_right" 6 2 zhv:=by
 have sc:=ybl
 refine ya4 (k:=5) F t_law_great_right sc rfl (bl2 λ_ _=>λ_ _ _ _ _ _=>rfl) λf hcd A outer s H E hr=>?_
 exact zap (za1 2 sc.nd (zb5 (zac (zea) (zac (zbv (zag)) (zac (yas rfl rfl z_tuple rfl z_range (zac (zck rfl z_len (zac (zb3 (zad 1) (zah)) (zag))) (zag))) (zac (zbv (zac (zah) (zag))) (zac (zb5 (zac (zah) (zac (zah) (zag)))) (zac (zcs) (zag))))))))) (zap (za1 3 sc.nd (zb3 (zad 2) (zba h_m_law_take hr (by decide) rfl (zac (zad 0) (zac (zah) (zag))) (zam (zam za7))))) (zap (zbx (zw7 hr (zpw 1 t_law_great_right h_m_law_heard hr (by decide) (λ_=>rfl) (.cons rfl rfl rfl (.nil)) rfl rfl rfl rfl) (zbv (zac (zbn) (zac (zbn) (zag))))) (zax (za8 (zcs))) (zbw)) (zax (za8 (zw6 hr (zpw 1 t_law_great_right h_m_law_heard hr (by decide) (λ_=>rfl) (.cons rfl rfl rfl (.cons rfl rfl rfl (.nil))) rfl rfl rfl rfl) (zbv (zac (zbn) (zac (zbn) (zag)))))))))
theorem ybm:FnScope ["_law_pen_here","_law_rooms","_law_asks","_law_share","_law_most","_law_found","_law_room","_law_cells","_law_ask","_law_goes","_law_answer"] ["_law_pen_here","_law_rooms","_law_asks"] (zau (top bd 24)):=⟨rfl,rfl,rfl,by decide +kernel,rfl,by decide +kernel,by decide +kernel⟩
theorem h_m_law_machine (F:FJ K mg "_law_machine" (top bd 24)) (z_tuple:mg "tuple" = none) (z_range:mg "range" = none) (h_m_law_take:Has P w K mg base "_law_take" 1 2 zbm):Has P w K mg base "_law_machine" 2 3 zhw:=by
 have sc:=ybm
 refine zcx (k:=1) F sc rfl (bl3 λ_ _ _=>λ_ _ _ _ _ _=>rfl) λf cdv hcd A outer s H E hr=>?_
 exact zap (za1 3 sc.nd (zb3 (zb5 (zac (zah) (zac (zah) (zac (zah) (zac (zah) (zag)))))) (zba h_m_law_take hr (by decide) rfl (zac (zad 0) (zac (zah) (zag))) (zam (zam za7))))) (zap (za1 4 sc.nd (zb3 (zb5 (zac (zah) (zac (zah) (zac (zah) (zac (zah) (zag)))))) (zba h_m_law_take hr (by decide) rfl (zac (zad 0) (zac (zah) (zag))) (zam (zam za7))))) (zap (za1 5 sc.nd (zb5 (zag))) (zap (zil PassesOwn.never rfl rfl z_range (zac (zad 1) (zag)) (zcp 6 sc.nd) (zap (za1 7 sc.nd (zb5 (zag))) (zap (zil PassesOwn.never rfl rfl z_range (zac (zad 2) (zag)) (zcp 8 sc.nd) (zap (za1 9 sc.nd (zba h_m_law_take hr (by decide) rfl (zac (zad 0) (zac (zad 1) (zag))) (zam (zam za7)))) (zap (za1 10 sc.nd (zba h_m_law_take hr (by decide) rfl (zac (zad 0) (zac (zad 4) (zag))) (zam (zam za7)))) (zap (zbx (zih (zba h_m_law_take hr (by decide) rfl (zac (zad 0) (zac (zah) (zag))) (zam (zam za7))) (zad 3)) (zax (za1 9 sc.nd (zea))) (zbw)) (zap (zbx (zih (zba h_m_law_take hr (by decide) rfl (zac (zad 0) (zac (zah) (zag))) (zam (zam za7))) (zad 3)) (zax (za1 10 sc.nd (zea))) (zbw)) (zax (zkc (zkb (zad 7) (zbv (zac (zad 9) (zac (zad 10) (zag)))))))))))) (zax (zkc (zkb (zad 5) (zkm rfl z_tuple (zac (zad 7) (zag))))))))) (zax (za8 (zbv (zac (zad 2) (zac (zkm rfl z_tuple (zac (zad 5) (zag))) (zag)))))))))
theorem ybn:FnScope ["_law_script"] ["_law_script"] (zau (top bd 22)):=⟨rfl,rfl,rfl,by decide +kernel,rfl,by decide +kernel,by decide +kernel⟩
theorem h_m_law_pen (F:FJ K mg "_law_pen" (top bd 22)):Has P w K mg base "_law_pen" 1 1 zhx:=by
 have sc:=ybn
 refine zcx (k:=0) F sc rfl (bl1 λ_=>λ_ _ _ _ _ _=>rfl) λf cdv hcd A outer s H E hr=>?_
 exact zax (za8 (zxy 0 (by decide +kernel) (by decide +kernel) (by decide +kernel)))
theorem ybo:FnScope ["_law_script","_law_pen_here","_law_is_great","_law_many","_law_machine_here","_law_b","_law_c","_law_turn","_law_words_here","_law_thing","_law_both","_law_one"] ["_law_script"] (zau (top bd 33)):=⟨rfl,rfl,rfl,by decide +kernel,rfl,by decide +kernel,by decide +kernel⟩
theorem ybp {f:Addr}{fd:FuncData}(F:Fun K "law" "law" (top bd 33) f fd) (z_isinstance:mg "isinstance" = none) (z_tuple:mg "tuple" = none) (z_list:mg "list" = none) (z_range:mg "range" = none) (z_repr:mg "repr" = none) (z_int:mg "int" = none) (h_m_law_right:Has P w K mg base "_law_right" 4 3 zfc) (h_m_law_are_words:Has P w K mg base "_law_are_words" 1 3 zgp) (h_m_law_take:Has P w K mg base "_law_take" 1 2 zbm) (h_m_law_spoilt:Has P w K mg base "_law_spoilt" 2 3 zhr) (h_m_law_words:Has P w K mg base "_law_words" 2 3 zhs) (h_m_bits_of:Has P w K mg base "bits_of" 1 1 zds) (h_m_law_bits:Has P w K mg base "_law_bits" 1 1 zht) (h_m_law_great_right:Has P w K mg base "_law_great_right" 6 2 zhv) (h_m_law_machine:Has P w K mg base "_law_machine" 2 3 zhw) (h_m_law_pen:Has P w K mg base "_law_pen" 1 1 zhx):FnOk P w K mg base CX0 7 f fd ["_law_script"] (sp3 K 1 zen):=by
 have sc:=ybo
 refine zoc (k:=6) F sc rfl λcdv hcd A outer s H E hr=>?_
 refine zap (za1 1 sc.nd (zba h_m_law_pen hr (by decide) rfl (zac (zad 0) (zag)) (zam za7))) ?_
 refine zap (za1 2 sc.nd (zfr (zba h_m_law_take hr (by decide) rfl (zac (zad 1) (zac (zah) (zag))) (zam (zam za7))) (zah))) ?_
 refine zap (za1 3 sc.nd (zb3 (zb5 (zac (zca (zah) (zba h_m_law_take hr (by decide) rfl (zac (zad 1) (zac (zah) (zag))) (zam (zam za7)))) (zac (zca (zah) (zba h_m_law_take hr (by decide) rfl (zac (zad 1) (zac (zah) (zag))) (zam (zam za7)))) (zag)))) (zx2 rfl z_int (zac (zad 2) (zag))))) ?_
 refine zap (za1 4 sc.nd (zba h_m_law_machine hr (by decide) rfl (zac (zad 1) (zac (zad 3) (zac (zca (zah) (zba h_m_law_take hr (by decide) rfl (zac (zad 1) (zac (zah) (zag))) (zam (zam za7)))) (zag)))) (zam (zam (zam za7))))) ?_
 refine zap (zbx (zdl (zad 2)) (zax (za8 (zba h_m_law_great_right hr (by decide) rfl (zac (zad 1) (zac (zad 4) (zag))) (zam (zam za7))))) (zbw)) ?_
 refine zap (zkg (zba h_m_law_bits hr (by decide) rfl (zac (zad 4) (zag)) (zam za7)) (zkf rfl (zfy (zcp 5 sc.nd) (zfy (zcp 6 sc.nd) (zke))))) ?_
 refine zap (zbx (zg6 (zi2 hr rfl z_repr (zac (zba h_m_bits_of hr (by decide) rfl (zac (zad 4) (zag)) (zam za7)) (zag))) (zi2 hr rfl z_repr (zac (zbv (zac (zad 5) (zac (zad 6) (zag)))) (zag)))) (zax (za8 (zcs))) (zbw)) ?_
 refine zap (zil PassesOwn.never rfl rfl z_range (zac (zah) (zag)) (zcp 7 sc.nd) ?_) ?_
 ·refine zap (za1 8 sc.nd (zba h_m_law_words hr (by decide) rfl (zac (zad 1) (zac (zad 3) (zac (zad 5) (zag)))) (zam (zam (zam za7))))) ?_
  refine zap (za1 9 sc.nd (zba h_m_law_spoilt hr (by decide) rfl (zac (zad 1) (zac (zad 8) (zac (zad 5) (zag)))) (zam (zam (zam za7))))) ?_
  refine zap (za1 10 sc.nd (zb5 (zac (zad 9) (zac (zad 9) (zag))))) ?_
  refine zap (zbx (zdl (zed (U:="tuple") rfl z_isinstance rfl z_tuple zha (by decide) (zad 9))) (zax (za1 10 sc.nd (zb5 (zac (zb3 (zb5 (zac (zoi rfl z_list (zac (zad 9) (zag))) (zac (zca (zad 9) (zf8 (zad 8) (zfs) (zft (zah)))) (zac (zf8 (zad 9) (zft (zah)) (zfs)) (zag))))) (zba h_m_law_take hr (by decide) rfl (zac (zad 1) (zac (zah) (zag))) (zam (zam za7)))) (zac (zad 9) (zag)))))) (zbw)) ?_
  refine zap (zbx (zev (zdl (zba h_m_law_right hr (by decide) rfl (zac (zad 4) (zac (zad 8) (zac (zcs) (zag)))) (zam (zam (zam za7)))))) (zax (za8 (zcs))) (zbw)) ?_
  refine zax (zob PassesOwn.never rfl (zad 10) (zcp 11 sc.nd) ?_)
  ·exact zax (zbx (zev (zdl (zba h_m_law_right hr (by decide) rfl (zac (zad 4) (zac (zad 11) (zac (zba h_m_law_are_words hr (by decide) rfl (zac (zad 11) (zac (zad 3) (zac (zad 5) (zag)))) (zam (zam (zam za7)))) (zag)))) (zam (zam (zam za7)))))) (zax (za8 (zcs))) (zbw))
 exact zax (za8 (zcs))
end
theorem all_mk {l:PySem.W.OpenLaw}{w:World}{K:QFg}{h:Heap}{mg:Str->Option Value}{fa:Addr}(X:K.In h) (G:h.Ns mainGlobals mg) (hfa:mg "law" = some (.ref fa)) {g_TooMany g_Unreached g_Clash g_NotOpen g_NoBack g_NoText g_NoName g_NoLine g_NotClosed g_Unlike g_NotFull g_NoWords g_CellError:Addr}
  (a0:FI K "is_below" (top bd 15))
  (a1:FI K "are_unlike_below" (top bd 16))
  (a2:FI K "bits_of" (top bd 19))
  (a3:FI K "is_words" (top bd 20))
  (a4:FI K "_law_right" (top bd 31))
  (a5:FI K "_law_are_words" (top bd 28))
  (a6:FI K "_law_take" (top bd 23))
  (a7:FI K "_law_spoilt" (top bd 27))
  (a8:FI K "_law_words" (top bd 26))
  (a9:FI K "_law_bits" (top bd 25))
  (a10:FI K "_law_class" (top bd 29))
  (a11:FI K "_law_heard" (top bd 30))
  (a12:FI K "_law_great_right" (top bd 32))
  (a13:FI K "_law_machine" (top bd 24))
  (a14:FI K "_law_pen" (top bd 22))
  (a15:FI K "law" (top bd 33))
  (z_isinstance:PySem.W.nsIn K mainGlobals "isinstance" = some none)
  (z_int:PySem.W.nsIn K mainGlobals "int" = some none)
  (z_bool:PySem.W.nsIn K mainGlobals "bool" = some none)
  (z_all:PySem.W.nsIn K mainGlobals "all" = some none)
  (z_len:PySem.W.nsIn K mainGlobals "len" = some none)
  (z_set:PySem.W.nsIn K mainGlobals "set" = some none)
  (z_tuple:PySem.W.nsIn K mainGlobals "tuple" = some none)
  (z_max:PySem.W.nsIn K mainGlobals "max" = some none)
  (z_repr:PySem.W.nsIn K mainGlobals "repr" = some none)
  (z_range:PySem.W.nsIn K mainGlobals "range" = some none)
  (z_abs:PySem.W.nsIn K mainGlobals "abs" = some none)
  (z_str:PySem.W.nsIn K mainGlobals "str" = some none)
  (z_list:PySem.W.nsIn K mainGlobals "list" = some none)
  (z_ValueError:PySem.W.nsIn K mainGlobals "ValueError" = some none)
  {t_MOST_WITH_WORDS:Tok} (c_MOST_WITH_WORDS:PySem.W.nsIn K mainGlobals "MOST_WITH_WORDS" = some (some (.int 8 t_MOST_WITH_WORDS)))
  (a_TooMany:PySem.W.nsIn K mainGlobals "TooMany" = some (some (.ref g_TooMany)))
  (a_Unreached:PySem.W.nsIn K mainGlobals "Unreached" = some (some (.ref g_Unreached)))
  (a_Clash:PySem.W.nsIn K mainGlobals "Clash" = some (some (.ref g_Clash)))
  (a_NotOpen:PySem.W.nsIn K mainGlobals "NotOpen" = some (some (.ref g_NotOpen)))
  (a_NoBack:PySem.W.nsIn K mainGlobals "NoBack" = some (some (.ref g_NoBack)))
  (a_NoText:PySem.W.nsIn K mainGlobals "NoText" = some (some (.ref g_NoText)))
  (a_NoName:PySem.W.nsIn K mainGlobals "NoName" = some (some (.ref g_NoName)))
  (a_NoLine:PySem.W.nsIn K mainGlobals "NoLine" = some (some (.ref g_NoLine)))
  (a_NotClosed:PySem.W.nsIn K mainGlobals "NotClosed" = some (some (.ref g_NotClosed)))
  (a_Unlike:PySem.W.nsIn K mainGlobals "Unlike" = some (some (.ref g_Unlike)))
  (a_NotFull:PySem.W.nsIn K mainGlobals "NotFull" = some (some (.ref g_NotFull)))
  (a_NoWords:PySem.W.nsIn K mainGlobals "NoWords" = some (some (.ref g_NoWords)))
  (a_CellError:PySem.W.nsIn K mainGlobals "CellError" = some (some (.ref g_CellError)))
  (x_TooMany:PySem.W.excIn K g_TooMany zc4 "ValueError.__new__" = true)
  (x_CellError:PySem.W.excIn K g_CellError zc4 "ValueError.__new__" = true)
  (s_TooMany_CellError:(Value.ref g_TooMany :: zd2 K g_TooMany).contains (.ref g_CellError)=true)
  (o_TooMany:PySem.W.mroIn K g_TooMany (.type "object")=some true) (d_TooMany:PySem.W.findIn K (.ref g_TooMany) "__class__" = some (some (.builtin "object.__class__"))) (ga_TooMany:PySem.W.findIn K (.ref g_TooMany) "__getattribute__" = some (some (.builtin "BaseException.__getattribute__"))) (gr_TooMany:PySem.W.findIn K (.ref g_TooMany) "__getattr__" = some none) (is_TooMany:(PySem.W.clsIn K g_TooMany).isSome=true)
  (i_0:PySem.W.kitOne K (.ref g_TooMany) (.type "ValueError")=some true)
  (i_1:PySem.W.kitAny K (.ref g_TooMany) [.ref g_Unreached,.ref g_Clash,.ref g_NotOpen,.ref g_NoBack,.ref g_NoText,.ref g_NoName,.ref g_NoLine]=some false)
  (i_2:PySem.W.kitAny K (.ref g_TooMany) [.ref g_NotClosed,.ref g_Unlike,.ref g_NotFull]=some false)
  (i_3:PySem.W.kitOne K (.ref g_TooMany) (.ref g_NoWords)=some false)
  (i_4:PySem.W.kitOne K (.ref g_TooMany) (.ref g_TooMany)=some true)
  (tb_law_great_right:∃T,FT K "_law_great_right" T) :
  ∃fd:FuncData,(∀(s:Shared) (v:Value),BindsTo s fd ⟨[v],[]⟩ [("_law_script",v)])/\∀base:Heap,K.In base->base.Ns mainGlobals mg->FnOk l.prog w K mg base CX0 7 fa fd ["_law_script"] (sp3 K 1 zen):=by
 have y_isinstance:=PySem.W.mg_none_of X G z_isinstance
 have y_int:=PySem.W.mg_none_of X G z_int
 have y_bool:=PySem.W.mg_none_of X G z_bool
 have y_all:=PySem.W.mg_none_of X G z_all
 have y_len:=PySem.W.mg_none_of X G z_len
 have y_set:=PySem.W.mg_none_of X G z_set
 have y_tuple:=PySem.W.mg_none_of X G z_tuple
 have y_max:=PySem.W.mg_none_of X G z_max
 have y_repr:=PySem.W.mg_none_of X G z_repr
 have y_range:=PySem.W.mg_none_of X G z_range
 have y_abs:=PySem.W.mg_none_of X G z_abs
 have y_str:=PySem.W.mg_none_of X G z_str
 have y_list:=PySem.W.mg_none_of X G z_list
 have y_ValueError:=PySem.W.mg_none_of X G z_ValueError
 have y_MOST_WITH_WORDS:∃t,mg "MOST_WITH_WORDS" = some (.int 8 t):=⟨_,PySem.W.mg_of X G c_MOST_WITH_WORDS⟩
 obtain ⟨CA,ca_TooMany,ca_Unreached,ca_Clash,ca_NotOpen,ca_NoBack,ca_NoText,ca_NoName,ca_NoLine,ca_NotClosed,ca_Unlike,ca_NotFull,ca_NoWords,ca_CellError⟩:∃CA:Str->Addr,CA "TooMany" = g_TooMany/\CA "Unreached" = g_Unreached/\CA "Clash" = g_Clash/\CA "NotOpen" = g_NotOpen/\CA "NoBack" = g_NoBack/\CA "NoText" = g_NoText/\CA "NoName" = g_NoName/\CA "NoLine" = g_NoLine/\CA "NotClosed" = g_NotClosed/\CA "Unlike" = g_Unlike/\CA "NotFull" = g_NotFull/\CA "NoWords" = g_NoWords/\CA "CellError" = g_CellError:=⟨λy=>if y = "TooMany" then g_TooMany else if y = "Unreached" then g_Unreached else if y = "Clash" then g_Clash else if y = "NotOpen" then g_NotOpen else if y = "NoBack" then g_NoBack else if y = "NoText" then g_NoText else if y = "NoName" then g_NoName else if y = "NoLine" then g_NoLine else if y = "NotClosed" then g_NotClosed else if y = "Unlike" then g_Unlike else if y = "NotFull" then g_NotFull else if y = "NoWords" then g_NoWords else if y = "CellError" then g_CellError else 0,by dsimp only;rw [if_pos rfl],by dsimp only;rw [if_neg (by decide +kernel),if_pos rfl],by dsimp only;rw [if_neg (by decide +kernel),if_neg (by decide +kernel),if_pos rfl],by dsimp only;(repeat rw [if_neg (by decide +kernel)]);rw [if_pos rfl],by dsimp only;(repeat rw [if_neg (by decide +kernel)]);rw [if_pos rfl],by dsimp only;(repeat rw [if_neg (by decide +kernel)]);rw [if_pos rfl],by dsimp only;(repeat rw [if_neg (by decide +kernel)]);rw [if_pos rfl],by dsimp only;(repeat rw [if_neg (by decide +kernel)]);rw [if_pos rfl],by dsimp only;(repeat rw [if_neg (by decide +kernel)]);rw [if_pos rfl],by dsimp only;(repeat rw [if_neg (by decide +kernel)]);rw [if_pos rfl],by dsimp only;(repeat rw [if_neg (by decide +kernel)]);rw [if_pos rfl],by dsimp only;(repeat rw [if_neg (by decide +kernel)]);rw [if_pos rfl],by dsimp only;(repeat rw [if_neg (by decide +kernel)]);rw [if_pos rfl]⟩
 subst ca_TooMany
 subst ca_Unreached
 subst ca_Clash
 subst ca_NotOpen
 subst ca_NoBack
 subst ca_NoText
 subst ca_NoName
 subst ca_NoLine
 subst ca_NotClosed
 subst ca_Unlike
 subst ca_NotFull
 subst ca_NoWords
 subst ca_CellError
 have q_TooMany:=PySem.W.mg_of X G a_TooMany
 have q_Unreached:=PySem.W.mg_of X G a_Unreached
 have q_Clash:=PySem.W.mg_of X G a_Clash
 have q_NotOpen:=PySem.W.mg_of X G a_NotOpen
 have q_NoBack:=PySem.W.mg_of X G a_NoBack
 have q_NoText:=PySem.W.mg_of X G a_NoText
 have q_NoName:=PySem.W.mg_of X G a_NoName
 have q_NoLine:=PySem.W.mg_of X G a_NoLine
 have q_NotClosed:=PySem.W.mg_of X G a_NotClosed
 have q_Unlike:=PySem.W.mg_of X G a_Unlike
 have q_NotFull:=PySem.W.mg_of X G a_NotFull
 have q_NoWords:=PySem.W.mg_of X G a_NoWords
 have q_CellError:=PySem.W.mg_of X G a_CellError
 have n_TooMany:=a_TooMany
 have n_Unreached:=a_Unreached
 have n_Clash:=a_Clash
 have n_NotOpen:=a_NotOpen
 have n_NoBack:=a_NoBack
 have n_NoText:=a_NoText
 have n_NoName:=a_NoName
 have n_NoLine:=a_NoLine
 have n_NotClosed:=a_NotClosed
 have n_Unlike:=a_Unlike
 have n_NotFull:=a_NotFull
 have n_NoWords:=a_NoWords
 have n_CellError:=a_CellError
 have e_TooMany:ExcQ K (CA "TooMany"):=⟨x_TooMany,o_TooMany,d_TooMany,ga_TooMany,gr_TooMany,is_TooMany⟩
 obtain ⟨_,_,t_law_great_right,_⟩:=tb_law_great_right
 have F0:=a0.ok X G
 have F1:=a1.ok X G
 have F2:=a2.ok X G
 have F3:=a3.ok X G
 have F4:=a4.ok X G
 have F5:=a5.ok X G
 have F6:=a6.ok X G
 have F7:=a7.ok X G
 have F8:=a8.ok X G
 have F9:=a9.ok X G
 have F10:=a10.ok X G
 have F11:=a11.ok X G
 have F12:=a12.ok X G
 have F13:=a13.ok X G
 have F14:=a14.ok X G
 have F15:=a15.ok X G
 obtain @⟨fL,fdL,FL,mL,_⟩:=F15
 have e:=hfa.symm.trans mL
 cases e
 refine ⟨fdL,λs v=>by obtain ⟨_,_,_,_,_,_,_,_,_,rfl,_⟩:=FL.ex;exact .of_eq rfl,λbase _ _=>?_⟩
 have t:∀{x k n m},Has l.prog w K mg base x k n m->Has l.prog w K mg base x k n m:=id
 have tz:∀{x k n m},zcl l.prog w K mg base CA x k n m->zcl l.prog w K mg base CA x k n m:=id
 have g0:=t (h_m_is_below F0 y_isinstance y_int y_bool)
 have g1:=t (h_m_are_unlike_below F1 y_all y_len y_set y_isinstance y_tuple g0)
 have g2:=t (h_m_bits_of F2 y_max y_len y_MOST_WITH_WORDS q_TooMany x_TooMany)
 have gz2:=tz (hz_bits_of F2 y_max y_len y_MOST_WITH_WORDS q_TooMany x_TooMany)
 have g3:=t (h_m_is_words F3 y_len g1 g2 gz2)
 have gz3:=tz (hz_is_words F3 y_len g1 g2 gz2)
 have g4:=t (h_m_law_right F4 y_repr y_isinstance y_bool y_range g3)
 have g5:=t (h_m_law_are_words F5 y_len y_isinstance y_int y_bool y_tuple)
 have g6:=t (h_m_law_take F6 y_len y_abs)
 have g7:=t (h_m_law_spoilt F7 y_str y_list y_len g6)
 have g8:=t (h_m_law_words F8 y_tuple y_range y_len y_list g6)
 have g9:=t (h_m_law_bits F9 y_len)
 have g10:=t (h_m_law_class F10 y_isinstance y_ValueError q_Unreached q_Clash q_NotOpen q_NoBack q_NoText q_NoName q_NoLine q_NotClosed q_Unlike q_NotFull q_NoWords q_TooMany n_TooMany e_TooMany i_0 i_1 i_2 i_3 i_4)
 have g11:=t (h_m_law_heard F11 g10 gz2 gz3 q_CellError x_CellError x_TooMany n_TooMany s_TooMany_CellError)
 have g12:=t (h_m_law_great_right F12 y_tuple y_range y_len g11 g6 t_law_great_right)
 have g13:=t (h_m_law_machine F13 y_tuple y_range g6)
 have g14:=t (h_m_law_pen F14 )
 exact ybp FL y_isinstance y_tuple y_list y_range y_repr y_int g4 g5 g6 g7 g8 g2 g9 g12 g13 g14
theorem walk {l:PySem.W.OpenLaw}{q:Program}{loose:List Str}{XP:(Str->Option Value)->Heap->Prop}{YP:World->Heap->Prop}{d:DefRec}{K:Params->QFg}{T0:Addr}(hn:l.most=some 63) (hdf:d.params.defaults=[])
  (hY:∀(w:World) (h:Heap),YP w h->(K w.params).In h/\∀t∈([T0]:List Addr),h.get? t=some (PySem.W.tabObj #[]))
  (hN:∀w:World,PySem.W.noTabs (K w.params)=true) (hD:([T0]:List Addr).Nodup)
  (hT0:∀w:World,FT (K w.params) "_law_great_right" T0)
  (F:∀(w:World) (mg:Str->Option Value) (fa:Addr) (h:Heap),(K w.params).In h->h.Ns mainGlobals mg->mg d.name=some (.ref fa) ->
   ∃fd:FuncData,(∀(s:Shared) (u:Value),BindsTo s fd ⟨[u],[]⟩ [("_law_script",u)])/\∀base:Heap,(K w.params).In base->base.Ns mainGlobals mg->FnOk l.prog w (K w.params) mg base CX0 7 fa fd ["_law_script"] (sp3 (K w.params) 1 zen))
  (hlaw:∀ns:List Int,ns.length<=63->∃S',zen [.ref 0] (.flst (ns.map D.int) :: ze5 ["_law_great_right"])=some (.bl true,S')) :
  PySem.W.WalkO q loose XP YP l.row.toRowW d [] (λf vs=>PySem.call f vs) :=
 zzt (n:=63) (k:=7) (x:="_law_script") (CX:=λ_=>CX0) (sp:=λw=>sp3 (K w.params) 1 zen) (ts:=[T0]) hn (by decide) hdf ⟨rfl,by decide,by decide,rfl⟩ hY (λw t ht=>by
  simp only [List.mem_cons,List.not_mem_nil,or_false] at ht
  subst ht;obtain ⟨c,_,h⟩:=hT0 w;exact ⟨c,h⟩) hN F (λw _ a ns hl hO hS=>zzu (gs:=["_law_great_right"]) hD (λi g t h1 h2=>by
  cases i with
  | zero=>cases h1;cases h2;exact hT0 w
  | succ i =>
  cases h1) rfl hO hS (hlaw ns hl)) λ_ _ _ _ _ z=>z
end G
end
theorem qg0 {α:Type}{a:α}{l:List α}:(a :: l)[0]? = some a:=rfl
theorem qg1 {α:Type}{a:α}{i:Nat}{l:List α}:(a :: l)[i+1]? = l[i]?:=rfl
theorem qs0 {α:Type}{a b:α}{l:List α}:(a :: l).set 0 b=b :: l:=rfl
theorem qs1 {α:Type}{a b:α}{n:Nat}{l:List α}:(a :: l).set (n+1) b=a :: l.set n b:=rfl
theorem qlt {α:Type}{l:List α}{i:Nat}{a:α}(h:l[i]? = some a):i<l.length:=(List.getElem?_eq_some_iff.mp h).1
namespace M
open PySem L3 G
local macro_rules
 | `(term| nofun)=>`(by first|rfl|trivial)
local macro_rules
 | `(term| ‹$x›)=>`(some (.int ($x : Int)))
local macro_rules
 | `(term| ~~~$x)=>`(some (.ref $x))
local macro_rules
 | `(tactic| dsimp! only [$xs,*])=>`(tactic| simp only [$xs,*,List.map_cons,List.map_nil,List.length_cons,List.length_nil,Nat.reduceAdd,Nat.reduceSub,List.replicate,List.cons_append,List.nil_append])
noncomputable def pen (a r:Int):List (L2.Key × D):=[(Sum.inr "cells",.ref 0),(Sum.inr "at",.int a),(Sum.inr "left",.int r)]
noncomputable def St (ns:List Int) (a r:Int) (rest:Sto):Sto:=.flst (ns.map .int) :: .tab "_law_great_right" :: .dct (pen a r) :: rest
section
variable {ns:List Int}{a r x:Int}{rest:Sto}{o:Ob}{k:Nat}{Q:D->Sto->Prop}
theorem zi9:lstOf (St ns a r rest) 0=some (ns.map .int):=rfl
theorem zq2:(St ns a r rest).length=rest.length+3:=rfl
theorem zq3:Wo (zce (.ref 2) (.str "left") (St ns a r rest)) Q=Q (.int r) (St ns a r rest):=by
 have:zce (.ref 2) (.str "left") (St ns a r rest)=some (.int r,St ns a r rest):=by with_unfolding_all rfl
 rw [this];exact zav
theorem ybq:Wo (zce (.ref 2) (.str "at") (St ns a r rest)) Q=Q (.int a) (St ns a r rest):=by
 have:zce (.ref 2) (.str "at") (St ns a r rest)=some (.int a,St ns a r rest):=by with_unfolding_all rfl
 rw [this];exact zav
theorem zja:Wo (zce (.ref 2) (.str "cells") (St ns a r rest)) Q=Q (.ref 0) (St ns a r rest):=by
 have:zce (.ref 2) (.str "cells") (St ns a r rest)=some (.ref 0,St ns a r rest):=by with_unfolding_all rfl
 rw [this];exact zav
theorem zjb:zhf (.ref 2) (.str "left") (.int x) (St ns a r rest)=some (St ns a x rest):=by with_unfolding_all rfl
theorem ybr:zhf (.ref 2) (.str "at") (.int x) (St ns a r rest)=some (St ns x r rest):=by with_unfolding_all rfl
end
noncomputable abbrev zq4:List D:=[.int 2147483647,.int 2147483629,.int 2147483587,.int 2147483579,.int 2147483563,.int 2147483549,.int 2147483543]
theorem ybs (i:Int) (h0:0<=i) (h1:i<7):∃p,L2.atI zq4 i=some (.int p)/\0<p/\p<2147483648:=by
 have:i=0\/i=1\/i=2\/i=3\/i=4\/i=5\/i=6:=by omega
 rcases this with rfl|rfl|rfl|rfl|rfl|rfl|rfl <;> exact ⟨_,rfl,by decide,by decide⟩
local macro_rules
 | `(tactic| simp! only [$xs,*])=>`(tactic| simp only [zb8,zc2,zbr,zbl,za4,zb9,zal,zaz,zbe,zbs,zhc,zcd,za0,zko,zkp,zkq,zqb,zat,zef,zas,zar,zoj,zda,zct,zhb,zkn,zdz,zkr,zfa,zgm,zhn,zhl,zhm,zho,zly,zqa,zks,zkt,zlu,zdi,zku,zkv,zd5,zi3,zok,zcu,zcv,ziq,ze0,zgk,zol,zhk,zi4,zgl,zi5,List.map_cons,List.map_nil,List.length_cons,List.length_nil,Nat.reduceAdd,Nat.reduceSub,List.replicate,List.cons_append,List.nil_append,qg0,qg1,qs0,qs1,zan,zc6,za9,zp7,zp8,zp9,zp5,zp6,zd4,decide_eq_true_eq,$xs,*])
theorem ybt (at' p m c:Int) (ha:0<=at') (hb:at' < 1000000000) (pa:0<p) (pb:p<2147483648) (hm:0<m) (hm2:m<1073741824) (l0:Lo) (S:Sto) (ns:List Int) (r:Int) (x2:Option D)
  (hp:L2.atI zq4 (at' % 7)=some (.int p)) :
  Ws (zai (zaq (eOp za2 (zaf zbk (zaa (eC (.int 2147483647)) (zaa (eC (.int 2147483629)) (zaa (eC (.int 2147483587)) (zaa (eC (.int 2147483579)) (zaa (eC (.int 2147483563)) (zaa (eC (.int 2147483549)) (zaa (eC (.int 2147483543)) (zae))))))))) (eOp zb6 (zab 3) (eC (.int 7)))) (zao 5)) (zai (zaq (eOp zb6 (eOp zdx (eOp zbf (eOp zbf (eOp zb6 (zab 4) (eC (.int 2147483497))) (eOp zdb (eC (.int 69621)) (zab 3))) (eC (.int 7))) (eC (.int 3))) (zab 5)) (zao 6)) (zai (zaq (eOp zb6 (eOp zdx (eOp zbf (eOp zdb (zab 6) (eOp zbf (zab 3) (eC (.int 3)))) (eC (.int 11))) (eC (.int 5))) (eC (.int 2147483489))) (zao 6)) (zay (eOp zb6 (eOp zfq (zab 6) (eC (.int 13))) (zab 1))))))
   [~~~2,some (.int m),x2,some (.int at'),some (.int c),none,none] S λf _ S'=>∃d,f=.rt (.int d)/\0<=d/\d<m/\S' = S:=by
 have q1:0<=c % 2147483497:=Int.emod_nonneg _ (by omega)
 have q2:c % 2147483497<2147483497:=Int.emod_lt_of_pos _ (by omega)
 refine za6 (λl S'=>l=[~~~2,some (.int m),x2,some (.int at'),some (.int c),some (.int p),none]/\S' = S) ?_ ?_
 ·have sz:7<=sizeLine:=by decide
  have f7:(0:Int)<7:=by decide
  simp! only [f7,sz,hp,true_and,and_self]
 rintro l S' ⟨rfl,rfl⟩
 refine za6 (λl S1=>∃n,l=[~~~2,some (.int m),x2,some (.int at'),some (.int c),some (.int p),some (.int n)]/\0<=n/\n<p/\S1=S') ?_ ?_
 ·have f0:(0:Int)<2147483497:=by decide
  have f1:(-2 ^ 64:Int)<69621/\(69621:Int)<2 ^ 64:=by decide
  have f2:(0:Int)<=3/\(3:Int)<=1000000/\(c % 2147483497+69621*at' + 7).natAbs<2 ^ 64:=⟨by decide,by decide,by omega⟩
  simp! only [f0,f1,f2,pa,true_and,and_self,true_or]
  exact ⟨_,rfl,Int.emod_nonneg _ (by omega),Int.emod_lt_of_pos _ pa,by first|rfl|trivial⟩
 rintro l S1 ⟨n,rfl,n0,n1,rfl⟩
 refine za6 (λl S2=>∃k,l=[~~~2,some (.int m),x2,some (.int at'),some (.int c),some (.int p),some (.int k)]/\S2=S1) ?_ ?_
 ·have f0:(0:Int)<2147483489:=by decide
  have f1:(-2 ^ 64:Int)<n/\n<2 ^ 64:=by omega
  have hmul:n*(at' + 3)<=2147483648*1000000003:=Int.mul_le_mul (by omega) (by omega) (by omega) (by omega)
  have hpos:0<=n*(at' + 3):=Int.mul_nonneg n0 (by omega)
  have f2:(0:Int)<=5/\(5:Int)<=1000000/\(n*(at' + 3)+11).natAbs<2 ^ 64:=⟨by decide,by decide,by omega⟩
  simp! only [f0,f1,f2,true_and,and_self,true_or]
  exact ⟨_,rfl,by first|rfl|trivial⟩
 rintro l S2 ⟨k,rfl,rfl⟩
 have f6:(0:Int)<13/\(13:Int)<1073741824:=by decide
 simp! only [f6,hm,true_and,and_self]
 exact ⟨_,rfl,Int.emod_nonneg _ (by omega),Int.emod_lt_of_pos _ hm,by first|rfl|trivial⟩
theorem ybu (ns:List Int) (at' r m:Int) (rest:Sto) (ha:0<=at') (hb:at' < 1000000000) (hr:0<=r) (hm:0<m) (hm2:m<1073741824) :
  Wo (zbm [.ref 2,.int m] (St ns at' r rest)) λv S=>∃d at2 r2,v=.int d/\0<=d/\d<m/\S=St ns at2 r2 rest/\0<=at2/\at2<=at' + 1/\0<=r2:=by
 obtain ⟨p,hp,pa,pb⟩:=ybs (at' % 7) (by omega) (by omega)
 unfold zbm zqp
 dsimp! only [zb8]
 rw [zc2]
 by_cases hr0:0<r
 ·simp! only [zq3,zjb,hr0,hm,hm2,if_true,true_and,and_self]
  exact ⟨_,at',r / m,rfl,Int.emod_nonneg _ (by omega),Int.emod_lt_of_pos _ hm,rfl,ha,by omega,Int.ediv_nonneg hr (by omega)⟩
 have r0:r=0:=by omega
 subst r0
 simp only [zbr,zbl,za4,zal,zaz,zq3,zdz,zan,za9,qg0,hr0,decide_false,qbf,if_false,zcd]
 refine za6 (λl S=>l=[~~~2,some (.int m),none,some (.int at'),none,none,none]/\S=St ns at' 0 rest) (by simp! only [ybq,and_self]) ?_
 rintro l S ⟨rfl,rfl⟩
 refine za6 (λl S=>l=[~~~2,some (.int m),none,some (.int at'),none,none,none]/\S=St ns (at' + 1) 0 rest) (by simp! only [ybr,and_self]) ?_
 rintro l S ⟨rfl,rfl⟩
 refine za6 (λl S=>∃c,l=[~~~2,some (.int m),none,some (.int at'),some (.int c),none,none]/\S=St ns (at' + 1) 0 rest) ?_ ?_
 ·have f1:(-2 ^ 64:Int)<977/\(977:Int)<2 ^ 64:=by decide
  have f2:(-2 ^ 64:Int)<at'/\at' < 2 ^ 64:=by omega
  simp! only [f1,f2,true_and,and_self,true_or,or_true]
  exact ⟨_,rfl,by first|rfl|trivial⟩
 rintro l S ⟨c,rfl,rfl⟩
 rw [zc2]
 have fin:∀c',Ws (zai (zaq (eOp za2 (zaf zbk (zaa (eC (.int 2147483647)) (zaa (eC (.int 2147483629)) (zaa (eC (.int 2147483587)) (zaa (eC (.int 2147483579)) (zaa (eC (.int 2147483563)) (zaa (eC (.int 2147483549)) (zaa (eC (.int 2147483543)) (zae))))))))) (eOp zb6 (zab 3) (eC (.int 7)))) (zao 5)) (zai (zaq (eOp zb6 (eOp zdx (eOp zbf (eOp zbf (eOp zb6 (zab 4) (eC (.int 2147483497))) (eOp zdb (eC (.int 69621)) (zab 3))) (eC (.int 7))) (eC (.int 3))) (zab 5)) (zao 6)) (zai (zaq (eOp zb6 (eOp zdx (eOp zbf (eOp zdb (zab 6) (eOp zbf (zab 3) (eC (.int 3)))) (eC (.int 11))) (eC (.int 5))) (eC (.int 2147483489))) (zao 6)) (zay (eOp zb6 (eOp zfq (zab 6) (eC (.int 13))) (zab 1))))))
   [~~~2,some (.int m),none,some (.int at'),some (.int c'),none,none] (St ns (at' + 1) 0 rest) λf x S'=>match f with
    | .rt d=>∃d1 at2 r2,d=.int d1/\0<=d1/\d1<m/\S' = St ns at2 r2 rest/\0<=at2/\at2<=at' + 1/\0<=r2
    | .nx=>∃d1 at2 r2,D.non=.int d1/\0<=d1/\d1<m/\S' = St ns at2 r2 rest/\0<=at2/\at2<=at' + 1/\0<=r2
    | _=>False:=λc'=>(ybt at' p m c' ha hb pa pb hm hm2 [] _ ns 0 none hp).mono (by
  rintro f l S ⟨d,rfl,d0,d1,rfl⟩
  exact ⟨d,at' + 1,0,rfl,d0,d1,rfl,by omega,by omega,by omega⟩)
 refine Wr.mono (Q:=λf l1 S1=>(f=.nx/\∃c',l1=[~~~2,some (.int m),none,some (.int at'),some (.int c'),none,none]/\S1=St ns (at' + 1) 0 rest)\/∃d1 at2 r2,f=.rt (.int d1)/\0<=d1/\d1<m/\S1=St ns at2 r2 rest/\0<=at2/\at2<=at' + 1/\0<=r2) ?_ ?_
 ·by_cases hl:0<(ns.length:Int)
  ·obtain ⟨x,h1,h2⟩:=zgj (ns.map D.int) (at' % (ns.length:Int)) (Int.emod_nonneg _ (by omega)) (by rw [qlm];exact Int.emod_lt_of_pos _ hl)
   obtain ⟨c2,_,rfl⟩:=List.mem_map.mp h2
   have f5:(0:Int)<=18/\(18:Int)<=1000000/\Int.natAbs 10<2 ^ 64:=by decide
   by_cases hbig:at' < (ns.length:Int)
   ·by_cases hc:10 ^ Int.toNat 18<=(if c2<0 then -c2 else c2)
    ·simp! only [zja,zi9,zjb,hl,h1,hbig,hc,qlm,hm,hm2,if_true,if_false,true_and,and_self,f5]
     exact .inr ⟨_,at' + 1,_,rfl,Int.emod_nonneg _ (by omega),Int.emod_lt_of_pos _ hm,rfl,by omega,by omega,Int.ediv_nonneg (by split <;> omega) (by omega)⟩
    ·simp! only [zja,zi9,zjb,hl,h1,hbig,hc,qlm,hm,hm2,if_true,if_false,true_and,and_self,f5]
     exact .inl ⟨_,rfl,nofun⟩
   ·simp! only [zja,zi9,zjb,hl,h1,hbig,qlm,hm,hm2,if_true,if_false,true_and,and_self,f5,decide_false,qbf]
    exact .inl ⟨_,rfl,nofun⟩
  ·simp! only [zja,zi9,hl,qlm,if_true,if_false,true_and,and_self,decide_false,qbf]
   exact .inl ⟨_,rfl,nofun⟩
 ·rintro f l S (⟨rfl,c',rfl,rfl⟩|⟨d1,at2,r2,rfl,d0,d1,rfl,q1,q2,q3⟩)
  ·exact fin c'
  ·exact ⟨_,at2,r2,rfl,d0,d1,rfl,q1,q2,q3⟩
def Pn (ns:List Int) (k:Int) (S:Sto):Prop:=∃at2 r2 rest,S=St ns at2 r2 rest/\0<=at2/\at2<=k/\0<=r2
def Fr (S S':Sto):Prop:=∀(n:Nat) (o:Ob),n≠2->S[n]? = some o->S'[n]? = some o
theorem Fr.trans {A B C:Sto}(h:Fr A B) (g:Fr B C):Fr A C:=λn o hn e=>g n o hn (h n o hn e)
theorem Fr.lst {A B:Sto}{n:Nat}{xs:List D}(h:Fr A B) (hn:n≠2) (e:lstOf A n=some xs):lstOf B n=some xs:=by
 unfold lstOf at e ⊢
 cases q:A[n]? with
 | none=>rw [q] at e;cases e
 | some o=>rw [h n o hn q];rw [q] at e;exact e
theorem zcf (ns:List Int) (S:Sto) (k m:Int) (h:Pn ns k S) (hk:k<1000000000) (hm:0<m) (hm2:m<1073741824) :
  Wo (zbm [.ref 2,.int m] S) λv S'=>(∃d:Nat,v=.int d/\(d:Int)<m)/\Pn ns (k+1) S'/\Fr S S':=by
 obtain ⟨a,r,rest,rfl,h1,h2,h3⟩:=h
 refine (ybu ns a r m rest h1 (by omega) h3 hm hm2).mono ?_
 rintro v S' ⟨d,a2,r2,rfl,q1,q2,rfl,q3,q4,q5⟩
 refine ⟨⟨d.toNat,by rw [Int.toNat_of_nonneg q1],by omega⟩,⟨a2,r2,rest,rfl,q3,by omega,q5⟩,λn o hn e=>?_⟩
 match n,hn with
 | 0,_=>exact e
 | 1,_=>exact e
 | n+3,_=>exact e
theorem Pn.mono {ns:List Int}{k k':Int}{S:Sto}(h:Pn ns k S) (hk:k<=k'):Pn ns k' S:=by
 obtain ⟨a,r,ex,e,h1,h2,h3⟩:=h
 exact ⟨a,r,ex,e,h1,by omega,h3⟩
theorem Pn.gr {ns:List Int}{k:Int}{S S':Sto}(h:Pn ns k S) (g:Gr S S'):Pn ns k S':=by
 obtain ⟨a,r,rest,rfl,h1,h2,h3⟩:=h
 obtain ⟨ex',rfl⟩:=g
 exact ⟨a,r,rest++ex',rfl,h1,h2,h3⟩
theorem Pn.push {ns:List Int}{k:Int}{S:Sto}(h:Pn ns k S) (o:Ob):Pn ns k (S++[o]):=h.gr ⟨[o],rfl⟩
theorem Pn.len {ns:List Int}{k:Int}{S:Sto}(h:Pn ns k S):S.length≠2:=by
 obtain ⟨a,r,rest,rfl,h1,h2,h3⟩:=h
 rw [zq2];omega
theorem Pn.kept {ns:List Int}{k:Int}{S S':Sto}{xs:List D}(h:Pn ns k S) (f:Fr (S++[.lst xs]) S'):lstOf S' S.length=some xs:=f.lst h.len zd4
theorem ybv (ns:List Int):Wo (zhx [.ref 0] (.flst (ns.map D.int) :: ze5 ["_law_great_right"])) λv S=>v=.ref 2/\Pn ns 0 S:=by
 unfold zhx zqx
 simp only [zb8,List.map_cons,List.map_nil,List.length_cons,List.length_nil,Nat.reduceAdd,Nat.reduceSub,List.replicate,List.cons_append,List.nil_append,zbs]
 exact ⟨_,_,rfl,rfl,0,0,[],rfl,by decide,by decide,by decide⟩
theorem ybw {e:EM}{l:Lo}{S S1:Sto}{v:Nat}(h:e l S=some (.int (v:Int),S1)) (hv:v<=1000000):eOp zdc (eC (.int 1)) e l S=some (.int ((2 ^ v:Nat):Int),S1):=by
 unfold eOp eC;simp only [Option.bind_some];rw [h];simp only [Option.bind_some]
 unfold zdc oI
 have:decide ((0:Int)<=v/\(v:Int)<=1000000/\Int.natAbs 1<2 ^ 64)=true:=decide_eq_true ⟨by omega,by omega,by decide⟩
 simp only [this,if_true,Int.one_mul,Int.toNat_natCast]
 push_cast;rfl
theorem as1 {e:EM}{l:Lo}{S S1:Sto}{x:D}(h:e l S=some (x,S1)):zaa e zae l S=some ([x],S1):=by
 unfold zaa;rw [h];rfl
theorem zl2 {v:Nat}{S:Sto}{Q:D->Sto->Prop}(hv:v<=1000000):Wo (zdc (.int 1) (.int v) S) Q=Q (.int ((2 ^ v:Nat):Int)) S:=by
 have:decide ((0:Int)<=v/\(v:Int)<=1000000/\Int.natAbs 1<2 ^ 64)=true:=decide_eq_true ⟨by omega,by omega,by decide⟩
 unfold zdc
 rw [zkr]
 simp only [this,true_and,Int.one_mul,Int.toNat_natCast]
 push_cast;rfl
noncomputable def zaw (ps:List Nat):List D:=ps.map λ(p:Nat)=>D.int (p:Int)
theorem zq5 {ps:List Nat}{x:D}(h:x∈zaw ps):∃p∈ps,x=.int (p:Nat):=by
 obtain ⟨z,hz,rfl⟩:=List.mem_map.mp h;exact ⟨z,hz,rfl⟩
theorem zdt (ps:List Nat):(zaw ps).length=ps.length:=by simp [zaw]
theorem Pn.set {ns:List Int}{k:Int}{S:Sto}{n:Nat}{o:Ob}(h:Pn ns k S) (hn:3<=n):Pn ns k (S.set n o):=by
 obtain ⟨a,r,rest,rfl,h1,h2,h3⟩:=h
 obtain ⟨m,rfl⟩:∃m,n=m+3:=⟨n-3,by omega⟩
 exact ⟨a,r,rest.set m o,rfl,h1,h2,h3⟩
theorem Pn.two {ns:List Int}{k:Int}{S:Sto}(h:Pn ns k S):3<=S.length:=by
 obtain ⟨a,r,rest,rfl,h1,h2,h3⟩:=h
 rw [zq2];omega
theorem zl3 {S:Sto}{n:Nat}{o o':Ob}(h:S[n]? = some o'):(S.set n o)[n]? = some o:=List.getElem?_set_self (qme h).1
theorem ybx (ps:List Nat) (p:Nat):zaw ps++[.int p]=zaw (ps++[p]):=by unfold zaw;rw [List.map_append];rfl
theorem zcy {S:Sto}{n:Nat}{xs:List D}(h:S[n]? = some (.lst xs)):lstOf S n=some xs:=by unfold lstOf;rw [h]
abbrev Cl:=Option Nat × Option Nat
noncomputable def oD:Option Nat->D
 | none=>.non
 | some n=>.int (n:Int)
noncomputable def cD (c:Cl):D:=.tup [oD c.1,oD c.2]
noncomputable def rD (cs:List Cl):D:=.tup (cs.map cD)
noncomputable def mD (asks:Nat) (rs:List (List Cl)):D:=.tup [.int (asks:Int),.tup (rs.map rD)]
structure OkC (m:Nat) (c:Cl):Prop where
 go:∀g,c.1=some g->g<m
 sa:∀s,c.2=some s->s<8
structure OkM (asks:Nat) (rs:List (List Cl)):Prop where
 a1:1<=asks
 a4:asks<=4
 r1:1<=rs.length
 r24:rs.length<=24
 len:∀cs∈rs,cs.length=asks
 ok:∀cs∈rs,∀c∈cs,OkC rs.length c
theorem yby (i:Nat) (hi:(i:Int)<4):∃m:Nat,L2.atI [D.int 0,.int 1,.int 4,.int 7] (i:Int)=some (.int m):=by
 have:i=0\/i=1\/i=2\/i=3:=by omega
 rcases this with rfl|rfl|rfl|rfl
 ·exact ⟨0,rfl⟩
 ·exact ⟨1,rfl⟩
 ·exact ⟨4,rfl⟩
 ·exact ⟨7,rfl⟩
theorem ybz (i:Nat) (hi:(i:Int)<4):∃m:Nat,L2.atI [D.int 2,.int 3,.int 8,.int 8] (i:Int)=some (.int m)/\1<=m/\m<=8:=by
 have:i=0\/i=1\/i=2\/i=3:=by omega
 rcases this with rfl|rfl|rfl|rfl
 ·exact ⟨2,rfl,by decide,by decide⟩
 ·exact ⟨3,rfl,by decide,by decide⟩
 ·exact ⟨8,rfl,by decide,by decide⟩
 ·exact ⟨8,rfl,by decide,by decide⟩
theorem yb0 (ns:List Int) (S:Sto) (k:Int) (rooms asks:Nat) (h:Pn ns k S) (hk:k<1000) (hr1:1<=rooms) (hr24:rooms<=24) (ha1:1<=asks) (ha4:asks<=4):Wo (zhw [.ref 2,.int rooms,.int asks] S) λv S'=>∃rs,v=mD asks rs/\OkM asks rs/\rs.length=rooms/\Pn ns (k+400) S':=by
 have sz0:0<=sizeLine:=by decide
 have sz2:2<=sizeLine:=by decide
 have sz4:4<=sizeLine:=by decide
 have big:1000<=sizeLine:=by decide
 unfold zhw zqw
 dsimp! only [zb8]
 refine za6 (λl S'=>Pn ns (k+1) S'/\∃share:Nat,l=[~~~2,some (.int rooms),some (.int asks),some (.int share),none,none,none,none,none,none,none]) ?_ ?_
 ·simp only [zbe,za4,zat,zas,zar,zal,zaz,qg0,qg1,zan,zcv,List.length_cons,List.length_nil,Nat.reduceAdd,sz4,true_and]
  refine (zcf ns _ _ 4 (h.push _) (by omega) (by decide) (by decide)).mono ?_
  rintro x S2 ⟨⟨d,rfl,hd⟩,p,f⟩
  obtain ⟨m,hm⟩:=yby d hd
  have hl:=h.kept f
  simp only [zdi,hl,zc6,hm,za0,qs0,qs1]
  first|exact ⟨nofun,p,m,rfl⟩|exact ⟨p,m,rfl⟩
 rintro l S1 ⟨p1,share,rfl⟩
 refine za6 (λl S'=>Pn ns (k+2) S'/\∃most:Nat,1<=most/\most<=8/\l=[~~~2,some (.int rooms),some (.int asks),some (.int share),some (.int most),none,none,none,none,none,none]) ?_ ?_
 ·simp only [zbe,za4,zat,zas,zar,zal,zaz,qg0,qg1,zan,zcv,List.length_cons,List.length_nil,Nat.reduceAdd,sz4,true_and]
  refine (zcf ns _ _ 4 (p1.push _) (by omega) (by decide) (by decide)).mono ?_
  rintro x S2 ⟨⟨d,rfl,hd⟩,p,f⟩
  obtain ⟨m,hm,hm1,hm2⟩:=ybz d hd
  have hl:=p1.kept f
  simp only [zdi,hl,zc6,hm,za0,qs0,qs1]
  first|exact ⟨nofun,p.mono (by omega),m,hm1,hm2,rfl⟩|exact ⟨p.mono (by omega),m,hm1,hm2,rfl⟩
 rintro l S2 ⟨p2,most,mo1,mo8,rfl⟩
 refine za6 (λl S'=>Pn ns (k+2) S'/\∃r,3<=r/\S'[r]? = some (.lst [])/\l=[~~~2,some (.int rooms),some (.int asks),some (.int share),some (.int most),~~~r,none,none,none,none,none]) ?_ ?_
 ·simp! only [sz0,true_and]
  first|exact ⟨nofun,p2.push _,_,p2.two,za5 _ _,rfl⟩|exact ⟨p2.push _,_,p2.two,za5 _ _,rfl⟩
 rintro l S3 ⟨p3,r,hr,h3,rfl⟩
 rw [zc2]
 refine zi6 (n:=rooms) (λi l S'=>Pn ns (k+2+16*i) S'/\∃rs:List (List Cl),rs.length=i/\(∀cs∈rs,cs.length=asks/\∀c∈cs,OkC rooms c)/\S'[r]? = some (.lst (rs.map rD))/\∃y6 y7 y8 y9 y10,l=[~~~2,some (.int rooms),some (.int asks),some (.int share),some (.int most),~~~r,y6,y7,y8,y9,y10]) (λ_ _=>False) (as1 rfl) (by omega) ⟨by simpa using p3,[],rfl,(λcs z=>by cases z),h3,_,_,_,_,_,rfl⟩ ?_ ?_ (λd l S h=>h.elim)
 ·rintro i l S4 hi ⟨p4,rs,hl4,ok4,h4,y6,y7,y8,y9,y10,rfl⟩
  simp only [za0,qs0,qs1]
  have hrl:=(qme h4).1
  refine za6 (λl S'=>Pn ns (k+2+16*i) S'/\∃q,r<q/\S'[q]? = some (.lst [])/\S'[r]? = some (.lst (rs.map rD))/\l=[~~~2,some (.int rooms),some (.int asks),some (.int share),some (.int most),~~~r,some (.int i),~~~q,y8,y9,y10]) ?_ ?_
  ·simp! only [sz0,true_and]
   first|exact ⟨nofun,p4.push _,_,hrl,za5 _ _,Gr.get ⟨_,rfl⟩ h4,rfl⟩|exact ⟨p4.push _,_,hrl,za5 _ _,Gr.get ⟨_,rfl⟩ h4,rfl⟩
  rintro l S5 ⟨p5,q,hq,h5,h5r,rfl⟩
  rw [zc2]
  refine zi6 (n:=asks) (λj l S'=>Pn ns (k+2+16*i+4*j) S'/\∃cs:List Cl,cs.length=j/\(∀c∈cs,OkC rooms c)/\S'[q]? = some (.lst (cs.map cD))/\S'[r]? = some (.lst (rs.map rD))/\∃y8 y9 y10,l=[~~~2,some (.int rooms),some (.int asks),some (.int share),some (.int most),~~~r,some (.int i),~~~q,y8,y9,y10]) (λ_ _=>False) (as1 rfl) (by omega) ⟨by simpa using p5,[],rfl,(λcs z=>by cases z),h5,h5r,_,_,_,rfl⟩ ?_ ?_ (λd l S h=>h.elim)
  ·rintro j l S6 hj ⟨p6,cs,hl6,ok6,h6,h6r,y8,y9,y10,rfl⟩
   simp only [za0,qs0,qs1]
   refine za6 (λl S'=>Pn ns (k+2+16*i+4*j+1) S'/\Fr S6 S'/\∃g:Nat,g<rooms/\l=[~~~2,some (.int rooms),some (.int asks),some (.int share),some (.int most),~~~r,some (.int i),~~~q,some (.int j),some (.int g),y10]) ?_ ?_
   ·simp only [zbe,zat,zas,zar,zal,qg0,qg1,zan]
    refine (zcf ns _ _ (rooms:Int) p6 (by omega) (by omega) (by omega)).mono ?_
    rintro u S7 ⟨⟨g,rfl,hg⟩,p7,f7⟩
    simp only [za0,qs0,qs1]
    first|exact ⟨nofun,p7,f7,g,by omega,rfl⟩|exact ⟨p7,f7,g,by omega,rfl⟩
   rintro l S7 ⟨p7,f7,g,hg,rfl⟩
   refine za6 (λl S'=>Pn ns (k+2+16*i+4*j+2) S'/\Fr S6 S'/\∃s:Nat,s<8/\l=[~~~2,some (.int rooms),some (.int asks),some (.int share),some (.int most),~~~r,some (.int i),~~~q,some (.int j),some (.int g),some (.int s)]) ?_ ?_
   ·simp only [zbe,zat,zas,zar,zal,qg0,qg1,zan]
    refine (zcf ns _ _ (most:Int) p7 (by omega) (by omega) (by omega)).mono ?_
    rintro u S8 ⟨⟨s,rfl,hs⟩,p8,f8⟩
    simp only [za0,qs0,qs1]
    first|exact ⟨nofun,p8.mono (by omega),f7.trans f8,s,by omega,rfl⟩|exact ⟨p8.mono (by omega),f7.trans f8,s,by omega,rfl⟩
   rintro l S8 ⟨p8,f8,s,hs,rfl⟩
   refine za6 (λl S'=>Pn ns (k+2+16*i+4*j+3) S'/\Fr S6 S'/\∃o:Option Nat,(∀g,o=some g->g<rooms)/\l=[~~~2,some (.int rooms),some (.int asks),some (.int share),some (.int most),~~~r,some (.int i),~~~q,some (.int j),some (oD o),some (.int s)]) ?_ ?_
   ·simp only [zbr,zbl,za4,zat,zas,zar,zal,zaz,qg0,qg1,zan]
    refine (zcf ns _ _ 8 p8 (by omega) (by decide) (by decide)).mono ?_
    rintro u S9 ⟨⟨d,rfl,hd⟩,p9,f9⟩
    simp only [zdz,za9]
    cases decide ((d:Int)<(share:Int)) with
    | true =>
     simp only [if_true,zbe,zaz,za0,qs0,qs1]
     first|exact ⟨nofun,p9.mono (by omega),f8.trans f9,none,(λg z=>by cases z),rfl⟩|exact ⟨p9.mono (by omega),f8.trans f9,none,(λg z=>by cases z),rfl⟩
    | false =>
     simp only [qbf,if_false,zcd]
     first|exact ⟨nofun,p9.mono (by omega),f8.trans f9,some g,(λg' z=>by cases z;exact hg),rfl⟩|exact ⟨p9.mono (by omega),f8.trans f9,some g,(λg' z=>by cases z;exact hg),rfl⟩
   rintro l S9 ⟨p9,f9,o,ho,rfl⟩
   refine za6 (λl S'=>Pn ns (k+2+16*i+4*j+4) S'/\Fr S6 S'/\∃o2:Option Nat,(∀g,o2=some g->g<8)/\l=[~~~2,some (.int rooms),some (.int asks),some (.int share),some (.int most),~~~r,some (.int i),~~~q,some (.int j),some (oD o),some (oD o2)]) ?_ ?_
   ·simp only [zbr,zbl,za4,zat,zas,zar,zal,zaz,qg0,qg1,zan]
    refine (zcf ns _ _ 8 p9 (by omega) (by decide) (by decide)).mono ?_
    rintro u S10 ⟨⟨d,rfl,hd⟩,p10,f10⟩
    simp only [zdz,za9]
    cases decide ((d:Int)<(share:Int)) with
    | true =>
     simp only [if_true,zbe,zaz,za0,qs0,qs1]
     first|exact ⟨nofun,p10.mono (by omega),f9.trans f10,none,(λg z=>by cases z),rfl⟩|exact ⟨p10.mono (by omega),f9.trans f10,none,(λg z=>by cases z),rfl⟩
    | false =>
     simp only [qbf,if_false,zcd]
     first|exact ⟨nofun,p10.mono (by omega),f9.trans f10,some s,(λg' z=>by cases z;exact hs),rfl⟩|exact ⟨p10.mono (by omega),f9.trans f10,some s,(λg' z=>by cases z;exact hs),rfl⟩
   rintro l S10 ⟨p10,f10,o2,ho2,rfl⟩
   have q10:=f10 q _ (by omega) h6
   have r10:=f10 r _ (by omega) h6r
   simp only [zhc,zef,zat,zal,zas,zar,qg0,qg1,zan,zcu,List.length_cons,List.length_nil,Nat.reduceAdd,sz2,true_and,zkw]
   refine ⟨⟨_,show zdg (.ref q) S10=some _ from zcy q10⟩,_,q10,by rw [qlm];omega,.inl ⟨(by first|exact .inl rfl|exact .inl trivial|trivial),(p10.set (by omega)).mono (by push_cast;omega),cs++[(o,o2)],by simp [hl6],λc hc=>?_,?_,?_,_,_,_,rfl⟩⟩
   ·rcases List.mem_append.mp hc with z|z
    ·exact ok6 c z
    ·rw [List.mem_singleton.mp z];exact ⟨ho,ho2⟩
   ·rw [zl3 q10,List.map_append];rfl
   ·rw [List.getElem?_set_ne (by omega)];exact r10
  ·rintro l S6 ⟨p6,cs,hl6,ok6,h6,h6r,y8,y9,y10,rfl⟩
   simp only [zhc,zef,zat,zal,zas,zar,qg0,qg1,zan,zc6,ziq,zcy h6,zkw]
   refine ⟨⟨_,show zdg (.ref r) S6=some _ from zcy h6r⟩,_,h6r,by rw [qlm];omega,.inl ⟨(by first|exact .inl rfl|exact .inl trivial|trivial),(p6.set hr).mono (by push_cast;omega),rs++[cs],by simp [hl4],λc hc=>?_,?_,_,_,_,_,_,rfl⟩⟩
   ·rcases List.mem_append.mp hc with z|z
    ·exact ok4 c z
    ·rw [List.mem_singleton.mp z];exact ⟨hl6,ok6⟩
   ·rw [zl3 h6r,List.map_append];rfl
 ·rintro l S4 ⟨p4,rs,hl4,ok4,h4,y6,y7,y8,y9,y10,rfl⟩
  simp! only [zcy h4,sz2,true_and]
  subst hl4
  exact ⟨rs,nofun,⟨ha1,ha4,hr1,hr24,λcs hc=>(ok4 cs hc).1,λcs hc=>(ok4 cs hc).2⟩,nofun,p4.mono (by omega)⟩
open PyProof.Rows
theorem yb1 {f g:D->D->Sto->Option (D × Sto)}{a b c:EM}{l:Lo}{S:Sto}{Q:D->Sto->Prop}:We (zfk f g a b c) l S Q=We a l S λx S1=>We b l S1 λy S2=>Wo (f x y S2) λr S3=>∃k,r=.bl k/\if k=true then We c l S3 λz S4=>Wo (g y z S4) Q else Q (.bl false) S3:=by
 apply propext
 constructor
 ·rintro ⟨v,S',h,q⟩
  obtain ⟨⟨x,S1⟩,h1,h⟩:=bnd h
  obtain ⟨⟨y,S2⟩,h2,h⟩:=bnd h
  obtain ⟨⟨r,S3⟩,h3,h⟩:=bnd h
  refine ⟨x,S1,h1,y,S2,h2,r,S3,h3,?_⟩
  cases r with
  | bl k =>
   cases k with
   | true =>
    obtain ⟨⟨z,S4⟩,h4,h⟩:=bnd h
    exact ⟨true,rfl,z,S4,h4,v,S',h,q⟩
   | false=>cases h;exact ⟨false,rfl,q⟩
  | _=>cases h
 ·rintro ⟨x,S1,h1,y,S2,h2,r,S3,h3,k,rfl,h⟩
  cases k with
  | true =>
   obtain ⟨z,S4,h4,v,S',h,q⟩:=h
   refine ⟨v,S',?_,q⟩
   unfold zfk;rw [h1];show (b l S1).bind _=_;rw [h2];show (f x y S2).bind _=_;rw [h3];show (c l S3).bind _=_;rw [h4];exact h
  | false =>
   refine ⟨_,_,?_,h⟩
   unfold zfk;rw [h1];show (b l S1).bind _=_;rw [h2];show (f x y S2).bind _=_;rw [h3];rfl
theorem zq6:isI "int" "bool" = false:=by decide
theorem zhy {U:String}{x:D}{S:Sto}{Q:D->Sto->Prop}:Wo (zb2 U x S) Q = ∃T,tyD S x=some T/\Q (.bl (isI T U)) S:=by
 show Wo ((tyD S x).bind λT=>some (.bl (isI T U),S)) Q=_
 rw [zeg];simp only [zav]
noncomputable def zbq (n:Int):D->Bool
 | .int i=>decide (0<=i) && decide (i<n)
 | _=>false
theorem yb2 {S:Sto}{d:D}{T:String}(n:Int) (h:tyD S d=some T):zde [d,.int n] S=some (.bl (zbq n d),S):=by
 have key:∀{U:String},T=U->isI U "int" = false->zbq n d=false->zde [d,.int n] S=some (.bl (zbq n d),S):=λ{U} e1 e2 e3=>by
  subst e1
  have:Wo (zde [d,.int n] S) λv S'=>v=.bl false/\S' = S:=by
   unfold zde zi8
   simp only [zb8,List.map_cons,List.map_nil,List.length_cons,List.length_nil,Nat.reduceAdd,Nat.reduceSub,List.replicate,List.cons_append,List.nil_append,zbs,zhb,zb9,zal,qg0,zan,zhy,h]
   refine ⟨_,rfl,?_⟩
   simp only [e2,za9,qbf,if_false]
   all_goals first|trivial|exact ⟨nofun,nofun⟩
  obtain ⟨v,S',e,rfl,rfl⟩:=this
  rw [e3];exact e
 cases d with
 | non=>cases h;exact key rfl (by decide) rfl
 | str z=>cases h;exact key rfl (by decide) rfl
 | tup xs=>cases h;exact key rfl (by decide) rfl
 | fn a=>cases h
 | ref k =>
  unfold tyD at h
  dsimp only at h
  split at h
  ·cases h;exact key rfl (by decide) rfl
  ·cases h;exact key rfl (by decide) rfl
  ·cases h
 | bl b =>
  cases h
  have e1:isI "bool" "int" = true:=by decide
  have:Wo (zde [.bl b,.int n] S) λv S'=>v=.bl false/\S' = S:=by
   unfold zde zi8
   simp only [zb8,List.map_cons,List.map_nil,List.length_cons,List.length_nil,Nat.reduceAdd,Nat.reduceSub,List.replicate,List.cons_append,List.nil_append,zbs,zhb,zb9,zkn,zal,qg0,zan,zhk,zi5,e1,za9,if_true,Bool.not_true,qbf,if_false]
   all_goals first|trivial|exact ⟨nofun,nofun⟩
  obtain ⟨v,S',e,rfl,rfl⟩:=this
  exact e
 | int i =>
  have:Wo (zde [.int i,.int n] S) λv S'=>v=.bl (decide (0<=i) && decide (i<n))/\S' = S:=by
   unfold zde zi8
   simp! only [zi4,zi5,zq6,yb1,if_true,Bool.not_false]
   by_cases h0:0<=i
   ·simp only [h0,decide_true,if_true,Bool.true_and,zb8,zc2,zbr,zbl,za4,zb9,zal,zaz,zbe,zbs,zhc,zcd,za0,zko,zkp,zkq,zqb,zat,zef,zas,zar,zoj,zda,zct,zhb,zkn,zdz,zkr,zfa,zgm,zhn,zhl,zhm,zho,zly,zqa,zks,zkt,zlu,zdi,zku,zkv,zd5,zi3,zok,zcu,zcv,ziq,ze0,zgk,zol,zhk,zi4,zgl,zi5,List.map_cons,List.map_nil,List.length_cons,List.length_nil,Nat.reduceAdd,Nat.reduceSub,List.replicate,List.cons_append,List.nil_append,qg0,qg1,qs0,qs1,zan,zc6,za9,zp7,zp8,zp9,zp5,zp6,zd4,decide_eq_true_eq]
    all_goals first|trivial|exact ⟨nofun,nofun⟩
   ·simp only [h0,decide_false,qbf,if_false,Bool.false_and]
    all_goals first|trivial|exact ⟨nofun,nofun⟩
  obtain ⟨v,S',e,rfl,rfl⟩:=this
  exact e
def Ty (S:Sto) (d:D):Prop:=∃T,tyD S d=some T
theorem Ty.gr {S S':Sto}{d:D}(h:Ty S d) (g:Gr S S'):Ty S' d:=by
 obtain ⟨T,h⟩:=h
 cases d with
 | ref k =>
  unfold tyD at h
  dsimp only at h
  split at h
  ·rename_i e;exact ⟨_,by unfold tyD;dsimp only;rw [g.get e]⟩
  ·rename_i e;exact ⟨_,by unfold tyD;dsimp only;rw [g.get e]⟩
  ·cases h
 | fn a=>cases h
 | non=>exact ⟨_,rfl⟩
 | bl b=>exact ⟨_,rfl⟩
 | int i=>exact ⟨_,rfl⟩
 | str z=>exact ⟨_,rfl⟩
 | tup xs=>exact ⟨_,rfl⟩
noncomputable def zbt (n B:Nat):D->Bool
 | .tup ds=>decide (ds.length=n) && (ds.all (zbq B) && decide ((ds.map zbb).Nodup))
 | _=>false
theorem zfe (n B:Nat) (ds:List D):zbt n B (.tup ds)=(decide (ds.length=n) && (ds.all (zbq B) && decide ((ds.map zbb).Nodup))):=rfl
def Tys (S:Sto):D->Prop
 | .tup ds=>∀d∈ds,Ty S d
 | d=>Ty S d
theorem zl4 {n:Int}:∀{ds:List D},ds.all (zbq n)=true->zdo ds=some (ds.map zbb)
 | [],_=>rfl
 | d :: ds,h=>by
  rw [List.all_cons,Bool.and_eq_true] at h
  have ih:=zl4 h.2
  cases d with
  | int i =>
   have e:D.int i :: ds=(i :: ds.map zbb).map D.int:=by
    rw [List.map_cons]
    congr 1
    have:=h.2
    rw [List.all_eq_true] at this
    rw [List.map_map]
    conv=>lhs;rw [<-List.map_id ds]
    apply List.map_congr_left
    intro x hx
    have:=this x hx
    cases x with
    | int j=>rfl
    | _=>cases this
   rw [e,zyw]
   rw [<-e];rfl
  | _=>cases h.1
theorem yb3 (ns:List Int):(dis ns ns.length).length<=ns.length:=by
 have key:∀(l acc:List Int),(l.foldl step_dedup acc).length<=acc.length+l.length:=by
  intro l
  induction l with
  | nil=>intro acc;simp
  | cons x l ih =>
   intro acc
   rw [List.foldl_cons]
   refine Nat.le_trans (ih _) ?_
   unfold step_dedup
   split <;> simp <;> omega
 have e:dis ns ns.length=ns.foldl step_dedup []:=by
  unfold dis firstMet
  congr 1
  apply List.ext_getElem?
  intro i
  rw [qgm]
  by_cases hi:i<ns.length
  ·rw [List.getElem?_range hi,qge hi];simp [hi]
  ·rw [List.getElem?_eq_none (by simpa using hi),List.getElem?_eq_none (by simpa using hi)];rfl
 rw [e]
 simpa using key ns []
theorem yb4 {S:Sto}{x:D}{n B:Nat}(h:Tys S x) (hz:∀ds,x=.tup ds->ds.length<=100):Wo (zgo [x,.int (n:Int),.int (B:Int)] S) λv S'=>v=.bl (zbt n B x)/\Gr S S':=by
 have big:1000<=sizeLine:=by decide
 have sb:scanBound=4096:=rfl
 have tt:isI "tuple" "tuple" = true:=by decide
 unfold zgo zqi
 dsimp! only [zb8]
 have no:∀{T:String},tyD S x=some T->isI T "tuple" = false->zbt n B x=false->Ws (zai (sIf (zbz (zco (tE (eUn (zb2 "tuple") (zab 0)))) (tE (eOp dNe (zaf zbj (zaa (zab 0) zae)) (zab 1)))) (zay (eC (.bl false))) zbi) (zay (zd9 (zaf zf5 (zaa (zdn (zfz (zab 0)) [none,some 2] (zao 0) zf0 (zaf zde (zaa (zab 0) (zaa (zab 1) zae)))) zae)) (eOp dEq (zaf zgd (zaa (zaf zgc (zaa (zab 0) zae)) zae)) (zab 1))))) [some x,‹n›,‹B›] S λf _ S1=>match f with | .rt d=>d=.bl (zbt n B x)/\Gr S S1 | .nx=>D.non=.bl (zbt n B x)/\Gr S S1|_=>False:=λ{T} h1 h2 h3=>by
  simp only [zc2,zbr,zda,zct,zbl,zb9,zal,qg0,zan,zhy,h1]
  refine ⟨_,rfl,?_⟩
  simp only [h2,za9,Bool.not_false,if_true,zbs,zaz,h3]
  first|exact ⟨nofun,Gr.refl _⟩|exact Gr.refl _
 cases x with
 | non=>exact no rfl (by decide) rfl
 | bl b=>exact no rfl (by decide) rfl
 | int i=>exact no rfl (by decide) rfl
 | str z=>exact no rfl (by decide) rfl
 | fn a=>obtain ⟨T,e⟩:=h;cases e
 | ref k =>
  obtain ⟨T,e⟩:=h
  have e0:=e
  unfold tyD at e
  dsimp only at e
  split at e
  ·cases e;exact no e0 (by decide) rfl
  ·cases e;exact no e0 (by decide) rfl
  ·cases e
 | tup ds =>
  have hz:=hz ds rfl
  have h:∀d∈ds,Ty S d:=h
  refine zc2 ▸ ?_
  simp only [zbr,zda,zct,zbl,zb9,za4,zat,zas,zar,zal,qg0,qg1,zan,zgl,tt,za9,Bool.not_true,qbf,if_false,zd5,zgk]
  by_cases hl:ds.length=n
  ·have hl':(ds.length:Int)=(n:Int):=by omega
   simp only [hl',decide_true,Bool.not_true,qbf,if_false,zcd,zbs,zhb,zat,zas,zar]
   refine yax ds (λd=>.bl (zbq (B:Int) d)) (Gr S) (λl=>∃y0,l=[y0,‹B›]) (zqd rfl) (Gr.refl _) ⟨_,rfl⟩ (λi S _=>rfl) (by omega) ?_ ?_
   ·rintro x l S2 hx ⟨y0,rfl⟩ g2
    simp only [za0,qs0]
    refine ⟨g2,⟨_,rfl⟩,?_⟩
    simp only [zat,zas,zar,zal,qg0,qg1,zan]
    obtain ⟨T,hT⟩:=(h x hx).gr g2
    rw [yb2 (B:Int) hT,zav]
    exact ⟨rfl,g2⟩
   ·intro S2 g2
    have ea:(ds.map λd=>D.bl (zbq (B:Int) d)).all zf4=true:=by rw [List.all_map];exact List.all_eq_true.mpr λ_ _=>rfl
    have eb:(ds.map λd=>D.bl (zbq (B:Int) d)).all isT=ds.all (zbq (B:Int)):=by
     rw [List.all_map]
     apply congrArg (λf=>ds.all f)
     funext d
     show isT (.bl (zbq (B:Int) d))=_
     cases zbq (B:Int) d <;> rfl
    simp only [yaw,zd4,zc6,ea,eb,true_and,za9]
    have g3:=g2.push (.lst (ds.map λd=>D.bl (zbq (B:Int) d)))
    revert g3
    generalize S2++[Ob.lst (ds.map λd=>D.bl (zbq (B:Int) d))]=S3
    intro g3
    cases hb:ds.all (zbq (B:Int)) with
    | false =>
     have e:zbt n B (.tup ds)=false:=by rw [zfe,hb];simp
     simp only [qbf,if_false,e]
     first|exact ⟨nofun,g3⟩|exact g3
    | true =>
     simp only [if_true,za4,zat,zas,zar,zal,qg0,qg1,zan]
     have hi:=zl4 hb
     have hln:(ds.map zbb).length=n:=by rw [qlm];exact hl
     have hdl:(dis (ds.map zbb) (ds.map zbb).length).length<=n:=by
      have:=yb3 (ds.map zbb)
      omega
     have es:zgc [.tup ds] S3=some (.ref S3.length,S3++[.iset (λk=>(dis (ds.map zbb) (ds.map zbb).length).any (· == k)) (dis (ds.map zbb) (ds.map zbb).length).length]):=by
      show (zdo ds).bind _=_
      rw [hi]
      simp only [Option.bind_some]
      rw [if_pos (by omega)]
     rw [es,zav]
     have el:∀f:Int->Bool,zgd [.ref S3.length] (S3++[.iset f (dis (ds.map zbb) (ds.map zbb).length).length])=some (.int ((dis (ds.map zbb) (ds.map zbb).length).length:Int),S3++[.iset f (dis (ds.map zbb) (ds.map zbb).length).length]):=λf=>by
      show (match (S3++[Ob.iset f (dis (ds.map zbb) (ds.map zbb).length).length])[S3.length]? with|some (.iset _ k)=>if k<scanBound then some (D.int k,_) else none|_=>none)=_
      rw [za5]
      show (if _<scanBound then _ else _)=_
      rw [if_pos (by omega)]
     rw [el,zav]
     have e:zbt n B (.tup ds)=decide (((dis (ds.map zbb) (ds.map zbb).length).length:Int)=(n:Int)):=by
      rw [zfe,hb,hl,decide_eq_true rfl,Bool.true_and,Bool.true_and]
      have d:=zzj (ds.map zbb)
      rw [hln] at d ⊢
      rw [decide_eq_decide]
      rw [<-d]
      omega
     simp only [ze0,e]
     first|exact ⟨nofun,g3.push _⟩|exact g3.push _
  ·have hl':¬(ds.length:Int)=(n:Int):=by omega
   have e:zbt n B (.tup ds)=false:=by rw [zfe];simp [hl]
   simp only [hl',decide_false,Bool.not_false,if_true,zbs,zaz,e]
   first|exact ⟨nofun,Gr.refl _⟩|exact Gr.refl _
noncomputable def bOf:Nat->Nat
 | 0=>1
 | 1=>1
 | 2=>1
 | 3=>2
 | 4=>2
 | _=>3
noncomputable def cOf:Nat->Nat
 | 0=>0
 | 1=>0
 | 2=>1
 | _=>2
theorem zff {r:Nat}(h:r<=8):r<=2 ^ bOf r/\1<=bOf r/\bOf r<=3:=by
 have:r=0\/r=1\/r=2\/r=3\/r=4\/r=5\/r=6\/r=7\/r=8:=by omega
 rcases this with rfl|rfl|rfl|rfl|rfl|rfl|rfl|rfl|rfl <;> decide
theorem yb5 {a:Nat}(h:a<=4):a<=2 ^ cOf a/\cOf a<=2:=by
 have:a=0\/a=1\/a=2\/a=3\/a=4:=by omega
 rcases this with rfl|rfl|rfl|rfl|rfl <;> decide
theorem yb6 {r:Nat}(h1:1<=r) (h8:r<=8):(if (Builtin.Int.intBits ((r:Int)-1):Int) > 1 then (Builtin.Int.intBits ((r:Int)-1):Int) else 1)=(bOf r:Nat):=by
 have:r=1\/r=2\/r=3\/r=4\/r=5\/r=6\/r=7\/r=8:=by omega
 rcases this with rfl|rfl|rfl|rfl|rfl|rfl|rfl|rfl <;> decide +kernel
theorem yb7 {a:Nat}(h1:1<=a) (h4:a<=4):(Builtin.Int.intBits ((a:Int)-1):Int)=(cOf a:Nat):=by
 have:a=1\/a=2\/a=3\/a=4:=by omega
 rcases this with rfl|rfl|rfl|rfl <;> decide +kernel
theorem yb8 {i:Int}{S:Sto}{Q:D->Sto->Prop}:Wo (ziz (.int i) S) Q=Q (.int (Builtin.Int.intBits i)) S:=zav
theorem yb9 {i j:Int}{S:Sto}{Q:D->Sto->Prop}:Wo (zg8 [.int i,.int j] S) Q=Q (.int (if j > i then j else i)) S:=zav
noncomputable def bcD (asks:Nat) (rs:List (List Cl)):D:=.tup [.int (bOf rs.length:Nat),.int (cOf asks:Nat)]
theorem yca {asks:Nat}{rs:List (List Cl)}(h:OkM asks rs) (h8:rs.length<=8) (S:Sto):zds [mD asks rs] S=some (bcD asks rs,S):=by
 have sz2:2<=sizeLine:=by decide
 have ng:¬((8:Int)<(rs.length:Int)):=by omega
 have:Wo (zds [mD asks rs] S) λv S'=>v=bcD asks rs/\S' = S:=by
  unfold zds zqj mD bcD
  dsimp! only [zb8]
  refine za6 (λl S'=>S' = S/\l=[some (.tup [.int asks,.tup (rs.map rD)]),some (.int asks),some (.tup (rs.map rD))]) (by simp! only [true_and,and_self]) ?_
  rintro l S1 ⟨rfl,rfl⟩
  refine za6 (λl S'=>S' = S1/\l=[some (.tup [.int asks,.tup (rs.map rD)]),some (.int asks),some (.tup (rs.map rD))]) ?_ ?_
  ·simp! only [qlm,ng,decide_false,qbf,if_false,and_self]
  rintro l S2 ⟨rfl,rfl⟩
  simp! only [yb8,yb9,qlm,sz2,true_and,yb6 h.r1 h8,yb7 h.a1 h.a4]
  all_goals first|exact ⟨nofun,nofun⟩|trivial
 obtain ⟨v,S',e,rfl,rfl⟩:=this
 exact e
structure OkW (r:Nat) (ws:List Nat):Prop where
 len:ws.length=r
 nd:ws.Nodup
 lt:∀w∈ws,w<2 ^ bOf r
theorem zq7 {asks:Nat}{rs:List (List Cl)}(h:OkM asks rs) (h8:rs.length<=8) {S:Sto}{Q:D->Sto->Prop}:Wo (zds [mD asks rs] S) Q=Q (bcD asks rs) S:=by rw [yca h h8,zav]
theorem zq8 {asks:Nat}{rs:List (List Cl)}{S:Sto}{Q:D->Sto->Prop}:Wo (za2 (mD asks rs) (.int 1) S) Q=Q (.tup (rs.map rD)) S:=zav
theorem ycb {asks:Nat}{rs:List (List Cl)}{S:Sto}{Q:D->Sto->Prop}:Wo (za2 (mD asks rs) (.int 0) S) Q=Q (.int (asks:Int)) S:=zav
theorem ycc {asks:Nat}{rs:List (List Cl)}{S:Sto}{Q:D->Sto->Prop}:Wo (za2 (bcD asks rs) (.int 0) S) Q=Q (.int (bOf rs.length:Nat)) S:=zav
theorem ycd {r:Nat}(h1:1<=r) (h8:r<=8):L2.atI [D.int 1,.int 1,.int 2,.int 2,.int 3,.int 3,.int 3,.int 3] ((r:Int)-1)=some (.int (bOf r:Nat)):=by
 have:r=1\/r=2\/r=3\/r=4\/r=5\/r=6\/r=7\/r=8:=by omega
 rcases this with rfl|rfl|rfl|rfl|rfl|rfl|rfl|rfl <;> rfl
theorem yce {a:Nat}(h1:1<=a) (h4:a<=4):L2.atI [D.int 0,.int 1,.int 2,.int 2] ((a:Int)-1)=some (.int (cOf a:Nat)):=by
 have:a=1\/a=2\/a=3\/a=4:=by omega
 rcases this with rfl|rfl|rfl|rfl <;> rfl
theorem ycf {asks:Nat}{rs:List (List Cl)}(h:OkM asks rs) (h8:rs.length<=8) (S:Sto):Wo (zht [mD asks rs] S) λv S'=>v=bcD asks rs/\Gr S S':=by
 have sz2:2<=sizeLine:=by decide
 have sz4:4<=sizeLine:=by decide
 have sz8:8<=sizeLine:=by decide
 unfold zht zqs bcD
 simp only [zb8,List.map_cons,List.map_nil,List.length_cons,List.length_nil,Nat.reduceAdd,Nat.reduceSub,List.replicate,List.cons_append,List.nil_append,zbs,zat,za4,zas,zar,zal,zaz,qg0,qg1,zan,zcv,List.length_cons,List.length_nil,Nat.reduceAdd,sz8,sz4,true_and,zq8,ycb,zd5,qlm,zdz,zdi,zd4,zc6,ycd h.r1 h8,yce h.a1 h.a4,zcu,sz2]
 first|exact ⟨nofun,Gr.push (Gr.push (Gr.refl _) _) _⟩|exact Gr.push (Gr.push (Gr.refl _) _) _
theorem ycg {n:Nat}{i:Int}{S:Sto}{xs:List D}(h:S[n]? = some (.lst xs)) (h0:0<=i) (h1:i<xs.length) (h2:xs.length<1000000):∃y,xs[i.toNat]? = some y/\∀Q:D->Sto->Prop,Wo (ze2 (.ref n) [.int i] S) Q=Q y (S.set n (.lst (xs.eraseIdx i.toNat))):=by
 have hl:i.toNat<xs.length:=by omega
 refine ⟨xs[i.toNat],qge hl,λQ=>?_⟩
 have e:PySem.seqIndex? i xs.length=some i.toNat:=by
  unfold PySem.seqIndex?
  first
   | (simp;omega)
   | (rw [if_pos (by omega)];try rw [if_pos (by omega)])
 have:ze2 (.ref n) [.int i] S=some (xs[i.toNat],S.set n (.lst (xs.eraseIdx i.toNat))):=by
  unfold ze2
  dsimp only
  rw [h]
  dsimp only
  rw [e]
  show ((xs[i.toNat]?).bind _)=_
  rw [qge hl]
  show (if _ then _ else _)=_
  rw [if_pos (by omega)]
 rw [this];exact zav
theorem ych (n:Nat):zbo 0 n=zaw (List.range n):=by
 unfold zbo zaw
 apply List.map_congr_left
 intro i _
 show D.int (0+(i:Int))=D.int (i:Int)
 rw [Int.zero_add]
theorem zq9:∀(l:List Nat) (i:Nat) (h:i<l.length),(l[i] :: l.eraseIdx i).Perm l
 | [],i,h=>absurd h (Nat.not_lt_zero _)
 | x :: l,0,_=>.refl _
 | x :: l,i+1,h=>by
  have ih:=zq9 l i (by simpa using h)
  show (l[i]'(by simpa using h) :: x :: l.eraseIdx i).Perm (x :: l)
  exact (List.Perm.swap ..).trans (ih.cons x)
theorem zra {α β:Type}(f:α->β):∀(l:List α) (i:Nat),(l.map f).eraseIdx i=(l.eraseIdx i).map f
 | [],_=>rfl
 | x :: l,0=>rfl
 | x :: l,i+1=>by
  show f x :: (l.map f).eraseIdx i=f x :: (l.eraseIdx i).map f
  rw [zra f l i]
theorem yci {e:EM}{l:Lo}{S S1:Sto}{q:Nat}(h:e l S=some (.int (q:Int),S1)) (hq:q<1000):zb7 (zaa e zae) l S=some ((0,q),S1):=by
 have:=zqc (as1 h) ⟨by omega,by omega⟩
 rw [Int.toNat_natCast] at this
 exact this
theorem ycj (ns:List Int) (S:Sto) (k:Int) (many:Nat) (hp:Pn ns k S) (hk:k<100000) (h8:many<=8):Wo (zhs [.ref 2,.int (many:Int),.int (bOf many:Nat)] S) λd S'=>∃ws,d=.tup (zaw ws)/\OkW many ws/\Pn ns (k+8) S':=by
 have big:1000<=sizeLine:=by decide
 obtain ⟨hb1,hb2,hb3⟩:=zff h8
 have hp8:2 ^ bOf many<=2 ^ 3:=Nat.pow_le_pow_right (by decide) hb3
 have hr:zb7 (zaa (eOp zdc (eC (.int 1)) (zab 2)) zae) [~~~2,‹many›,some (.int (bOf many:Nat)),none] S=some ((0,2 ^ bOf many),S):=yci (ybw (v:=bOf many) (S1:=S) rfl (by omega)) (by omega)
 have hn2:=hp.two
 unfold zhs zqr
 dsimp! only [zb8]
 refine zcw (l':=[~~~2,‹many›,some (.int (bOf many:Nat)),some (.ref S.length)]) (S':=S++[.lst (zaw (List.range (2 ^ bOf many)))]) ?_ ?_
 ·rw [zbe]
  refine ⟨.ref S.length,S++[.lst (zbo 0 (2 ^ bOf many))],?_,?_⟩
  ·unfold zk0
   rw [hr]
   show (if 2 ^ bOf many<=sizeLine then _ else _)=_
   rw [if_pos (by omega)]
  ·rw [ych]
   simp only [za0,qs0,qs1]
   first|exact ⟨nofun,nofun,nofun⟩|exact ⟨nofun,nofun⟩
 rw [zbs,zat,zas]
 refine zlw (zbo 0 many) (λi acc l S'=>∃(os left:List Nat) (x0:Option D),acc=zaw os/\os.length=i/\(os++left).Perm (List.range (2 ^ bOf many))/\S'[S.length]? = some (.lst (zaw left))/\Pn ns (k+i) S'/\l=[x0,some (.ref S.length),~~~2]) (yaz (n:=many) (as1 rfl) (by omega)) ⟨[],List.range (2 ^ bOf many),none,rfl,rfl,.refl _,za5 _ _,by simpa using hp.push _,rfl⟩ (λ_ _ _ _ _=>rfl) ?_ ?_
 ·rintro i x acc l S1 hx ⟨os,left,x0,rfl,hl,pm,hs1,p1,rfl⟩
  have hi:=(zon hx).1
  have hll:os.length+left.length=2 ^ bOf many:=by
   have:=pm.length_eq
   rw [qla,List.length_range] at this;exact this
  simp only [za0,qs0]
  refine ⟨true,S1,rfl,?_⟩
  dsimp only
  rw [if_pos rfl,zef]
  simp only [zal,qg0,qg1,zan]
  refine ⟨⟨_,show zdg (.ref S.length) S1=some _ from zcy hs1⟩,?_⟩
  simp only [zas,zar,zat,zal,qg0,qg1,zan,zi3,zcy hs1,zc6,zdt]
  refine (zcf ns _ _ (left.length:Int) p1 (by omega) (by omega) (by omega)).mono ?_
  rintro v S2 ⟨⟨d,rfl,hd⟩,p2,f2⟩
  have hs2:=f2 _ _ (by omega) hs1
  have hdl:d<left.length:=by omega
  obtain ⟨y,hy,hq⟩:=ycg (i:=(d:Int)) hs2 (by omega) (by rw [zdt];omega) (by rw [zdt];omega)
  rw [hq]
  have hy2:(zaw left)[d]? = some (.int (left[d]:Nat)):=by unfold zaw;rw [qgm,qge hdl];rfl
  rw [Int.toNat_natCast,hy2] at hy
  cases hy
  refine ⟨os++[left[d]],left.eraseIdx d,_,by rw [ybx],by simp [hl],?_,?_,(p2.set hn2).mono (by push_cast;omega),rfl⟩
  ·rw [List.append_assoc]
   refine List.Perm.trans (List.Perm.append_left os ?_) pm
   exact zq9 left d hdl
  ·rw [zl3 hs2,Int.toNat_natCast]
   unfold zaw
   rw [zra]
 ·rintro acc l' S1 ⟨os,left,x0,rfl,hl,pm,hs1,p1,rfl⟩
  rw [zkx] at hl p1
  refine ⟨by rw [zdt];omega,?_⟩
  simp only [zar,ziq,zd4,zc6]
  have nd:(os++left).Nodup:=pm.nodup_iff.mpr List.nodup_range
  exact ⟨os,rfl,⟨hl,(List.nodup_append.mp nd).1,λw hw=>List.mem_range.mp (pm.mem_iff.mp (List.mem_append_left _ hw))⟩,(p1.push _).mono (by omega)⟩
theorem yck {asks:Nat}{rs:List (List Cl)}(h:OkM asks rs) (h8:rs.length<=8) {S:Sto}{d:D}(ht:Tys S d) (hz:∀ds,d=.tup ds->ds.length<=100):Wo (zhq [mD asks rs,d] S) λv S'=>v=.bl (zbt rs.length (2 ^ bOf rs.length) d)/\Gr S S':=by
 have hb:=(zff h8).2.2
 unfold zhq zql
 simp only [zb8,List.map_cons,List.map_nil,List.length_cons,List.length_nil,Nat.reduceAdd,Nat.reduceSub,List.replicate,List.cons_append,List.nil_append,zbs,zat,za4,zas,zar,zal,zaz,qg0,qg1,zan]
 simp only [zq8,zd5,qlm,zq7 h h8,ycc,zl2 (show bOf rs.length<=1000000 by omega)]
 exact yb4 ht hz
theorem zrb {asks:Nat}{rs:List (List Cl)}(h9:9<=rs.length) (S:Sto):zdf [mD asks rs] S=some (("TooMany":Str),S):=by
 have ng:decide ((8:Int)<(rs.length:Int))=true:=by rw [decide_eq_true_eq];omega
 unfold zdf zqk zga
 simp only [List.map_cons,List.map_nil,List.length_cons,List.length_nil,List.replicate,Nat.reduceAdd,Nat.reduceSub,List.cons_append,List.nil_append]
 have e1:zaq (zab 0) (zfx 2 (zdm (zao 1) (zdm (zao 2) zfw))) [some (mD asks rs),none,none] S=some (.nx,[some (mD asks rs),some (.int asks),some (.tup (rs.map rD))],S):=rfl
 have e2:tE (eOp dGt (zaf zbj (zaa (zab 2) zae)) (eC (.int 8))) [some (mD asks rs),some (.int asks),some (.tup (rs.map rD))] S=some (true,S):=by
  have:Wt (tE (eOp dGt (zaf zbj (zaa (zab 2) zae)) (eC (.int 8)))) [some (mD asks rs),some (.int asks),some (.tup (rs.map rD))] S λb S'=>b=true/\S' = S:=by
   simp! only [qlm,ng]
   all_goals first|trivial|exact ⟨nofun,nofun⟩
  obtain ⟨v,S',e,rfl,rfl⟩:=this
  exact e
 unfold zlc
 rw [e1]
 dsimp only [Option.bind_some]
 unfold zIf
 rw [e2]
 dsimp only [Option.bind_some]
 rw [if_pos rfl]
theorem ycl {asks:Nat}{rs:List (List Cl)}(h9:9<=rs.length) (d:D) (S:Sto):zfb [mD asks rs,d] S=some (("TooMany":Str),S):=by
 unfold zfb zqm zga
 simp only [List.map_cons,List.map_nil,List.length_cons,List.length_nil,List.replicate,Nat.reduceAdd,Nat.reduceSub,List.cons_append,List.nil_append]
 have e1:zab 1 [some (mD asks rs),some d] S=some (d,S):=rfl
 have e2:zaf zbj (zaa (eOp za2 (zab 0) (eC (.int 1))) zae) [some (mD asks rs),some d] S=some (.int ((rs.map rD).length:Nat),S):=rfl
 have e3:eC (.int 1) [some (mD asks rs),some d] S=some (.int 1,S):=rfl
 have e4:zld zdf (zaa (zab 0) zae) [some (mD asks rs),some d] S=some (("TooMany":Str),S):=by
  show zdf [mD asks rs] S=_
  exact zrb h9 S
 unfold zf9
 rw [e1];dsimp only [Option.bind_some]
 rw [e2];dsimp only [Option.bind_some]
 rw [e3];dsimp only [Option.bind_some]
 exact e4
theorem ycm {t:TM}{m n:SM}{l:Lo}{S:Sto}{Q:Fl->Lo->Sto->Prop}(R:Bool->Sto->Prop) (h:Wt t l S R) (h1:∀S1,R true S1->Ws m l S1 Q) (h2:∀S1,R false S1->Ws n l S1 Q):Ws (sIf t m n) l S Q:=by
 rw [zbr]
 obtain ⟨k,S1,e,r⟩:=h
 refine ⟨k,S1,e,?_⟩
 cases k with
 | true=>exact h1 S1 r
 | false=>exact h2 S1 r
theorem ycn {S:Sto}{x:D}{o:Nat}{l:Lo}(ho:o<=100) (h:Ty S x) (h3:l[3]? = some (some x)) (h2:l[2]? = some (some (.int (o:Nat)))) :
  Wt (zbz (zco (tE (eUn (zb2 "int") (zab 3)))) (zbz (tE (eUn (zb2 "bool") (zab 3))) (zbz (tE (eOp dLt (zab 3) (eC (.int 0)))) (tE (eOp dGe (zab 3) (eOp zdc (eC (.int 1)) (zab 2))))))) l S λb S'=>b = !(zbq ((2 ^ o:Nat):Int) x)/\S' = S:=by
 obtain ⟨T,h⟩:=h
 have key:∀{U:String},T=U->isI U "int" = false->zbq ((2 ^ o:Nat):Int) x=false->Wt (zbz (zco (tE (eUn (zb2 "int") (zab 3)))) (zbz (tE (eUn (zb2 "bool") (zab 3))) (zbz (tE (eOp dLt (zab 3) (eC (.int 0)))) (tE (eOp dGe (zab 3) (eOp zdc (eC (.int 1)) (zab 2))))))) l S λb S'=>b = !(zbq ((2 ^ o:Nat):Int) x)/\S' = S:=λ{U} e1 e2 e3=>by
  subst e1
  rw [e3]
  simp only [zda,zct,zbl,zb9,zal,h3,zan,zhy,h]
  refine ⟨_,rfl,?_⟩
  simp only [e2,za9,Bool.not_false,if_true]
  all_goals first|trivial|exact ⟨nofun,nofun⟩
 cases x with
 | non=>cases h;exact key rfl (by decide) rfl
 | str z=>cases h;exact key rfl (by decide) rfl
 | tup xs=>cases h;exact key rfl (by decide) rfl
 | fn a=>cases h
 | ref k =>
  unfold tyD at h
  dsimp only at h
  split at h
  ·cases h;exact key rfl (by decide) rfl
  ·cases h;exact key rfl (by decide) rfl
  ·cases h
 | bl b =>
  have e1:isI "bool" "int" = true:=by decide
  have e2:isI "bool" "bool" = true:=by decide
  simp only [zda,zct,zbl,zb9,zal,h3,zan,zhk,e1,e2,za9,Bool.not_true,qbf,if_false,if_true]
  all_goals first|trivial|exact ⟨nofun,nofun⟩
 | int i =>
  have e1:isI "int" "int" = true:=by decide
  show Wt _ l S λb S'=>b = !(decide (0<=i) && decide (i<((2 ^ o:Nat):Int)))/\S' = S
  simp only [zda,zct,zbl,zb9,za4,zaz,zal,h3,h2,zan,zi4,e1,zq6,za9,Bool.not_true,qbf,if_false,zdz,zl2 (show o<=1000000 by omega)]
  by_cases h0:0<=i
  ·have h0':¬i<0:=by omega
   by_cases hb:i<((2 ^ o:Nat):Int)
   ·have hb':¬((2 ^ o:Nat):Int)<=i:=by omega
    simp only [h0,h0',hb,hb',decide_true,decide_false,qbf,if_false,Bool.true_and,Bool.not_true,za9]
    all_goals first|trivial|exact ⟨nofun,nofun⟩|exact ⟨_,rfl,nofun,nofun⟩
   ·have hb':((2 ^ o:Nat):Int)<=i:=by omega
    simp only [h0,h0',hb,hb',decide_true,decide_false,qbf,if_false,Bool.true_and,Bool.not_false,za9]
    all_goals first|trivial|exact ⟨nofun,nofun⟩|exact ⟨_,rfl,nofun,nofun⟩
  ·have h0':i<0:=by omega
   simp only [h0,h0',decide_true,decide_false,if_true,Bool.false_and,Bool.not_false,za9]
   all_goals first|trivial|exact ⟨nofun,nofun⟩
theorem yco {f:D->List D->Sto->Option (D × Sto)}{o:EM}{as:AM}{l:Lo}{S:Sto}{xs:List D}{S1:Sto}{Q:D->Sto->Prop}(h:o l S=some (.tup xs,S1)):We (zlr f o as) l S Q=Wa as l S1 λys S2=>Wo (f (.tup xs) ys S2) Q:=by
 show Wo (((o l S).bind λp=>(zpm p.1).bind λ_=>(as l p.2).bind λq=>f p.1 q.1 q.2)) Q=_
 rw [h]
 show Wo ((as l S1).bind λq=>f (.tup xs) q.1 q.2) Q=_
 rw [zeg]
 apply propext
 constructor
 ·rintro ⟨⟨ys,S2⟩,e,q⟩;exact ⟨ys,S2,e,q⟩
 ·rintro ⟨ys,S2,e,q⟩;exact ⟨⟨ys,S2⟩,e,q⟩
theorem zrc {B:Int}:∀{ds:List D},ds.all (zbq B)=true->ds=(ds.map zbb).map D.int
 | [],_=>rfl
 | d :: ds,h=>by
  rw [List.all_cons,Bool.and_eq_true] at h
  rw [List.map_cons,List.map_cons,<-zrc h.2]
  cases d with
  | int i=>rfl
  | _=>cases h.1
noncomputable def twF (ns:List Int):D->Option D
 | .int i=>if 1<ns.count i then some (.int i) else none
 | _=>none
theorem ycp {ns:List Int}:((ns.map D.int).filterMap (twF ns)=[])↔ns.Nodup:=by
 rw [List.filterMap_eq_nil_iff,List.nodup_iff_count]
 constructor
 ·intro h i
  by_cases hi:i∈ns
  ·have:=h (.int i) (List.mem_map.mpr ⟨i,hi,rfl⟩)
   unfold twF at this
   split at this
   ·rename_i heq
    cases heq
    split at this
    ·cases this
    ·omega
   ·rename_i heq;exact absurd rfl (heq i)
  ·rw [List.count_eq_zero_of_not_mem hi];exact Nat.zero_le _
 ·intro h x hx
  obtain ⟨i,_,rfl⟩:=List.mem_map.mp hx
  have:=h i
  show (if 1<ns.count i then some (D.int i) else none)=none
  rw [if_neg (by omega)]
theorem ycq {S:Sto}{x:D}{n o:Nat}(ho:o<=100) (h:Tys S x) (hz:∀ds,x=.tup ds->ds.length<=100):Wo (zgp [x,.int (n:Int),.int (o:Nat)] S) λv S'=>v=.bl (zbt n (2 ^ o) x)/\Gr S S':=by
 have big:1000<=sizeLine:=by decide
 have tt:isI "tuple" "tuple" = true:=by decide
 unfold zgp zqo
 dsimp! only [zb8]
 have no:∀{T:String},tyD S x=some T->isI T "tuple" = false->zbt n (2 ^ o) x=false->Ws (sIf (zbz (zco (tE (eUn (zb2 "tuple") (zab 0)))) (tE (eOp dNe (zaf zbj (zaa (zab 0) zae)) (zab 1)))) (zay (eC (.bl false))) zbi) [some x,‹n›,some (.int (o:Nat)),none] S λf _ S1=>f=.rt (.bl (zbt n (2 ^ o) x))/\S1=S:=λ{T} h1 h2 h3=>by
  simp only [zbr,zda,zct,zbl,zb9,zal,qg0,zan,zhy,h1]
  refine ⟨_,rfl,?_⟩
  simp only [h2,za9,Bool.not_false,if_true,zbs,zaz,h3]
  all_goals first|trivial|exact ⟨nofun,nofun⟩
 have fin:∀{T:String},tyD S x=some T->isI T "tuple" = false->zbt n (2 ^ o) x=false->∀b:SM,Ws (zai (sIf (zbz (zco (tE (eUn (zb2 "tuple") (zab 0)))) (tE (eOp dNe (zaf zbj (zaa (zab 0) zae)) (zab 1)))) (zay (eC (.bl false))) zbi) b) [some x,‹n›,some (.int (o:Nat)),none] S λf _ S1=>match f with | .rt d=>d=.bl (zbt n (2 ^ o) x)/\Gr S S1 | .nx=>D.non=.bl (zbt n (2 ^ o) x)/\Gr S S1|_=>False:=λ{T} h1 h2 h3 b=>by
  refine zi7 (λ_ _=>False) (λv S'=>v=.bl (zbt n (2 ^ o) x)/\Gr S S') ?_ (λ_ _ z=>z.elim) (λd _ _ o=>o)
  refine (no h1 h2 h3).mono ?_
  rintro f l S1 ⟨rfl,rfl⟩
  exact .inr ⟨_,rfl,rfl,Gr.refl _⟩
 cases x with
 | non=>exact fin rfl (by decide) rfl _
 | bl b=>exact fin rfl (by decide) rfl _
 | int i=>exact fin rfl (by decide) rfl _
 | str z=>exact fin rfl (by decide) rfl _
 | fn a=>obtain ⟨T,e⟩:=h;cases e
 | ref k =>
  obtain ⟨T,e⟩:=h
  have e0:=e
  unfold tyD at e
  dsimp only at e
  split at e
  ·cases e;exact fin e0 (by decide) rfl _
  ·cases e;exact fin e0 (by decide) rfl _
  ·cases e
 | tup ds =>
  clear no fin
  have hz:=hz ds rfl
  have h:∀d∈ds,Ty S d:=h
  refine zi7 (λl S'=>S' = S/\ds.length=n/\l=[some (.tup ds),‹n›,some (.int (o:Nat)),none]) (λv S'=>v=.bl (zbt n (2 ^ o) (.tup ds))/\Gr S S') ?_ ?_ (λd _ _ o=>o)
  ·by_cases hl:ds.length=n
   ·have hl':(ds.length:Int)=(n:Int):=by omega
    simp only [zbr,zda,zct,zbl,zb9,za4,zat,zas,zar,zal,qg0,qg1,zan,zgl,tt,za9,Bool.not_true,qbf,if_false,zd5,zgk,hl',decide_true,zcd]
    exact .inl ⟨nofun,nofun,hl,nofun⟩
   ·have hl':¬(ds.length:Int)=(n:Int):=by omega
    have e:zbt n (2 ^ o) (.tup ds)=false:=by rw [zfe];simp [hl]
    simp only [zbr,zda,zct,zbl,zb9,za4,zat,zas,zar,zal,qg0,qg1,zan,zgl,tt,za9,Bool.not_true,qbf,if_false,zd5,zgk,hl',decide_false,Bool.not_false,if_true,zbs,zaz]
    exact .inr ⟨_,rfl,by rw [e],Gr.refl _⟩
  rintro l S1 ⟨rfl,hl,rfl⟩
  refine zi7 (λl S'=>S' = S1/\ds.all (zbq ((2 ^ o:Nat):Int))=true/\∃y,l=[some (.tup ds),‹n›,some (.int (o:Nat)),y]) (λv S'=>v=.bl (zbt n (2 ^ o) (.tup ds))/\Gr S1 S') ?_ ?_ (λd _ _ o=>o)
  ·refine ya1 ds (λi l S'=>S' = S1/\(ds.take i).all (zbq ((2 ^ o:Nat):Int))=true/\∃y,l=[some (.tup ds),‹n›,some (.int (o:Nat)),y]) (λv S'=>v=.bl (zbt n (2 ^ o) (.tup ds))/\Gr S1 S') (S1:=S1) rfl ⟨rfl,rfl,_,rfl⟩ ?_ ?_ (λd l' S' q=>.inr ⟨d,rfl,q⟩)
   ·rintro i x l S2 hx ⟨rfl,ha,y,rfl⟩
    simp only [za0,qs0,qs1]
    refine ycm _ (ycn (o:=o) ho (h x (qmg hx)) rfl rfl) ?_ ?_
    ·rintro S3 ⟨hb,rfl⟩
     have hb:zbq ((2 ^ o:Nat):Int) x=false:=by simpa using hb.symm
     have e:zbt n (2 ^ o) (.tup ds)=false:=by
      rw [zfe]
      have:ds.all (zbq ((2 ^ o:Nat):Int))=false:=by
       rw [List.all_eq_false]
       exact ⟨x,qmg hx,by rw [hb];decide⟩
      rw [this];simp
     simp only [zbs,zaz]
     exact .inr ⟨_,rfl,by rw [e],Gr.refl _⟩
    ·rintro S3 ⟨hb,rfl⟩
     have hb:zbq ((2 ^ o:Nat):Int) x=true:=by simpa using hb.symm
     rw [zcd]
     refine .inl ⟨.inl rfl,rfl,?_,_,rfl⟩
     rw [List.take_succ,hx,List.all_append,ha]
     show (true && (zbq ((2 ^ o:Nat):Int) x && true))=true
     rw [hb];rfl
   ·rintro l S2 ⟨rfl,ha,y,rfl⟩
    rw [List.take_length] at ha
    exact .inl ⟨rfl,rfl,ha,y,rfl⟩
  rintro l S2 ⟨rfl,ha,y,rfl⟩
  have hi:=zl4 ha
  have hn:=zrc ha
  simp only [zbs,za4,zat,zas]
  refine yay ds (twF (ds.map zbb)) (λS'=>S' = S2) (λl=>∃y0,l=[y0,some (.tup ds)]) (zqd rfl) rfl ⟨_,rfl⟩ (λi S _=>rfl) (by omega) ?_ ?_
  ·rintro x l S3 hx ⟨y0,rfl⟩ rfl
   obtain ⟨i,hi0,rfl⟩:∃i,i∈ds.map zbb/\x=.int i:=by
    rw [hn] at hx
    obtain ⟨i,h1,h2⟩:=List.mem_map.mp hx
    exact ⟨i,h1,h2.symm⟩
   simp only [za0,qs0]
   refine ⟨⟨_,rfl⟩,?_⟩
   have ec:∀Q':D->Sto->Prop,Wo (zgh (.tup ds) [.int i] S3) Q' = Q' (.int ((ds.map zbb).count i:Nat)) S3:=λQ'=>by
    have:zgh (.tup ds) [.int i] S3=some (.int ((ds.map zbb).count i:Nat),S3):=by
     show ((zdo ds).bind λns=>some (D.int (ns.count i),S3))=_
     rw [hi];rfl
    rw [this,zav]
   rw [zbl,za4,yco (xs:=ds) (S1:=S3) rfl]
   simp only [zas,zar,zal,zaz,qg0,qg1,zan,ec,zdz,za9]
   refine ⟨nofun,λhb=>?_,λhb=>?_⟩
   ·show (if 1<(ds.map zbb).count i then some (D.int i) else none)=none
    rw [if_neg]
    intro z
    rw [decide_eq_false_iff_not] at hb
    omega
   ·have:1<(ds.map zbb).count i:=by
     rw [decide_eq_true_eq] at hb
     omega
    refine ⟨?_,nofun⟩
    show (if 1<(ds.map zbb).count i then some (D.int i) else none)=_
    rw [if_pos this]
  ·rintro S3 rfl
   simp only [zar,zi3,zd4,zc6,zaz,ze0]
   refine ⟨?_,(Gr.refl _).push _⟩
   rw [zfe,ha,decide_eq_true hl,Bool.true_and,Bool.true_and]
   congr 1
   rw [decide_eq_decide,<-ycp,<-hn]
   constructor
   ·intro z
    exact List.eq_nil_of_length_eq_zero (by omega)
   ·intro z
    rw [z];rfl
def ShT (S:Sto) (k B:Nat) (d:D):Prop:=∃p:PyData,p.shown.length<=B/\∀T,Gr S T->pyT T k d=some p
theorem ShT.le {S:Sto}{k B B':Nat}{d:D}(h:ShT S k B d) (hb:B<=B'):ShT S k B' d:=let ⟨p,h1,h2⟩:=h;⟨p,Nat.le_trans h1 hb,h2⟩
theorem zl5 {S:Sto}{k B:Nat}:∀(xs:List D),(∀x∈xs,ShT S k B x)->∃ps:List PyData,ps.length=xs.length/\(∀p∈ps,p.shown.length<=B)/\∀S',Gr S S'->pyTs S' k xs=some ps
 | [],_=>⟨[],rfl,(λp hp=>by cases hp),λex _=>by unfold pyTs;rfl⟩
 | x :: xs,h=>by
  obtain ⟨p,h1,h2⟩:=h x List.mem_cons_self
  obtain ⟨ps,h3,h4,h5⟩:=zl5 xs λy hy=>h y (List.mem_cons_of_mem _ hy)
  refine ⟨p :: ps,by simp [h3],λq hq=>?_,λS' g=>?_⟩
  ·rcases List.mem_cons.mp hq with rfl|hq
   ·exact h1
   ·exact h4 q hq
  ·unfold pyTs;rw [h2 S' g,h5 S' g];rfl
theorem zgq {S:Sto}{k B n:Nat}{xs:List D}(h:∀x∈xs,ShT S k B x) (hn:xs.length<=n):ShT S (k+1) (B*n+2*n+3) (.tup xs):=by
 obtain ⟨ps,h1,h2,h3⟩:=zl5 xs h
 refine ⟨.tuple ps,?_,λS' g=>?_⟩
 ·have:=zhp B ps h2
  have e:ps.length<=n:=by omega
  have:=Nat.mul_le_mul_left B e
  omega
 ·unfold pyT;rw [h3 S' g];rfl
theorem zjc {S:Sto}{k n:Nat}(h:n<1000000):ShT S (k+1) 10 (.int n):=by
 refine ⟨.int (n:Int),?_,λT g=>?_⟩
 ·show (PySem.Str.ofString (toString (n:Int))).length<=10
  exact PySem.W.KT.len_num (by omega) (by omega)
 ·unfold pyT;rw [if_pos (zd6 h)]
theorem ycr {S:Sto}{k:Nat}:ShT S (k+1) 10 .non:=⟨.none,by decide +kernel,λex _=>by unfold pyT;rfl⟩
theorem zrd {S:Sto}{k:Nat}{o:Option Nat}(h:∀g,o=some g->g<1000):Sh S (k+1) 10 (oD o):=by
 cases o with
 | none=>exact ya3
 | some g=>exact zl1 (by have:=h g rfl;omega)
theorem zre {S:Sto}{k:Nat}{o:Option Nat}(h:∀g,o=some g->g<1000):ShT S (k+1) 10 (oD o):=by
 cases o with
 | none=>exact ycr
 | some g=>exact zjc (by have:=h g rfl;omega)
section
variable {S:Sto}{k asks:Nat}{rs:List (List Cl)}
theorem zrf (h:OkM asks rs):Sh S (k+5) 20000 (mD asks rs):=by
 have h24:=h.r24
 have a4:=h.a4
 refine Sh.le (zgn (k:=k+4) (B:=3000) (n:=2) (λx hx=>?_) (by simp)) (by decide)
 simp only [List.mem_cons,List.not_mem_nil,or_false] at hx
 rcases hx with rfl|rfl
 ·exact Sh.le (zl1 (k:=k+3) (by omega)) (by decide)
 ·refine Sh.le (zgn (k:=k+3) (B:=119) (n:=24) (λx hx=>?_) (by rw [qlm];omega)) (by decide)
  obtain ⟨cs,hcs,rfl⟩:=List.mem_map.mp hx
  refine Sh.le (zgn (k:=k+2) (B:=27) (n:=4) (λx hx=>?_) (by rw [qlm,h.len cs hcs];omega)) (by decide)
  obtain ⟨c,hc,rfl⟩:=List.mem_map.mp hx
  have ok:=h.ok cs hcs c hc
  refine Sh.le (zgn (k:=k+1) (B:=10) (n:=2) (λx hx=>?_) (by simp)) (by decide)
  simp only [List.mem_cons,List.not_mem_nil,or_false] at hx
  rcases hx with rfl|rfl
  ·exact zrd λg e=>by have:=ok.go g e;omega
  ·exact zrd λg e=>by have:=ok.sa g e;omega
theorem ycs (h:OkM asks rs):ShT S (k+5) 20000 (mD asks rs):=by
 have h24:=h.r24
 have a4:=h.a4
 refine ShT.le (zgq (k:=k+4) (B:=3000) (n:=2) (λx hx=>?_) (by simp)) (by decide)
 simp only [List.mem_cons,List.not_mem_nil,or_false] at hx
 rcases hx with rfl|rfl
 ·exact ShT.le (zjc (k:=k+3) (by omega)) (by decide)
 ·refine ShT.le (zgq (k:=k+3) (B:=119) (n:=24) (λx hx=>?_) (by rw [qlm];omega)) (by decide)
  obtain ⟨cs,hcs,rfl⟩:=List.mem_map.mp hx
  refine ShT.le (zgq (k:=k+2) (B:=27) (n:=4) (λx hx=>?_) (by rw [qlm,h.len cs hcs];omega)) (by decide)
  obtain ⟨c,hc,rfl⟩:=List.mem_map.mp hx
  have ok:=h.ok cs hcs c hc
  refine ShT.le (zgq (k:=k+1) (B:=10) (n:=2) (λx hx=>?_) (by simp)) (by decide)
  simp only [List.mem_cons,List.not_mem_nil,or_false] at hx
  rcases hx with rfl|rfl
  ·exact zre λg e=>by have:=ok.go g e;omega
  ·exact zre λg e=>by have:=ok.sa g e;omega
end
def Rp (m:D) (S:Sto) (d:D):Prop:=∃z:Str,∀(T:Sto) (Q:D->Sto->Prop),Gr S T->Wo (zc5 [.tup [m,d]] T) Q=Q (.str z) T
theorem zl6 {S:Sto}{x:D}{p:PyData}{Q:D->Sto->Prop}(h:zak S 140 x=some p\/pyT S 140 x=some p) (hz:p.shown.length<=sizeLine):Wo (zc5 [x] S) Q=Q (.str p.shown) S:=by
 have:Wo (zei [x] S) λv S'=>v=.str p.shown/\S' = S:=by rw [zxp h hz];exact ⟨rfl,rfl⟩
 obtain ⟨v,S',e,rfl,rfl⟩:=this
 have:zc5 [x] S' = some (.str p.shown,S'):=by unfold zc5;rw [e]
 rw [this,zav]
theorem zgr:1000000<=sizeLine:=by rw [sizeLine_eq];decide
section
variable {S:Sto}{asks:Nat}{rs:List (List Cl)}{d:D}
theorem zjd (h:OkM asks rs) (hd:Sh S 139 20000 d):Rp (mD asks rs) S d:=by
 have sz:=zgr
 obtain ⟨p,h1,h2⟩:=zgn (S:=S) (k:=139) (B:=20000) (n:=2) (xs:=[mD asks rs,d]) (λx hx=>by
  simp only [List.mem_cons,List.not_mem_nil,or_false] at hx
  rcases hx with rfl|rfl
  ·exact zrf (k:=134) h
  ·exact hd) (by simp)
 exact ⟨p.shown,λT Q g=>zl6 (.inl (h2 T g)) (by omega)⟩
theorem zrg (h:OkM asks rs) (hd:ShT S 139 20000 d):Rp (mD asks rs) S d:=by
 have sz:=zgr
 obtain ⟨p,h1,h2⟩:=zgq (S:=S) (k:=139) (B:=20000) (n:=2) (xs:=[mD asks rs,d]) (λx hx=>by
  simp only [List.mem_cons,List.not_mem_nil,or_false] at hx
  rcases hx with rfl|rfl
  ·exact ycs (k:=134) h
  ·exact hd) (by simp)
 exact ⟨p.shown,λT Q g=>zl6 (.inr (h2 T g)) (by omega)⟩
theorem zrh {T:Sto}{k:Nat}:∀{xs:List D}{x:D},x∈xs->zak T k x=none->pyAll T k xs=none
 | [],_,h,_=>by cases h
 | y :: ys,x,h,e=>by
  unfold pyAll
  rcases List.mem_cons.mp h with rfl|h
  ·rw [e];rfl
  ·rw [zrh h e]
   cases zak T k y <;> rfl
theorem yct {n:Nat}{xs:List D}{x:D}(h:OkM asks rs) (hn:S[n]? = some (.lst xs)) (hx:x∈xs) (hs:∀y∈xs,ShT S 60 300 y) (no:∀T,Gr S T->zak T 138 x=none) (hl:xs.length<=40):Rp (mD asks rs) S (.ref n):=by
 have sz:=zgr
 obtain ⟨p,h1,h2⟩:=zrf (S:=S) (k:=55) h
 obtain ⟨ps,h3,h4,h5⟩:=zl5 xs hs
 have hz:(PyData.tuple [p,.list ps]).shown.length<=sizeLine:=by
  have l1:=zqg 300 ps h4
  have:=zhp 20000 [p,.list ps] λq hq=>by
   simp only [List.mem_cons,List.not_mem_nil,or_false] at hq
   rcases hq with rfl|rfl
   ·exact h1
   ·have:300*ps.length<=300*40:=Nat.mul_le_mul_left _ (by omega)
    omega
  simp at this
  omega
 refine ⟨(PyData.tuple [p,.list ps]).shown,λT Q g=>?_⟩
 have gn:=g.get hn
 have e1:zc3 [.tup [mD asks rs,.ref n]] T=none:=by
  unfold zc3;dsimp only
  unfold pyT pyTs pyTs
  have:pyT T 139 (.ref n)=none:=by unfold pyT;rw [gn]
  rw [this]
  cases pyT T 139 (mD asks rs) <;> rfl
 have e2:ze1 [.tup [mD asks rs,.ref n]] T=none:=by
  unfold ze1;dsimp only
  unfold zak pyAll pyAll
  have:zak T 139 (.ref n)=none:=by
   unfold zak;rw [zcy gn]
   show (pyAll T 138 xs).bind _=_
   rw [zrh hx (no T g)];rfl
  rw [this]
  cases zak T 139 (mD asks rs) <;> rfl
 have:zc5 [.tup [mD asks rs,.ref n]] T=some (.str (PyData.tuple [p,.list ps]).shown,T):=by
  unfold zc5 zei
  rw [e1,e2]
  show ze9 [.tup [mD asks rs,.ref n]] T=_
  unfold ze9
  dsimp only
  rw [gn]
  dsimp only
  rw [h2 T g,h5 T g]
  dsimp only [Option.bind_some]
  unfold txU
  rw [if_pos hz]
 rw [this,zav]
end
structure Atm (y:D):Prop where
 sh:∃p:PyData,p.shown.length<=200/\∀(S:Sto) (k:Nat),zak S (k+4) y=some p
 ty:∃T,∀S,tyD S y=some T
def smI (y:D):Prop:=∃w:Nat,w<1000/\y=.int (w:Int)
inductive Odd (S:Sto):D->Prop
 | lst (n:Nat) (xs:List D) (hn:S[n]? = some (.lst xs)) (h3:3<=n) (h:∀x∈xs,smI x) (hl:xs.length<=12):Odd S (.ref n)
 | dct (n:Nat) (kvs:List (L2.Key × D)) (hn:S[n]? = some (.dct kvs)) (h3:3<=n) (h:kvs=[]\/∃w:Nat,w<1000/\kvs=[(Sum.inl (w:Int),.int 0)]):Odd S (.ref n)
inductive El (S:Sto) (ds:List D):Prop
 | A (h:∀y∈ds,Atm y)
 | B (x:D) (o:Odd S x) (h:∀y∈ds,smI y\/y=x)
inductive Spo (N:Nat) (S:Sto):D->Prop
 | atm (d:D) (h:Atm d) (hn:∀ds,d≠.tup ds):Spo N S d
 | odd (d:D) (h:Odd S d):Spo N S d
 | tup (ds:List D) (hl:ds.length<=N) (h:El S ds):Spo N S (.tup ds)
 | lst (n:Nat) (ds:List D) (hn:S[n]? = some (.lst ds)) (h3:3<=n) (hl:ds.length<=N) (h:El S ds):Spo N S (.ref n)
theorem Odd.fr {S S':Sto}{d:D}(f:Fr S S') (h:Odd S d):Odd S' d:=by
 cases h with
 | lst n xs hn h3 h hl=>exact .lst n xs (f n _ (by omega) hn) h3 h hl
 | dct n kvs hn h3 h=>exact .dct n kvs (f n _ (by omega) hn) h3 h
theorem El.fr {S S':Sto}{ds:List D}(f:Fr S S') (h:El S ds):El S' ds:=by
 cases h with
 | A h=>exact .A h
 | B x o h=>exact .B x (o.fr f) h
theorem Spo.fr {N:Nat}{S S':Sto}{d:D}(f:Fr S S') (h:Spo N S d):Spo N S' d:=by
 cases h with
 | atm _ h hn=>exact .atm _ h hn
 | odd _ h=>exact .odd _ (h.fr f)
 | tup ds hl h=>exact .tup ds hl (h.fr f)
 | lst n ds hn h3 hl h=>exact .lst n ds (f n _ (by omega) hn) h3 hl (h.fr f)
theorem Atm.s {S:Sto}{y:D}{k:Nat}(h:Atm y):Sh S (k+4) 200 y:=let ⟨p,h1,h2⟩:=h.sh;⟨p,h1,λT _=>h2 T k⟩
theorem smI.s {S:Sto}{y:D}{k:Nat}(h:smI y):Sh S (k+1) 10 y:=by
 obtain ⟨w,hw,rfl⟩:=h
 exact zl1 (by omega)
theorem smI.t {S:Sto}{y:D}{k:Nat}(h:smI y):ShT S (k+1) 10 y:=by
 obtain ⟨w,hw,rfl⟩:=h
 exact zjc (by omega)
theorem smI.ty {S:Sto}{y:D}(h:smI y):Ty S y:=by
 obtain ⟨w,hw,rfl⟩:=h
 exact ⟨_,rfl⟩
theorem Odd.ty {S:Sto}{d:D}(h:Odd S d):Ty S d:=by
 cases h with
 | lst n xs hn h3 h hl=>exact ⟨"list",by unfold tyD;dsimp only;rw [hn]⟩
 | dct n kvs hn h3 h=>exact ⟨"dict",by unfold tyD;dsimp only;rw [hn]⟩
theorem Odd.nt {S:Sto}{d:D}(h:Odd S d):∀ds,d≠.tup ds:=λds e=>by subst e;cases h
theorem Odd.sh {S:Sto}{d:D}(h:Odd S d):(∀k,Sh S (k+3) 200 d)\/((∀k,ShT S (k+3) 200 d)/\∀T k,Gr S T->zak T (k+1) d=none):=by
 cases h with
 | lst n xs hn h3 h hl =>
  refine .inl λk=>Sh.le (zqh (k:=k+2) (B:=10) (n:=12) (zcy hn) (λx hx=>(h x hx).s) hl) (by decide)
 | dct n kvs hn h3 h =>
  refine .inr ⟨λk=>?_,λT k g=>?_⟩
  ·rcases h with rfl|⟨w,hw,rfl⟩
   ·exact ⟨.dict [],by decide +kernel,λT g=>by unfold pyT;rw [g.get hn]⟩
   ·refine ⟨.dict [(.int (w:Int),.int 0)],?_,λT g=>?_⟩
    ·have:(PyData.dict [(.int (w:Int),.int 0)]).shown.length<=(PyData.int (w:Int)).shown.length+100:=by
      simp only [PyData.shown,PyData.shownKv]
      unfold dictText
      show (Str.ofString "{"++(Str.ofString (toString (w:Int))++Str.ofString ": "++Str.ofString (toString (0:Int)))++Str.ofString "}").length<=(Str.ofString (toString (w:Int))).length+100
      rw [Str.length_append,Str.length_append,Str.length_append,Str.length_append]
      have l1:(Str.ofString "{").length=1:=by decide +kernel
      have l2:(Str.ofString ": ").length=2:=by decide +kernel
      have l3:(Str.ofString (toString (0:Int))).length=1:=by decide +kernel
      have l4:(Str.ofString "}").length=1:=by decide +kernel
      omega
     have l:=(zjc (S:=S) (k:=0) (n:=w) (by omega))
     obtain ⟨p,h1,h2⟩:=l
     have e:=h2 S (Gr.refl _)
     unfold pyT at e
     rw [if_pos (zd6 (by omega))] at e
     cases e
     omega
    ·unfold pyT;rw [g.get hn]
     dsimp only
     rw [if_pos (zd6 (by omega))]
     unfold pyT
     rw [if_pos (by decide)];rfl
  ·unfold zak lstOf;rw [g.get hn];rfl
structure OkT (m:D) (S:Sto) (d:D):Prop where
 ty:Tys S d
 sz:∀ds,d=.tup ds->ds.length<=100
 rp:Rp m S d
theorem Atm.tys {S:Sto}{d:D}(h:Atm d) (hn:∀ds,d≠.tup ds):Tys S d:=by
 obtain ⟨T,e⟩:=h.ty
 cases d with
 | tup ds=>exact absurd rfl (hn ds)
 | _=>exact ⟨T,e S⟩
theorem Odd.tys {S:Sto}{d:D}(h:Odd S d):Tys S d:=by
 have t:=h.ty
 cases d with
 | tup ds=>exact absurd rfl (h.nt ds)
 | _=>exact t
theorem El.tys {S:Sto}{ds:List D}(h:El S ds):∀y∈ds,Ty S y:=λy hy=>by
 cases h with
 | A h=>obtain ⟨T,e⟩:=(h y hy).ty;exact ⟨T,e S⟩
 | B x o h =>
  rcases h y hy with z|rfl
  ·exact z.ty
  ·exact o.ty
theorem El.sh {S:Sto}{ds:List D}(h:El S ds):(∀y∈ds,∀k,Sh S (k+4) 200 y)\/(∃x∈ds,(∀y∈ds,∀k,ShT S (k+3) 200 y)/\∀T k,Gr S T->zak T (k+1) x=none):=by
 cases h with
 | A h=>exact .inl λy hy k=>(h y hy).s
 | B x o h =>
  rcases o.sh with s|⟨s,no⟩
  ·refine .inl λy hy k=>?_
   rcases h y hy with z|rfl
   ·exact Sh.le (z.s (k:=k+3)) (by decide)
   ·exact s (k+1)
  ·by_cases hx:x∈ds
   ·refine .inr ⟨x,hx,λy hy k=>?_,no⟩
    rcases h y hy with z|rfl
    ·exact ShT.le (z.t (k:=k+2)) (by decide)
    ·exact s k
   ·refine .inl λy hy k=>?_
    rcases h y hy with z|rfl
    ·exact Sh.le (z.s (k:=k+3)) (by decide)
    ·exact absurd hy hx
theorem Spo.le {N N':Nat}{S:Sto}{d:D}(hN:N<=N') (h:Spo N S d):Spo N' S d:=by
 cases h with
 | atm _ h hn=>exact .atm _ h hn
 | odd _ h=>exact .odd _ h
 | tup ds hl h=>exact .tup ds (by omega) h
 | lst n ds hn h3 hl h=>exact .lst n ds hn h3 (by omega) h
theorem Spo.ok {asks:Nat}{rs:List (List Cl)}{S:Sto}{d:D}(m:OkM asks rs) (h:Spo 40 S d):OkT (mD asks rs) S d:=by
 cases h with
 | atm _ h hn=>exact ⟨h.tys hn,λds e=>absurd e (hn ds),zjd m (Sh.le (h.s (k:=135)) (by decide))⟩
 | odd _ h =>
  refine ⟨h.tys,λds e=>absurd e (h.nt ds),?_⟩
  rcases h.sh with s|⟨s,_⟩
  ·exact zjd m (Sh.le (s 136) (by decide))
  ·exact zrg m (ShT.le (s 136) (by decide))
 | tup ds hl h =>
  refine ⟨h.tys,λds' e=>(by cases e;omega),?_⟩
  rcases h.sh with s|⟨x,hx,s,no⟩
  ·exact zjd m (Sh.le (zgn (k:=138) (B:=200) (n:=40) (λy hy=>s y hy 134) hl) (by decide))
  ·exact zrg m (ShT.le (zgq (k:=138) (B:=200) (n:=40) (λy hy=>s y hy 135) hl) (by decide))
 | lst n ds hn h3 hl h =>
  refine ⟨⟨"list",by unfold tyD;dsimp only;rw [hn]⟩,λds' e=>(by cases e),?_⟩
  rcases h.sh with s|⟨x,hx,s,no⟩
  ·exact zjd m (Sh.le (zqh (k:=138) (B:=200) (n:=40) (zcy hn) (λy hy=>s y hy 134) hl) (by decide))
  ·exact yct m hn hx (λy hy=>ShT.le (s y hy 57) (by decide)) (λT g=>no T 137 g) (by omega)
theorem Tys.gr {S S':Sto}{d:D}(g:Gr S S') (h:Tys S d):Tys S' d:=by
 cases d with
 | tup ds=>exact λx hx=>(show Ty S x from h x hx).gr g
 | _=>exact Ty.gr h g
theorem zri {asks:Nat}{rs:List (List Cl)}{S:Sto}{d:D}{b:Bool}(m:OkM asks rs) (h8:rs.length<=8) (t:OkT (mD asks rs) S d) (hb:zbt rs.length (2 ^ bOf rs.length) d=b):Wo (zfc [mD asks rs,d,.bl b] S) λv S'=>v=.bl true/\Gr S S':=by
 have sz2:2<=sizeLine:=by decide
 obtain ⟨z,rp⟩:=t.rp
 have bb:isI "bool" "bool" = true:=by decide
 unfold zfc zqn
 dsimp! only [zb8]
 generalize hM:mD asks rs=dM
 rw [hM] at rp
 refine zcw (l':=[some dM,some d,some (.bl b),some (.str z),none,none]) (S':=S) ?_ ?_
 ·simp only [zbe,zat,zas,zar,zal,qg0,qg1,zan,zcu,List.length_cons,List.length_nil,Nat.reduceAdd,sz2,true_and,rp S _ (Gr.refl _),za0,qs0,qs1]
  all_goals first|trivial|exact ⟨nofun,nofun,nofun⟩|exact ⟨nofun,nofun⟩
 refine za6 (λl S'=>Gr S S'/\∃x4 x5,l=[some dM,some d,some (.bl b),some (.str z),x4,x5]) ?_ ?_
 ·refine zi6 (n:=2) (λi l S'=>Gr S S'/\∃x4 x5,l=[some dM,some d,some (.bl b),some (.str z),x4,x5]) (λ_ _=>False) (as1 rfl) (by omega) ⟨Gr.refl _,_,_,rfl⟩ ?_ ?_ (λd l S h=>h.elim)
  ·rintro i l S1 hi ⟨g1,x4,x5,rfl⟩
   simp only [za0,qs0,qs1]
   refine za6 (λl S'=>Gr S S'/\l=[some dM,some d,some (.bl b),some (.str z),‹i›,some (.bl b)]) ?_ ?_
   ·simp only [zbe,zat,zas,zar,zal,qg0,qg1,zan]
    rw [<-hM]
    refine (yck m h8 (t.ty.gr g1) t.sz).mono ?_
    rintro v S2 ⟨rfl,g2⟩
    simp only [za0,qs0,qs1,hb]
    first|exact ⟨nofun,g1.trans g2,nofun⟩|exact ⟨g1.trans g2,nofun⟩
   rintro l S2 ⟨g2,rfl⟩
   simp only [zbr,zda,zct,zbl,zb9,za4,zal,qg0,qg1,zan,zhk,bb,za9,Bool.not_true,qbf,if_false]
   have e:∀Q':D->Sto->Prop,Wo (dNe (.bl b) (.bl b) S2) Q' = Q' (.bl false) S2:=λQ'=>by
    have:dNe (.bl b) (.bl b) S2=some (.bl false,S2):=by cases b <;> rfl
    rw [this,zav]
   rw [e]
   simp only [za9,qbf,if_false,zcd]
   first|exact .inl ⟨(by first|exact .inl rfl|exact .inl trivial|trivial),g2,_,_,rfl⟩|exact ⟨.inl rfl,g2,_,_,rfl⟩|exact .inl ⟨.inl rfl,g2,_,_,rfl⟩|exact ⟨_,rfl,.inl ⟨.inl rfl,g2,_,_,rfl⟩⟩
  ·rintro l S1 ⟨g1,x4,x5,rfl⟩
   first|exact ⟨nofun,g1,_,_,rfl⟩|exact ⟨g1,_,_,rfl⟩
 rintro l S1 ⟨g1,x4,x5,rfl⟩
 simp only [zbs,za4,zat,zas,zar,zal,qg0,qg1,zan,zcu,List.length_cons,List.length_nil,Nat.reduceAdd,sz2,true_and,rp S1 _ g1]
 have e:∀Q':D->Sto->Prop,Wo (dEq (.str z) (.str z) S1) Q' = Q' (.bl true) S1:=λQ'=>by
  have:dEq (.str z) (.str z) S1=some (.bl true,S1):=by
   show ((sEq (.str z) (.str z)).bind λb=>some (D.bl b,S1))=_
   have:sEq (.str z) (.str z)=some true:=by show some (decide (z=z))=_;simp
   rw [this];rfl
  rw [this,zav]
 rw [e]
 first|exact ⟨nofun,g1⟩|exact ⟨g1⟩
theorem zhz {y:D}{T:String}(p:PyData) (hl:p.shown.length<=200) (h:∀(S:Sto) (k:Nat),zak S (k+4) y=some p) (ht:∀S,tyD S y=some T):Atm y:=⟨⟨p,hl,h⟩,T,ht⟩
theorem zrj:Atm .non:=zhz .none (by decide +kernel) (λS k=>by unfold zak;rfl) λ_=>rfl
theorem zl7 (b:Bool):Atm (.bl b):=zhz (.bool b) (by cases b <;> decide +kernel) (λS k=>by unfold zak;rfl) λ_=>rfl
theorem zl8 {i:Int}(h1:(PyData.int i).shown.length<=200) (h2:i.natAbs.log2<1920):Atm (.int i):=zhz (.int i) h1 (λS k=>by unfold zak;rw [if_pos h2]) λ_=>rfl
theorem zh0 {w:Nat}(h:w<1000000):Atm (.int (w:Int)):=by
 refine zl8 ?_ (zd6 h)
 have:(PySem.Str.ofString (toString (w:Int))).length<=10:=PySem.W.KT.len_num (by omega) (by omega)
 show (PySem.Str.ofString (toString (w:Int))).length<=200
 omega
theorem smI.a {y:D}(h:smI y):Atm y:=by
 obtain ⟨w,hw,rfl⟩:=h
 exact zh0 (by omega)
theorem zje {z:Str}(h:(PyData.str z).shown.length<=200):Atm (.str z):=zhz (.str z) h (λS k=>by unfold zak;rfl) λ_=>rfl
theorem ycu {y:D}(p:PyData) (hl:(PyData.tuple [p]).shown.length<=200) (h:∀(S:Sto) (k:Nat),zak S (k+3) y=some p):Atm (.tup [y]):=by
 refine zhz (.tuple [p]) hl (λS k=>?_) λ_=>rfl
 unfold zak pyAll pyAll
 rw [h S k];rfl
theorem ycv {w:Nat}(h:w<1000000):(PyData.tuple [.int (w:Int)]).shown.length<=200:=by
 have:=zhp 10 [.int (w:Int)] λq hq=>by
  rw [List.mem_singleton.mp hq]
  exact PySem.W.KT.len_num (by omega) (by omega)
 simp at this
 omega
theorem zl9 {w:Nat}(h:w<1000000):Atm (.tup [.int (w:Int)]):=ycu (.int (w:Int)) (ycv h) λS k=>by unfold zak;rw [if_pos (zd6 h)]
noncomputable def zjf (i j:Nat):List D:=[.non,.bl true,.str "",.int 0,.ref i,.ref j,.str "01",.tup [.tup [.int 0],.tup [.int 1]],.tup [.non],.tup [.str "0"]]
theorem zrk {S:Sto}{i j:Nat}(hi:S[i]? = some (.dct [])) (hj:S[j]? = some (.lst [])) (i3:3<=i) (j3:3<=j):∀d∈zjf i j,Spo 20 S d:=by
 intro d hd
 unfold zjf at hd
 simp only [List.mem_cons,List.not_mem_nil,or_false] at hd
 rcases hd with rfl|rfl|rfl|rfl|rfl|rfl|rfl|rfl|rfl|rfl
 ·exact .atm _ zrj λ_ e=>by cases e
 ·exact .atm _ (zl7 true) λ_ e=>by cases e
 ·exact .atm _ (zje (by decide +kernel)) λ_ e=>by cases e
 ·exact .atm _ (zh0 (w:=0) (by omega)) λ_ e=>by cases e
 ·exact .odd _ (.dct i [] hi i3 (.inl rfl))
 ·exact .odd _ (.lst j [] hj j3 (λx hx=>by cases hx) (by decide))
 ·exact .atm _ (zje (by decide +kernel)) λ_ e=>by cases e
 ·refine .tup _ (by decide) (.A λy hy=>?_)
  simp only [List.mem_cons,List.not_mem_nil,or_false] at hy
  rcases hy with rfl|rfl
  ·exact zl9 (w:=0) (by omega)
  ·exact zl9 (w:=1) (by omega)
 ·refine .tup _ (by decide) (.A λy hy=>?_)
  rw [List.mem_singleton.mp hy];exact zrj
 ·refine .tup _ (by decide) (.A λy hy=>?_)
  rw [List.mem_singleton.mp hy];exact zje (by decide +kernel)
noncomputable def zh1 (x o n i j m:Nat):List D:=[.int (x:Int),.int ((2 ^ o:Nat):Int),.int (-1),.bl (decide ((n:Int)=1)),.bl (decide ((n:Int)=1)),.str (toString (n:Int)),.tup [.int (n:Int)],.int ((n:Int)+10 ^ Int.toNat 30)]++[.ref i,.ref j,.ref m]
theorem ycw {S:Sto}{x o n i j m:Nat}(hx:x<8) (ho:o<=3) (hn:n<8) (hi:S[i]? = some (.lst [.int (n:Int)])) (hj:S[j]? = some (.dct [])) (hm:S[m]? = some (.dct [(Sum.inl (n:Int),.int 0)])) (i3:3<=i) (j3:3<=j) (m3:3<=m):∀d∈zh1 x o n i j m,Atm d\/Odd S d:=by
 intro d hd
 unfold zh1 at hd
 simp only [List.mem_append,List.mem_cons,List.not_mem_nil,or_false] at hd
 rcases hd with (rfl|rfl|rfl|rfl|rfl|rfl|rfl|rfl)|(rfl|rfl|rfl)
 ·exact .inl (zh0 (by omega))
 ·have:2 ^ o<=2 ^ 3:=Nat.pow_le_pow_right (by decide) ho
  exact .inl (zh0 (by omega))
 ·exact .inl (zl8 (by decide +kernel) (by decide))
 ·exact .inl (zl7 _)
 ·exact .inl (zl7 _)
 ·have:n=0\/n=1\/n=2\/n=3\/n=4\/n=5\/n=6\/n=7:=by omega
  refine .inl (zje ?_)
  rcases this with rfl|rfl|rfl|rfl|rfl|rfl|rfl|rfl <;> decide +kernel
 ·exact .inl (zl9 (by omega))
 ·have:n=0\/n=1\/n=2\/n=3\/n=4\/n=5\/n=6\/n=7:=by omega
  refine .inl ?_
  rcases this with rfl|rfl|rfl|rfl|rfl|rfl|rfl|rfl <;> exact zl8 (by decide +kernel) (by decide +kernel)
 ·exact .inr (.lst i _ hi i3 (λy hy=>by rw [List.mem_singleton.mp hy];exact ⟨n,by omega,rfl⟩) (by simp))
 ·exact .inr (.dct j _ hj j3 (.inl rfl))
 ·exact .inr (.dct m _ hm m3 (.inr ⟨n,by omega,rfl⟩))
theorem zma {xs:List D}{a b:Option Int}{y:D}(h:y∈L3.cutD xs a b):y∈xs:=by
 unfold L3.cutD at h
 first
  | exact List.mem_of_mem_drop (List.mem_of_mem_take h)
  | exact List.mem_of_mem_take (List.mem_of_mem_drop h)
theorem zmb {xs:List D}{a b:Option Int}:(L3.cutD xs a b).length<=xs.length:=by
 unfold L3.cutD
 simp only [List.length_drop,List.length_take]
 omega
theorem zrl {l:Lo}{S:Sto}{Q:D->Sto->Prop}:We ziu l S Q=Q (.ref S.length) (S++[.dct []]):=zav
theorem ycx {i:Int}{S:Sto}{Q:D->Sto->Prop}:Wo (zk1 (.int i) S) Q=Q (.int (-i)) S:=zav
theorem zrm {S:Sto}{xs:List D}{Q:D->Sto->Prop}:Wo (zfu [.tup xs] S) Q=Q (.ref S.length) (S++[.lst xs]):=zav
theorem ycy {w:Nat}{S:Sto}{Q:D->Sto->Prop}(h:w<1000000):Wo (zf6 [.int (w:Int)] S) Q=Q (.str (toString (w:Int))) S:=by
 have:zf6 [.int (w:Int)] S=some (.str (toString (w:Int)),S):=by
  show (if _ then _ else _)=_
  rw [if_pos (zd6 h)]
 rw [this,zav]
theorem ycz {l:Lo}{S:Sto}{i:Nat}{k a:Int}{Q:D->Sto->Prop}(h:l[i]? = some (some (.int k))):We (ze8 i a) l S Q=Q (.ref S.length) (S++[.dct [(Sum.inl k,.int a)]]):=by
 have:ze8 i a l S=some (.ref S.length,S++[.dct [(Sum.inl k,.int a)]]):=by unfold ze8;rw [h]
 show Wo (ze8 i a l S) Q=_
 rw [this,zav]
theorem zmc {ws:List Nat}{n:Nat}(h:∀w∈ws,w<n) (hn:n<=1000):∀y∈zaw ws,smI y:=λy hy=>by
 obtain ⟨w,hw,rfl⟩:=zq5 hy
 exact ⟨w,by have:=h w hw;omega,rfl⟩
theorem yc0 {ws:List Nat}{i:Nat}(h:i<ws.length):L2.atI (zaw ws) (i:Int)=some (.int (ws[i]:Nat)):=by
 obtain ⟨x,h1,_⟩:=zgj (zaw ws) (i:Int) (by omega) (by rw [zdt];omega)
 have h0:=h1
 unfold L2.atI L2.ixN at h1
 rw [if_pos (by omega),if_pos (by rw [zdt];omega)] at h1
 dsimp only [Option.bind_some] at h1
 rw [Int.toNat_natCast] at h1
 rw [h0,<-h1]
 unfold zaw
 rw [qgm,qge h];rfl
theorem zrn {ws:List Nat}{i:Nat}{S:Sto}{Q:D->Sto->Prop}(h:i<ws.length):Wo (za2 (.tup (zaw ws)) (.int (i:Int)) S) Q=Q (.int (ws[i]:Nat)) S:=by
 rw [zlu,yc0 h];exact zc6
theorem zjg {l:Lo}{S:Sto}{w c:Nat}{E:EM}{rest:SM}{Q:Fl->Lo->Sto->Prop}(h3:l[3]? = some (some (.int (w:Int)))) (e:w=c) (h:We E l S λv S'=>Q (.rt v) l S'):Ws (zai (sIf (tE (eOp dEq (zab 3) (eC (.int (c:Int))))) (zay E) zbi) rest) l S Q:=by
 subst e
 simp only [zc2,zbr,zbl,za4,zal,zaz,h3,zan,ze0,decide_true,za9,if_true,zbs]
 exact h
theorem zjh {l:Lo}{S:Sto}{w c:Nat}{E:EM}{rest:SM}{Q:Fl->Lo->Sto->Prop}(h3:l[3]? = some (some (.int (w:Int)))) (e:w≠c) (h:Ws rest l S Q):Ws (zai (sIf (tE (eOp dEq (zab 3) (eC (.int (c:Int))))) (zay E) zbi) rest) l S Q:=by
 have e':¬(w:Int)=(c:Int):=by omega
 simp only [zc2,zbr,zbl,za4,zal,zaz,h3,zan,ze0,e',decide_false,za9,qbf,if_false,zcd]
 exact h
section
variable {ns:List Int}{S:Sto}{k:Int}{ws:List Nat}{many:Nat}
theorem yc1 (hp:Pn ns k S) (hk:k<100000) (ok:OkW many ws) (h1:1<=many) (h8:many<=8):Wo (zhr [.ref 2,.tup (zaw ws),.int (bOf many:Nat)] S) λv S'=>Spo 20 S' v/\Pn ns (k+4) S':=by
 have sz0:0<=sizeLine:=by decide
 have sz1:1<=sizeLine:=by decide
 have sz3:3<=sizeLine:=by decide
 have sz8:8<=sizeLine:=by decide
 have sz10:10<=sizeLine:=by decide
 have sz2:2<=sizeLine:=by decide
 have big:=zgr
 have hl:=ok.len
 obtain ⟨hb1,hb2,hb3⟩:=zff h8
 have p8:2 ^ bOf many<=2 ^ 3:=Nat.pow_le_pow_right (by decide) hb3
 have lt8:∀w∈ws,w<8:=λw hw=>by have:=ok.lt w hw;omega
 have sm:=zmc lt8 (by decide)
 have il:(zaw ws).length=many:=by rw [zdt,hl]
 unfold zhr zqq
 dsimp! only [zb8]
 refine za6 (λl S'=>Pn ns (k+1) S'/\∃w:Nat,w<15/\l=[~~~2,some (.tup (zaw ws)),some (.int (bOf many:Nat)),‹w›,none,none,none,none,none]) ?_ ?_
 ·simp only [zbe,zat,zas,zar,zal,zaz,qg0,qg1,zan]
  refine (zcf ns _ _ 15 hp (by omega) (by decide) (by decide)).mono ?_
  rintro x S2 ⟨⟨d,rfl,hd⟩,p,f⟩
  simp only [za0,qs0,qs1]
  first|exact ⟨nofun,p,d,by omega,rfl⟩|exact ⟨p,d,by omega,rfl⟩
 rintro l S1 ⟨p1,w,hw,rfl⟩
 refine za6 (λl S'=>Pn ns (k+2) S'/\∃a:Nat,a<many/\l=[~~~2,some (.tup (zaw ws)),some (.int (bOf many:Nat)),‹w›,‹a›,none,none,none,none]) ?_ ?_
 ·simp only [zbe,zat,zas,zar,zal,zaz,qg0,qg1,zan,zd5,il]
  refine (zcf ns _ _ (many:Int) p1 (by omega) (by omega) (by omega)).mono ?_
  rintro x S2 ⟨⟨d,rfl,hd⟩,p,f⟩
  simp only [za0,qs0,qs1]
  first|exact ⟨nofun,p.mono (by omega),d,by omega,rfl⟩|exact ⟨p.mono (by omega),d,by omega,rfl⟩
 rintro l S2 ⟨p2,a,ha,rfl⟩
 refine za6 (λl S'=>Pn ns (k+3) S'/\∃x:Nat,x<8/\l=[~~~2,some (.tup (zaw ws)),some (.int (bOf many:Nat)),‹w›,‹a›,‹x›,none,none,none]) ?_ ?_
 ·simp only [zbe,za4,zat,zas,zar,zal,zaz,qg0,qg1,zan,zd5,il]
  refine (zcf ns _ _ (many:Int) p2 (by omega) (by omega) (by omega)).mono ?_
  rintro x S3 ⟨⟨d,rfl,hd⟩,p,f⟩
  have hdl:d<ws.length:=by omega
  rw [zrn hdl]
  simp only [za0,qs0,qs1]
  first|exact ⟨nofun,p.mono (by omega),ws[d],lt8 _ (List.getElem_mem hdl),rfl⟩|exact ⟨p.mono (by omega),ws[d],lt8 _ (List.getElem_mem hdl),rfl⟩
 rintro l S3 ⟨p3,x,hx,rfl⟩
 refine za6 (λl S'=>Pn ns (k+4) S'/\∃o:D,Spo 20 S' o/\l=[~~~2,some (.tup (zaw ws)),some (.int (bOf many:Nat)),‹w›,‹a›,‹x›,some o,none,none]) ?_ ?_
 ·have l3:=p3.two
  simp only [zbe,za4,zat,zas,zar,zal,zaz,zrl,qg0,qg1,zan,zcv,zcu,List.length_cons,List.length_nil,Nat.reduceAdd,sz0,sz1,sz2,sz10,true_and]
  have g1:(S3++[Ob.dct []]++[Ob.lst []])[S3.length]? = some (.dct []):=by rw [List.getElem?_append_left (by simp),za5]
  have g2:(S3++[Ob.dct []]++[Ob.lst []])[(S3++[Ob.dct []]).length]? = some (.lst []):=za5 _ _
  have pp:=(p3.push (.dct [])).push (.lst [])
  have e3:(S3++[Ob.dct []]).length=S3.length+1:=by simp
  revert g1 g2 pp
  generalize hT:S3++[Ob.dct []]++[Ob.lst []]=T
  rw [e3]
  intro g1 g2 pp
  refine (zcf ns _ _ 10 (pp.push _) (by omega) (by decide) (by decide)).mono ?_
  rintro v S4 ⟨⟨d,rfl,hd⟩,p,f⟩
  have f1:=f S3.length _ (by omega) (Gr.get ⟨_,rfl⟩ g1)
  have f2:=f (S3.length+1) _ (by omega) (Gr.get ⟨_,rfl⟩ g2)
  have hk:=pp.kept f
  obtain ⟨o,o1,o2⟩:=zgj (zjf S3.length (S3.length+1)) (d:Int) (by omega) (by simp [zjf];omega)
  have hq:∀Q':D->Sto->Prop,Q' o S4->Wo (za2 (.ref T.length) (.int (d:Int)) S4) Q':=λQ' q=>by
   rw [zdi]
   refine ⟨_,hk,?_⟩
   exact ⟨o,o1,q⟩
  refine hq _ ?_
  simp only [za0,qs0,qs1]
  first|exact ⟨nofun,p.mono (by omega),o,zrk f1 f2 (by omega) (by omega) o o2,rfl⟩|exact ⟨p.mono (by omega),o,zrk f1 f2 (by omega) (by omega) o o2,rfl⟩
 rintro l S4 ⟨p4,o,so,rfl⟩
 have l4:=p4.two
 have f1:∀S',Fr S4 S'->Spo 20 S' o:=λS' f=>so.fr f
 by_cases w0:w=0
 ·refine zjg (c:=0) rfl w0 ?_
  simp only [zat,zas,zar,zal,qg0,qg1,zan,zrm]
  exact ⟨.odd _ (.lst _ _ (za5 _ _) l4 sm (by omega)),p4.push _⟩
 refine zjh (c:=0) rfl w0 ?_
 have cutA:∀(a b:Option Int) (y:D),y∈L3.cutD (zaw ws) a b->smI y:=λa b y hy=>sm y (zma hy)
 have cutL:∀(a b:Option Int),(L3.cutD (zaw ws) a b).length<=8:=λa b=>by have:=zmb (xs:=zaw ws) (a:=a) (b:=b);omega
 by_cases w1:w=1
 ·refine zjg (c:=1) rfl w1 ?_
  simp only [za4,zhn,zhl,zhm,zal,zaz,qg0,qg1,zan,zfa,zho,zgm]
  have e1:=cutL none (some (a:Int))
  have e2:=cutL (some ((a:Int)+1)) none
  refine ⟨_,rfl,_,rfl,by omega,.tup _ (by rw [qla];omega) (.A λy hy=>?_),p4⟩
  rcases List.mem_append.mp hy with z|z
  ·exact (cutA _ _ y z).a
  ·exact (cutA _ _ y z).a
 refine zjh (c:=1) rfl w1 ?_
 by_cases w2:w=2
 ·refine zjg (c:=2) rfl w2 ?_
  simp only [za4,zat,zas,zar,zal,qg0,qg1,zan,zcu,List.length_cons,List.length_nil,Nat.reduceAdd,sz1,true_and,zgm]
  refine ⟨by omega,.tup _ (by rw [qla,il];simp;omega) (.A λy hy=>?_),p4⟩
  rcases List.mem_append.mp hy with z|z
  ·exact (sm y z).a
  ·rw [List.mem_singleton.mp z];exact zh0 (by omega)
 refine zjh (c:=2) rfl w2 ?_
 by_cases w3:w=3
 ·refine zjg (c:=3) rfl w3 ?_
  simp only [zal,qg0,qg1,zan]
  exact ⟨so,p4⟩
 refine zjh (c:=3) rfl w3 ?_
 have hal:a<ws.length:=by omega
 have hn8:ws[a]<8:=lt8 _ (List.getElem_mem hal)
 refine zcw (l':=[~~~2,some (.tup (zaw ws)),some (.int (bOf many:Nat)),‹w›,‹a›,‹x›,some o,some (.int (ws[a]:Nat)),none]) (S':=S4) ?_ ?_
 ·simp only [zbe,za4,zal,qg0,qg1,zan,zrn hal,za0,qs0,qs1]
  all_goals first|trivial|exact ⟨nofun,nofun,nofun⟩
 generalize ws[a]=n at hn8
 refine zcw (l':=[~~~2,some (.tup (zaw ws)),some (.int (bOf many:Nat)),‹w›,‹a›,‹x›,some o,‹n›,some (.ref S4.length)]) (S':=S4++[.lst [.int (x:Int),.int ((2 ^ bOf many:Nat):Int),.int (-1),.bl (decide ((n:Int)=1)),.bl (decide ((n:Int)=1)),.str (toString (n:Int)),.tup [.int (n:Int)],.int ((n:Int)+10 ^ Int.toNat 30)]]) ?_ ?_
 ·have f5:(0:Int)<=30/\(30:Int)<=1000000/\Int.natAbs 10<2 ^ 64:=by decide
  simp! only [ycx,zl2 (show bOf many<=1000000 by omega),ycy (show n<1000000 by omega),f5,sz1,sz8,true_and,and_self]
  all_goals first|trivial|exact ⟨nofun,nofun,nofun⟩
 have q4:=p4.push (.lst [.int (x:Int),.int ((2 ^ bOf many:Nat):Int),.int (-1),.bl (decide ((n:Int)=1)),.bl (decide ((n:Int)=1)),.str (toString (n:Int)),.tup [.int (n:Int)],.int ((n:Int)+10 ^ Int.toNat 30)])
 have h0:(S4++[Ob.lst [.int (x:Int),.int ((2 ^ bOf many:Nat):Int),.int (-1),.bl (decide ((n:Int)=1)),.bl (decide ((n:Int)=1)),.str (toString (n:Int)),.tup [.int (n:Int)],.int ((n:Int)+10 ^ Int.toNat 30)]])[S4.length]? = some (.lst [.int (x:Int),.int ((2 ^ bOf many:Nat):Int),.int (-1),.bl (decide ((n:Int)=1)),.bl (decide ((n:Int)=1)),.str (toString (n:Int)),.tup [.int (n:Int)],.int ((n:Int)+10 ^ Int.toNat 30)]):=za5 _ _
 revert q4 h0
 generalize S4++[Ob.lst [.int (x:Int),.int ((2 ^ bOf many:Nat):Int),.int (-1),.bl (decide ((n:Int)=1)),.bl (decide ((n:Int)=1)),.str (toString (n:Int)),.tup [.int (n:Int)],.int ((n:Int)+10 ^ Int.toNat 30)]]=S5
 intro q4 h0
 have l5:=q4.two
 refine za6 (λl S'=>Pn ns (k+4) S'/\∃i j m r,3<=i/\3<=j/\3<=m/\S'[i]? = some (.lst [.int (n:Int)])/\S'[j]? = some (.dct [])/\S'[m]? = some (.dct [(Sum.inl (n:Int),.int 0)])/\S'[r]? = some (.lst (zh1 x (bOf many) n i j m))/\l=[~~~2,some (.tup (zaw ws)),some (.int (bOf many:Nat)),‹w›,‹a›,‹x›,some o,‹n›,~~~r]) ?_ ?_
 ·simp only [zbe,za4,zat,zas,zar,zal,zaz,zrl,qg0,qg1,zan,zcv,List.length_cons,List.length_nil,Nat.reduceAdd,sz1,sz3,true_and]
  rw [ycz (k:=(n:Int)) rfl]
  have a1:(S5++[Ob.lst [.int (n:Int)]]++[Ob.dct []]++[Ob.dct [(Sum.inl (n:Int),.int 0)]])[S5.length]? = some (.lst [.int (n:Int)]):=Gr.get ⟨_,rfl⟩ (Gr.get ⟨_,rfl⟩ (za5 S5 _))
  have a2:(S5++[Ob.lst [.int (n:Int)]]++[Ob.dct []]++[Ob.dct [(Sum.inl (n:Int),.int 0)]])[(S5++[Ob.lst [.int (n:Int)]]).length]? = some (.dct []):=Gr.get ⟨_,rfl⟩ (za5 (S5++[Ob.lst [.int (n:Int)]]) _)
  have a3:(S5++[Ob.lst [.int (n:Int)]]++[Ob.dct []]++[Ob.dct [(Sum.inl (n:Int),.int 0)]])[(S5++[Ob.lst [.int (n:Int)]]++[Ob.dct []]).length]? = some (.dct [(Sum.inl (n:Int),.int 0)]):=za5 _ _
  have a0:(S5++[Ob.lst [.int (n:Int)]]++[Ob.dct []]++[Ob.dct [(Sum.inl (n:Int),.int 0)]])[S4.length]? = _:=Gr.get ⟨_,rfl⟩ (Gr.get ⟨_,rfl⟩ (Gr.get ⟨_,rfl⟩ h0))
  have pp:=((q4.push (.lst [.int (n:Int)])).push (.dct [])).push (.dct [(Sum.inl (n:Int),.int 0)])
  have c1:(S5++[Ob.lst [.int (n:Int)]]).length=S5.length+1:=by simp
  have c2:(S5++[Ob.lst [.int (n:Int)]]++[Ob.dct []]).length=S5.length+2:=by simp
  rw [c1] at a2
  rw [c2] at a3
  rw [c1,c2]
  revert a0 a1 a2 a3 pp
  generalize S5++[Ob.lst [.int (n:Int)]]++[Ob.dct []]++[Ob.dct [(Sum.inl (n:Int),.int 0)]]=T
  intro a1 a2 a3 a0 pp
  rw [ya0 (n:=S4.length) (m:=T.length) (Gr.get ⟨_,rfl⟩ a0) (za5 _ _)]
  simp only [za0,qs0,qs1]
  refine ⟨by simp;omega,(pp.push _).push _,S5.length,S5.length+1,S5.length+2,_,by omega,by omega,by omega,?_,?_,?_,za5 _ _,rfl⟩
  ·exact Gr.get ⟨_,rfl⟩ (Gr.get ⟨_,rfl⟩ a1)
  ·exact Gr.get ⟨_,rfl⟩ (Gr.get ⟨_,rfl⟩ a2)
  ·exact Gr.get ⟨_,rfl⟩ (Gr.get ⟨_,rfl⟩ a3)
 rintro l S6 ⟨p6,i,j,m,r,i3,j3,m3,b1,b2,b3,b4,rfl⟩
 obtain ⟨y,y1,y2⟩:=zgj (zh1 x (bOf many) n i j m) ((w:Int)-4) (by omega) (by simp [zh1];omega)
 have yo:=ycw hx hb3 hn8 b1 b2 b3 i3 j3 m3 y y2
 simp only [zbs,za4,zat,zas,zar,zhn,zhl,zhm,zal,zaz,qg0,qg1,zan,zfa,zho,zdz,zdi,zcy b4,zc6,y1]
 have e1:=cutL none (some (a:Int))
 have e2:=cutL (some ((a:Int)+1)) none
 have spo:∀A B:List D,A.length<=8->B.length<=8->(∀z∈A,smI z)->(∀z∈B,smI z)->Spo 20 S6 (.tup (A++[y]++B)):=λA B hA hB sA sB=>by
  refine .tup _ (by simp;omega) ?_
  have mem:∀z∈A++[y]++B,smI z\/z=y:=λz hz=>by
   simp only [List.mem_append,List.mem_singleton] at hz
   rcases hz with (hz|hz)|hz
   ·exact .inl (sA z hz)
   ·exact .inr hz
   ·exact .inl (sB z hz)
  rcases yo with yo|yo
  ·refine .A λz hz=>?_
   rcases mem z hz with q|rfl
   ·exact q.a
   ·exact yo
  ·exact .B y yo mem
 simp only [zcu,List.length_cons,List.length_nil,Nat.reduceAdd,sz1,true_and,zgm]
 refine ⟨_,rfl,by omega,_,rfl,by rw [qla,List.length_singleton];omega,spo _ _ e1 e2 (cutA _ _) (cutA _ _),p6⟩
end
theorem yc2 {i:Nat}{ok:Str->Bool}{mN mS:SM}{r:ZM}{l:Lo}{S S':Sto}{c:Str}{Q:Fl->Lo->Sto->Prop}(h1:mN l S=none) (h2:r l S=some (c,S')) (hc:ok c=true) (h:Ws mS (l.set i (some (.ref S'.length))) (S'++[.exc c]) λf l2 S2=>f=.nx/\Q .nx (l2.set i none) S2):Ws (zhh i ok mN r mS) l S Q:=by
 obtain ⟨f,l2,S2,e,rfl,q⟩:=h
 refine ⟨.nx,l2.set i none,S2,?_,q⟩
 unfold zhh
 rw [h1]
 dsimp only
 rw [h2]
 dsimp only
 rw [if_pos hc,e];rfl
theorem zmd {tab:List (Str × Bool)}{n:Nat}{S:Sto}{c:Str}{b:Bool}{Q:D->Sto->Prop}(h:S[n]? = some (.exc c)) (hb:tab.lookup c=some b):Wo (zdd tab (.ref n) S) Q=Q (.bl b) S:=by
 unfold zdd
 simp only [h,hb]
 exact zav
theorem lk1 {b:Bool}:([("TooMany",b)]:List (Str × Bool)).lookup ("TooMany":Str)=some b:=by
 rw [List.lookup_cons];simp
theorem yc3 {S:Sto}{a b:Ob}:(S++[a]).set S.length b=S++[b]:=by simp
theorem zro (S:Sto) (k:Nat):pyAll S (k+1) [.bl true,.bl false,.bl false,.bl false]=some [.bool true,.bool false,.bool false,.bool false]:=by
 unfold pyAll pyAll pyAll pyAll pyAll zak;rfl
theorem yc4 {S:Sto}{r:Nat}{Q:D->Sto->Prop}(h:S[r]? = some (.lst [.bl true,.bl false,.bl false,.bl false])):Wo (ze7 (.ref r) [.bl true] S) Q=Q (.int 1) S:=by
 have:ze7 (.ref r) [.bl true] S=some (.int 1,S):=by
  unfold ze7
  dsimp only
  rw [h]
  dsimp only
  have e:zak S 60 (.bl true)=some (.bool true):=by unfold zak;rfl
  rw [e,zro S 59]
  dsimp only [Option.bind_some]
  rw [if_pos ⟨by simp [PyData.canLay0],by simp [PyData.canLay0,PyData.canLayAll0]⟩]
  rfl
 rw [this,zav]
theorem yc5 {S:Sto}{r:Nat}{Q:D->Sto->Prop}(h:S[r]? = some (.lst [.bl true,.bl false,.bl false,.bl false])):Wo (ze4 (.ref r) [.bl true] S) Q=Q (.int 0) S:=by
 have:ze4 (.ref r) [.bl true] S=some (.int 0,S):=by
  unfold ze4
  dsimp only
  rw [h]
  dsimp only
  have e:zak S 60 (.bl true)=some (.bool true):=by unfold zak;rfl
  rw [e,zro S 59]
  dsimp only [Option.bind_some]
  rw [if_pos ⟨by simp [PyData.canLay0],by simp [PyData.canLay0,PyData.canLayAll0]⟩]
  rfl
 rw [this,zav]
theorem yc6 {S:Sto}{n:Nat}(hn:S[n]? = some (.exc "TooMany")):Wo (zhu [.ref n] S) λv S'=>v=.str "many"/\Gr S S':=by
 have sz3:3<=sizeLine:=by decide
 have sz4:4<=sizeLine:=by decide
 unfold zhu zqt
 dsimp! only [zb8]
 refine zcw (l':=[~~~n,some (.ref S.length)]) (S':=S++[.lst [.bl true,.bl false,.bl false]]) ?_ ?_
 ·simp only [zbe,zat,zas,zar,zb9,zal,qg0,qg1,zan,zmd hn lk1,zcv,List.length_cons,List.length_nil,Nat.reduceAdd,sz3,true_and,za0,qs0,qs1]
  all_goals first|trivial|exact ⟨nofun,nofun,nofun⟩
 have hn1:(S++[Ob.lst [.bl true,.bl false,.bl false]])[n]? = some (.exc "TooMany"):=Gr.get ⟨_,rfl⟩ hn
 have hs:(S++[Ob.lst [.bl true,.bl false,.bl false]])[S.length]? = some (.lst [.bl true,.bl false,.bl false]):=za5 _ _
 refine zcw (l':=[~~~n,some (.ref S.length)]) (S':=S++[.lst [.bl true,.bl false,.bl false,.bl false]]) ?_ ?_
 ·simp only [zhc,zef,zb9,zal,zas,zar,qg0,qg1,zan,zmd hn1 lk1,zkw]
  refine ⟨⟨_,show zdg (.ref S.length) _=some _ from zcy hs⟩,_,hs,by simp;omega,?_⟩
  rw [yc3]
  all_goals first|trivial|exact ⟨nofun,nofun,nofun⟩
 have hn2:(S++[Ob.lst [.bl true,.bl false,.bl false,.bl false]])[n]? = some (.exc "TooMany"):=Gr.get ⟨_,rfl⟩ hn
 have hs2:(S++[Ob.lst [.bl true,.bl false,.bl false,.bl false]])[S.length]? = some (.lst [.bl true,.bl false,.bl false,.bl false]):=za5 _ _
 have g2:Gr S (S++[Ob.lst [.bl true,.bl false,.bl false,.bl false]]):=⟨_,rfl⟩
 revert hn2 hs2 g2
 generalize S++[Ob.lst [.bl true,.bl false,.bl false,.bl false]]=T
 intro hn2 hs2 g2
 have rc:∀m,Gr T m->∃x,zdg (.ref S.length) m=some x:=λm g=>⟨_,show zdg (.ref S.length) _=some _ from zcy (g.get hs2)⟩
 refine zcw (l':=[~~~n,some (.ref S.length)]) (S':=T) ?_ ?_
 ·simp only [zbr,zda,zct,zbl,za4,zb9,zef,zal,zaz,zas,zar,qg0,qg1,zan,zmd hn2 lk1,za9,Bool.not_true,qbf,if_false,yc4 hs2,zgk,decide_true,zcd]
  refine ⟨rc T (Gr.refl _),?_⟩
  all_goals first|trivial|exact ⟨nofun,nofun,nofun⟩
 simp only [zbs,za4,zat,zef,zal,zaz,zas,zar,qg0,qg1,zan,zcv,List.length_cons,List.length_nil,Nat.reduceAdd,sz4,true_and]
 refine ⟨rc _ ⟨_,rfl⟩,?_⟩
 rw [yc5 (Gr.get ⟨_,rfl⟩ hs2),zdi]
 exact ⟨_,zd4,_,rfl,rfl,g2.push _⟩
noncomputable def GA:LamG:=zem "_law_great_right" "bits_of" ⟨140,26,140,33⟩ ⟨140,26,140,52⟩ [("_law_machine_here",⟨140,34,140,51⟩)] [("_law_machine_here",.free),("bits_of",.globalImplicit)]
noncomputable def GB:LamG:=zem "_law_great_right" "is_words" ⟨142,30,142,38⟩ ⟨142,30,142,69⟩ [("_law_machine_here",⟨142,39,142,56⟩),("_law_thing",⟨142,58,142,68⟩)] [("_law_machine_here",.free),("_law_thing",.free),("is_words",.globalImplicit)]
noncomputable def TB:List (Str × Nat × ZF):=[("bits_of",1,zdf),("is_words",2,zfb)]
noncomputable def RM:D:=.tup [.str "refused",.str "many"]
theorem yc7 {S:Sto}{n:Nat}(hz:zd3 0 [GA,GB] TB [~~~n,some .non,some .non,none] S=some (("TooMany":Str),S)):Wo (zfd [.ref n] S) λv S'=>v=RM/\Gr S S':=by
 have sz2:2<=sizeLine:=by decide
 unfold zfd zqu
 dsimp! only [zb8]
 refine zcw (l':=[~~~n,some .non,none,none]) (S':=S) (by simp! only [zal] <;> first|trivial|exact ⟨nofun,nofun,nofun⟩) ?_
 refine zcw (l':=[~~~n,some .non,some .non,none]) (S':=S) (by simp! only [zal] <;> first|trivial|exact ⟨nofun,nofun,nofun⟩) ?_
 refine zcw (l':=[~~~n,some (.ref S.length),some .non,none]) (S':=S++[.exc "TooMany"]) ?_ ?_
 ·refine yc2 rfl hz (by simp) ?_
  simp only [qs0,qs1,zbe,zal,qg0,qg1,zan,za0]
  all_goals first|trivial|exact ⟨nofun,nofun,nofun,nofun⟩
 have he:(S++[Ob.exc "TooMany"])[S.length]? = some (.exc "TooMany"):=za5 _ _
 have g1:Gr S (S++[Ob.exc "TooMany"]):=⟨_,rfl⟩
 revert he g1
 generalize S++[Ob.exc "TooMany"]=T
 intro he g1
 refine zcw (l':=[~~~n,some (.ref S.length),some .non,none]) (S':=T) ?_ ?_
 ·simp! only [zal]
  all_goals first|trivial|exact ⟨nofun,nofun,nofun⟩
 simp only [zbs,zat,zas,zar,zal,zaz,qg0,qg1,zan]
 refine (yc6 he).mono ?_
 rintro v S2 ⟨rfl,g2⟩
 simp only [zcu,List.length_cons,List.length_nil,Nat.reduceAdd,sz2,true_and]
 first|exact ⟨rfl,g1.trans g2⟩|exact g1.trans g2
theorem zh2 {α:Type}{x:Str}{a:α}{t:List (Str × α)}:((x,a) :: t).lookup x=some a:=by rw [List.lookup_cons];simp
theorem zrp {α:Type}{x y:Str}{a:α}{t:List (Str × α)}(h:(x == y)=false):((y,a) :: t).lookup x=t.lookup x:=by rw [List.lookup_cons,h]
theorem yc8 {S:Sto}{d:D}{asks:Nat}{rs:List (List Cl)}(h9:9<=rs.length) (x1 x2 x3:Option D):zd3 0 [GA,GB] TB [some (.ref S.length),x1,x2,x3] (S++[.lam GA [("_law_machine_here",mD asks rs)]])=some (("TooMany":Str),S++[.lam GA [("_law_machine_here",mD asks rs)]]):=by
 unfold zd3
 dsimp only [qg0]
 rw [za5]
 dsimp only
 rw [if_pos (by simp)]
 have e1:zhj GA.body=some (("bits_of":Str),[("_law_machine_here":Str)]):=zpu
 have e2:TB.lookup ("bits_of":Str)=some (1,zdf):=zh2
 have e3:zge [(("_law_machine_here":Str),mD asks rs)] [("_law_machine_here":Str)]=some [mD asks rs]:=by
  show ((([(("_law_machine_here":Str),mD asks rs)]:List (Str × D)).lookup ("_law_machine_here":Str)).bind _)=_
  rw [zh2];rfl
 rw [e1];dsimp only [Option.bind_some]
 rw [e2];dsimp only [Option.bind_some]
 rw [e3];dsimp only [Option.bind_some]
 rw [if_pos (show [mD asks rs].length=1 from rfl)]
 exact zrb h9 _
theorem yc9 {S:Sto}{d:D}{asks:Nat}{rs:List (List Cl)}(h9:9<=rs.length) (x1 x2 x3:Option D):zd3 0 [GA,GB] TB [some (.ref S.length),x1,x2,x3] (S++[.lam GB [("_law_thing",d),("_law_machine_here",mD asks rs)]])=some (("TooMany":Str),S++[.lam GB [("_law_thing",d),("_law_machine_here",mD asks rs)]]):=by
 unfold zd3
 dsimp only [qg0]
 rw [za5]
 dsimp only
 rw [if_pos (by simp)]
 have e1:zhj GB.body=some (("is_words":Str),[("_law_machine_here":Str),("_law_thing":Str)]):=zpu
 have e2:TB.lookup ("is_words":Str)=some (2,zfb):=(zrp (by decide +kernel)).trans zh2
 have e3:zge [(("_law_thing":Str),d),(("_law_machine_here":Str),mD asks rs)] [("_law_machine_here":Str),("_law_thing":Str)]=some [mD asks rs,d]:=by
  show ((([(("_law_thing":Str),d),(("_law_machine_here":Str),mD asks rs)]:List (Str × D)).lookup ("_law_machine_here":Str)).bind λa=>((([(("_law_thing":Str),d),(("_law_machine_here":Str),mD asks rs)]:List (Str × D)).lookup ("_law_thing":Str)).bind λb=>(some []).map (b :: ·)).map (a :: ·))=_
  rw [zrp (by decide +kernel),zh2,zh2];rfl
 rw [e1];dsimp only [Option.bind_some]
 rw [e2];dsimp only [Option.bind_some]
 rw [e3];dsimp only [Option.bind_some]
 rw [if_pos (show [mD asks rs,d].length=2 from rfl)]
 exact ycl h9 _ _
theorem zrq {g:LamG}{xs:List (Str × Nat)}{l:Lo}{S:Sto}{caps:List (Str × D)}{Q:D->Sto->Prop}(ht:S[1]? = some (.tab "_law_great_right")) (hc:zgf l xs=some caps) (hz:zd3 0 [GA,GB] TB [some (.ref S.length),some .non,some .non,none] (S++[.lam g caps])=some (("TooMany":Str),S++[.lam g caps])) (q:∀S',S'[1]? = some (.tab "_law_great_right")->Q RM S') :
  We (zgg 1 "_law_great_right" g xs zfd) l S Q:=by
 obtain ⟨v,S',e,rfl,g1⟩:=yc7 hz
 refine ⟨RM,S'.map kill,?_,q _ ?_⟩
 ·unfold zgg
  rw [ht]
  dsimp only
  rw [if_pos rfl,hc]
  dsimp only [Option.bind_some]
  rw [e];rfl
 ·have:=g1.get (Gr.get ⟨[.lam g caps],rfl⟩ ht)
  rw [qgm,this];rfl
theorem zrr (S:Sto):zak S 60 RM=some (.tuple [.str "refused",.str "many"]):=by
 unfold RM zak pyAll pyAll pyAll zak;rfl
theorem zji:(PyData.tuple [.str "refused",.str "many"]).canLay0=true:=by decide +kernel
theorem yda {S:Sto}{Q:D->Sto->Prop}:Wo (zf2 RM RM S) Q=Q (.bl false) S:=by
 have:zf2 RM RM S=some (.bl false,S):=by
  unfold zf2
  rw [zrr]
  dsimp only [Option.bind_some]
  rw [if_pos ⟨zji,zji⟩]
  rfl
 rw [this,zav]
theorem ydb {S:Sto}{Q:D->Sto->Prop}:Wo (zf1 RM RM S) Q=Q (.bl true) S:=by
 have:zf1 RM RM S=some (.bl true,S):=by
  unfold zf1
  rw [zrr]
  dsimp only [Option.bind_some]
  rw [if_pos ⟨zji,zji⟩]
  rfl
 rw [this,zav]
theorem ydc {mA:AM}{l:Lo}{S S1:Sto}{n:Nat}{Q:D->Sto->Prop}(h:mA l S=some ([.int (n:Int)],S1)) (hn:n<=1000):We (zgi mA) l S Q=Q (.tup ((zdr n).map D.int)) S1:=by
 have:zgi mA l S=some (.tup ((zdr n).map D.int),S1):=by
  unfold zgi
  rw [h]
  show (if _ then _ else _)=_
  rw [if_pos (by omega),Int.toNat_natCast]
 show Wo (zgi mA l S) Q=_
 rw [this,zav]
theorem Pn.tab {ns:List Int}{k:Int}{S:Sto}(h:Pn ns k S):S[1]? = some (.tab "_law_great_right"):=by
 obtain ⟨a,r,rest,rfl,_⟩:=h
 rfl
theorem ydd {ns:List Int}{S:Sto}{k:Int}{asks:Nat}{rs:List (List Cl)}(hp:Pn ns k S) (hk:k<100000) (m:OkM asks rs) (h9:9<=rs.length):Wo (zhv [.ref 2,mD asks rs] S) λv S'=>v=.bl true:=by
 have sz0:0<=sizeLine:=by decide
 have sz1:1<=sizeLine:=by decide
 have sz2:2<=sizeLine:=by decide
 have sz6:6<=sizeLine:=by decide
 have h24:=m.r24
 unfold zhv zqv
 dsimp! only [zb8]
 refine za6 (λl S'=>Pn ns k S'/\∃r xs,3<=r/\S'[r]? = some (.lst xs)/\xs.length=6/\l=[~~~2,some (mD asks rs),~~~r,none]) ?_ ?_
 ·have l3:=hp.two
  have ev:zaa (zaf zbj (zaa (eOp za2 (zab 1) (eC (.int 1))) zae)) zae [~~~2,some (mD asks rs),none,none] S=some ([.int (rs.length:Int)],S):=by
   have:zaf zbj (zaa (eOp za2 (zab 1) (eC (.int 1))) zae) [~~~2,some (mD asks rs),none,none] S=some (.int ((rs.map rD).length:Nat),S):=rfl
   rw [qlm] at this
   exact as1 this
  simp only [zbe,zat,zas,zar,zaz,zcu,zcv,List.length_cons,List.length_nil,Nat.reduceAdd,sz0,sz1,sz2,sz6,true_and,ydc ev (by omega)]
  simp only [za0,qs0,qs1]
  first|exact ⟨nofun,(hp.push _).push _,_,_,by simp;omega,za5 _ _,rfl,rfl⟩|exact ⟨(hp.push _).push _,_,_,by simp;omega,za5 _ _,rfl,rfl⟩
 rintro l S1 ⟨p1,r,xs,r3,h1,hl,rfl⟩
 refine za6 (λl S'=>S'[1]? = some (.tab "_law_great_right")/\∃d,l=[~~~2,some (mD asks rs),~~~r,some d]) ?_ ?_
 ·simp only [zbe,za4,zat,zas,zar,zal,zaz,qg0,qg1,zan]
  refine (zcf ns _ _ 6 p1 (by omega) (by decide) (by decide)).mono ?_
  rintro v S2 ⟨⟨d,rfl,hd⟩,p,f⟩
  obtain ⟨x,x1,x2⟩:=zgj xs (d:Int) (by omega) (by omega)
  rw [zdi]
  refine ⟨xs,zcy (f r _ (by omega) h1),x,x1,?_⟩
  simp only [za0,qs0,qs1]
  first|exact ⟨nofun,p.tab,x,rfl⟩|exact ⟨p.tab,x,rfl⟩
 rintro l S2 ⟨t2,d,rfl⟩
 refine za6 (λl S'=>S'[1]? = some (.tab "_law_great_right")/\l=[~~~2,some (mD asks rs),~~~r,some d]) ?_ ?_
 ·simp only [zbr,zbl,za4]
  refine zrq (g:=GA) (caps:=[("_law_machine_here",mD asks rs)]) t2 rfl (yc8 (d:=d) h9 _ _ _) λS3 t3=>?_
  simp only [zat,zas,zar,zaz,zcu,List.length_cons,List.length_nil,Nat.reduceAdd,sz2,true_and]
  rw [show D.tup [D.str "refused",D.str "many"]=RM from rfl,yda]
  simp only [za9,qbf,if_false,zcd]
  first|exact ⟨nofun,t3,nofun⟩|exact ⟨_,rfl,nofun,t3,nofun⟩|exact ⟨t3,nofun⟩|exact t3
 rintro l S3 ⟨t3,rfl⟩
 simp only [zbs,za4]
 refine zrq (g:=GB) (caps:=[("_law_thing",d),("_law_machine_here",mD asks rs)]) t3 rfl (yc9 h9 _ _ _) λS4 t4=>?_
 simp only [zat,zas,zar,zaz,zcu,List.length_cons,List.length_nil,Nat.reduceAdd,sz2,true_and]
 rw [show D.tup [D.str "refused",D.str "many"]=RM from rfl,ydb]
theorem yde {S:Sto}{d:D}{T:String}(h:tyD S d=some T) (hn:∀ds,d≠.tup ds):isI T "tuple" = false:=by
 cases d with
 | non=>cases h;decide
 | bl b=>cases h;decide
 | int i=>cases h;decide
 | str z=>cases h;decide
 | tup ds=>exact absurd rfl (hn ds)
 | fn a=>cases h
 | ref k =>
  unfold tyD at h
  dsimp only at h
  split at h
  ·cases h;decide
  ·cases h;decide
  ·cases h
theorem Spo.ty {N:Nat}{S:Sto}{d:D}(h:Spo N S d):Ty S d:=by
 cases h with
 | atm _ h hn=>obtain ⟨T,e⟩:=h.ty;exact ⟨T,e S⟩
 | odd _ h=>exact h.ty
 | tup ds hl h=>exact ⟨_,rfl⟩
 | lst n ds hn h3 hl h=>exact ⟨"list",by unfold tyD;dsimp only;rw [hn]⟩
theorem Spo.el {N:Nat}{S:Sto}{ds:List D}(h:Spo N S (.tup ds)):ds.length<=N/\El S ds:=by
 cases h with
 | atm _ h hn=>exact absurd rfl (hn ds)
 | odd _ h=>cases h
 | tup _ hl h=>exact ⟨hl,h⟩
theorem El.sub {S:Sto}{ds es:List D}(h:El S ds) (he:∀y∈es,y∈ds\/smI y):El S es:=by
 cases h with
 | A h =>
  refine .A λy hy=>?_
  rcases he y hy with z|z
  ·exact h y z
  ·exact z.a
 | B x o h =>
  refine .B x o λy hy=>?_
  rcases he y hy with z|z
  ·exact h y z
  ·exact .inl z
theorem ydf {many:Nat}{ws:List Nat}(ok:OkW many ws):zbt many (2 ^ bOf many) (.tup (zaw ws))=true:=by
 rw [zfe,zdt,decide_eq_true ok.len,Bool.true_and,Bool.and_eq_true]
 constructor
 ·rw [List.all_eq_true]
  intro y hy
  obtain ⟨w,hw,rfl⟩:=zq5 hy
  have:=ok.lt w hw
  show (decide (0<=(w:Int)) && decide ((w:Int)<((2 ^ bOf many:Nat):Int)))=true
  rw [Bool.and_eq_true,decide_eq_true_eq,decide_eq_true_eq]
  omega
 ·rw [decide_eq_true_eq]
  have e:(zaw ws).map zbb=ws.map λ(p:Nat)=>(p:Int):=by unfold zaw;rw [List.map_map];rfl
  rw [e]
  exact List.pairwise_map.mpr (ok.nd.imp λh e=>h (by omega))
theorem ydg {N many:Nat}{ws:List Nat}{S:Sto}(ok:OkW many ws) (h8:many<=8) (hN:8<=N):Spo N S (.tup (zaw ws)):=by
 have hb:=(zff h8).2.2
 have p8:2 ^ bOf many<=2 ^ 3:=Nat.pow_le_pow_right (by decide) hb
 refine .tup _ (by rw [zdt,ok.len];omega) (.A λy hy=>?_)
 exact (zmc (n:=8) (λw hw=>by have:=ok.lt w hw;omega) (by decide) y hy).a
section
variable {asks:Nat}{rs:List (List Cl)}{S:Sto}{d:D}
theorem Fr.gr {A B:Sto}(h:Gr A B):Fr A B:=λ_ _ _ e=>h.get e
theorem ydh (m:OkM asks rs) (h8:rs.length<=8) (h:Spo 40 S d):Wo (zgp [d,.int (rs.length:Int),.int (bOf rs.length:Nat)] S) λv S'=>Gr S S'/\Wo (zfc [mD asks rs,d,v] S') λu S''=>u=.bl true/\Gr S S'':=by
 have hb:=(zff h8).2.2
 have t:=h.ok m
 refine (ycq (by omega) t.ty t.sz).mono ?_
 rintro v S1 ⟨rfl,g1⟩
 refine ⟨g1,?_⟩
 refine (zri m h8 ((h.fr (Fr.gr g1)).ok m) rfl).mono ?_
 rintro u S2 ⟨rfl,g2⟩
 exact ⟨rfl,g1.trans g2⟩
end
theorem ydi {asks:Nat}{rs:List (List Cl)}(h8:rs.length<=8) (h4:asks<=4):∃z:Str,∀(T:Sto) (Q:D->Sto->Prop),Wo (zc5 [bcD asks rs] T) Q=Q (.str z) T:=by
 have sz:=zgr
 have b3:=(zff h8).2.2
 have c2:=(yb5 h4).2
 refine ⟨(PyData.tuple [.int (bOf rs.length:Nat),.int (cOf asks:Nat)]).shown,λT Q=>zl6 (.inl ?_) ?_⟩
 ·unfold bcD zak pyAll pyAll pyAll zak
  rw [if_pos (zd6 (by omega)),if_pos (zd6 (by omega))];rfl
 ·have:=zhp 10 [.int (bOf rs.length:Nat),.int (cOf asks:Nat)] λq hq=>by
   simp only [List.mem_cons,List.not_mem_nil,or_false] at hq
   rcases hq with rfl|rfl <;> exact PySem.W.KT.len_num (by omega) (by omega)
  simp at this
  omega
theorem law_true (ns:List Int) (hl:ns.length<=63):∃S',zen [.ref 0] (.flst (ns.map D.int) :: ze5 ["_law_great_right"])=some (.bl true,S'):=by
 have sz1:1<=sizeLine:=by decide
 have sz2:2<=sizeLine:=by decide
 have sz3:3<=sizeLine:=by decide
 have big:=zgr
 have tt:isI "tuple" "tuple" = true:=by decide
 have key:Wo (zen [.ref 0] (.flst (ns.map D.int) :: ze5 ["_law_great_right"])) λv _=>v=.bl true:=by
  unfold zen zqy
  dsimp! only [zb8]
  refine za6 (λl S=>Pn ns 0 S/\l=[~~~0,~~~2,none,none,none,none,none,none,none,none,none,none]) ?_ ?_
  ·simp only [zbe,zat,zas,zar,zal,qg0,zan]
   refine (ybv ns).mono ?_
   rintro v S ⟨rfl,p⟩
   simp only [za0,qs0,qs1]
   first|exact ⟨nofun,p,nofun⟩|exact ⟨p,nofun⟩
  rintro l S ⟨p0,rfl⟩
  refine za6 (λl S=>Pn ns 1 S/\∃g:Bool,l=[~~~0,~~~2,some (.bl g),none,none,none,none,none,none,none,none,none]) ?_ ?_
  ·simp only [zbe,za4,zat,zas,zar,zal,zaz,qg0,qg1,zan]
   refine (zcf ns _ _ 4 p0 (by omega) (by decide) (by decide)).mono ?_
   rintro x S1 ⟨⟨d,rfl,hd⟩,p1,f1⟩
   simp only [ze0,za0,qs0,qs1]
   first|exact ⟨nofun,p1.mono (by omega),_,rfl⟩|exact ⟨p1.mono (by omega),_,rfl⟩
  rintro l S1 ⟨p1,g,rfl⟩
  refine za6 (λl S=>Pn ns 3 S/\∃many:Nat,1<=many/\many<=24/\(g=true->9<=many)/\(g=false->many<=8)/\l=[~~~0,~~~2,some (.bl g),‹many›,none,none,none,none,none,none,none,none]) ?_ ?_
  ·simp only [zbe,za4,zat,zas,zar,zal,zaz,qg0,qg1,zan]
   refine (zcf ns _ _ 8 p1 (by omega) (by decide) (by decide)).mono ?_
   rintro x S2 ⟨⟨d,rfl,hd⟩,p2,f2⟩
   rw [zfa]
   refine (zcf ns _ _ 16 p2 (by omega) (by decide) (by decide)).mono ?_
   rintro x S3 ⟨⟨e,rfl,he⟩,p3,f3⟩
   simp only [zfa,zcv,List.length_cons,List.length_nil,Nat.reduceAdd,sz2,true_and,zly,zdi,zd4,zc6]
   cases g with
   | false =>
    refine ⟨.int (1+(d:Int)),rfl,?_⟩
    simp only [za0,qs0,qs1]
    refine ⟨(p3.push _).mono (by omega),1+d,by omega,by omega,(λz=>by cases z),(λ_=>by omega),?_⟩
    push_cast;rfl
   | true =>
    refine ⟨.int (9+(e:Int)),rfl,?_⟩
    simp only [za0,qs0,qs1]
    refine ⟨(p3.push _).mono (by omega),9+e,by omega,by omega,(λ_=>by omega),(λz=>by cases z),?_⟩
    push_cast;rfl
  rintro l S2 ⟨p2,many,m1,m24,mg,ms,rfl⟩
  refine za6 (λl S=>Pn ns 404 S/\∃asks rs,OkM asks rs/\rs.length=many/\l=[~~~0,~~~2,some (.bl g),‹many›,some (mD asks rs),none,none,none,none,none,none,none]) ?_ ?_
  ·simp only [zbe,za4,zat,zas,zar,zal,zaz,qg0,qg1,zan]
   refine (zcf ns _ _ 4 p2 (by omega) (by decide) (by decide)).mono ?_
   rintro x S3 ⟨⟨d,rfl,hd⟩,p3,f3⟩
   rw [zfa]
   have e:(1+(d:Int))=((1+d:Nat):Int):=by push_cast;rfl
   rw [e]
   refine (yb0 ns S3 4 many (1+d) p3 (by omega) m1 m24 (by omega) (by omega)).mono ?_
   rintro v S4 ⟨rs,rfl,ok,hr,p4⟩
   simp only [za0,qs0,qs1]
   first|exact ⟨nofun,p4.mono (by omega),_,rs,ok,hr,rfl⟩|exact ⟨p4.mono (by omega),_,rs,ok,hr,rfl⟩
  rintro l S3 ⟨p3,asks,rs,ok,rfl,rfl⟩
  cases g with
  | true =>
   have h9:=mg rfl
   refine zi7 (λ_ _=>False) (λv S'=>v=.bl true) ?_ (λ_ _ z=>z.elim) (λd _ _ o=>o)
   simp only [zbr,zbl,zal,qg0,qg1,zan,za9,if_true,zbs,zat,zas,zar]
   refine (ydd p3 (by omega) ok h9).mono ?_
   rintro v S4 rfl
   exact .inr ⟨_,rfl,rfl⟩
  | false =>
  have h8:=ms rfl
  refine zcw (l':=[~~~0,~~~2,some (.bl false),some (.int (rs.length:Int)),some (mD asks rs),none,none,none,none,none,none,none]) (S':=S3) ?_ ?_
  ·simp only [zbr,zbl,zal,qg0,qg1,zan,za9,qbf,if_false,zcd]
   all_goals first|trivial|exact ⟨nofun,nofun,nofun⟩
  refine za6 (λl S=>Pn ns 404 S/\l=[~~~0,~~~2,some (.bl false),some (.int (rs.length:Int)),some (mD asks rs),some (.int (bOf rs.length:Nat)),some (.int (cOf asks:Nat)),none,none,none,none,none]) ?_ ?_
  ·simp only [zbe,zat,zas,zar,zal,qg0,qg1,zan]
   refine (ycf ok h8 S3).mono ?_
   rintro v S4 ⟨rfl,g4⟩
   unfold bcD
   simp only [zko,zkq,zkp,za0,List.length_cons,List.length_nil,qs0,qs1]
   first|exact ⟨nofun,nofun,p3.gr g4,nofun⟩|exact ⟨nofun,p3.gr g4,nofun⟩|exact ⟨nofun,nofun,nofun,p3.gr g4,nofun⟩
  rintro l S4 ⟨p4,rfl⟩
  obtain ⟨z,hz⟩:=ydi (asks:=asks) h8 ok.a4
  refine zcw (l':=[~~~0,~~~2,some (.bl false),some (.int (rs.length:Int)),some (mD asks rs),some (.int (bOf rs.length:Nat)),some (.int (cOf asks:Nat)),none,none,none,none,none]) (S':=S4) ?_ ?_
  ·simp only [zbr,zbl,za4,zat,zas,zar,zal,qg0,qg1,zan,zq7 ok h8,hz,zcu,List.length_cons,List.length_nil,Nat.reduceAdd,sz2,true_and]
   have hz':∀(T:Sto) (Q:D->Sto->Prop),Wo (zc5 [.tup [.int (bOf rs.length:Nat),.int (cOf asks:Nat)]] T) Q=Q (.str z) T:=hz
   rw [hz']
   have e:∀Q':D->Sto->Prop,Wo (dNe (.str z) (.str z) S4) Q' = Q' (.bl false) S4:=λQ'=>by
    have:dNe (.str z) (.str z) S4=some (.bl false,S4):=by
     show ((sEq (.str z) (.str z)).bind λb=>some (D.bl (!b),S4))=_
     have:sEq (.str z) (.str z)=some true:=by show some (decide (z=z))=_;simp
     rw [this];rfl
    rw [this,zav]
   rw [e]
   simp only [za9,qbf,if_false,zcd]
   all_goals first|trivial|exact ⟨nofun,nofun,nofun⟩|exact ⟨_,rfl,nofun,nofun,nofun⟩
  generalize hM:mD asks rs=dM
  refine za6 (λl S=>∃x7 x8 x9 x10 x11,l=[~~~0,~~~2,some (.bl false),some (.int (rs.length:Int)),some dM,some (.int (bOf rs.length:Nat)),some (.int (cOf asks:Nat)),x7,x8,x9,x10,x11]) ?_ ?_
  ·refine zi6 (n:=6) (λi l S=>Pn ns (404+20*i) S/\∃x7 x8 x9 x10 x11,l=[~~~0,~~~2,some (.bl false),some (.int (rs.length:Int)),some dM,some (.int (bOf rs.length:Nat)),some (.int (cOf asks:Nat)),x7,x8,x9,x10,x11]) (λ_ _=>False) (as1 rfl) (by omega) ⟨by simpa using p4,_,_,_,_,_,rfl⟩ ?_ ?_ (λd l S h=>h.elim)
   ·rintro i l S5 hi ⟨p5,x7,x8,x9,x10,x11,rfl⟩
    simp only [za0,qs0,qs1]
    refine za6 (λl S=>Pn ns (404+20*i+8) S/\∃ws,OkW rs.length ws/\l=[~~~0,~~~2,some (.bl false),some (.int (rs.length:Int)),some dM,some (.int (bOf rs.length:Nat)),some (.int (cOf asks:Nat)),‹i›,some (.tup (zaw ws)),x9,x10,x11]) ?_ ?_
    ·simp only [zbe,zat,zas,zar,zal,qg0,qg1,zan]
     refine (ycj ns S5 _ rs.length p5 (by omega) h8).mono ?_
     rintro v S6 ⟨ws,rfl,okw,p6⟩
     simp only [za0,qs0,qs1]
     first|exact ⟨nofun,p6,ws,okw,rfl⟩|exact ⟨p6,ws,okw,rfl⟩
    rintro l S6 ⟨p6,ws,okw,rfl⟩
    refine za6 (λl S=>Pn ns (404+20*i+12) S/\∃d,Spo 20 S d/\l=[~~~0,~~~2,some (.bl false),some (.int (rs.length:Int)),some dM,some (.int (bOf rs.length:Nat)),some (.int (cOf asks:Nat)),‹i›,some (.tup (zaw ws)),some d,x10,x11]) ?_ ?_
    ·simp only [zbe,zat,zas,zar,zal,qg0,qg1,zan]
     refine (yc1 p6 (by omega) okw m1 h8).mono ?_
     rintro v S7 ⟨sp,p7⟩
     simp only [za0,qs0,qs1]
     first|exact ⟨nofun,p7.mono (by omega),v,sp,rfl⟩|exact ⟨p7.mono (by omega),v,sp,rfl⟩
    rintro l S7 ⟨p7,d,sp,rfl⟩
    have l7:=p7.two
    refine zcw (l':=[~~~0,~~~2,some (.bl false),some (.int (rs.length:Int)),some dM,some (.int (bOf rs.length:Nat)),some (.int (cOf asks:Nat)),‹i›,some (.tup (zaw ws)),some d,some (.ref S7.length),x11]) (S':=S7++[.lst [d,d]]) ?_ ?_
    ·simp only [zbe,zat,zas,zar,zal,qg0,qg1,zan,zcv,List.length_cons,List.length_nil,Nat.reduceAdd,sz2,true_and,za0,qs0,qs1]
     all_goals first|trivial|exact ⟨nofun,nofun,nofun⟩
    have p8:=p7.push (.lst [d,d])
    have h0:(S7++[Ob.lst [d,d]])[S7.length]? = some (.lst [d,d]):=za5 _ _
    have sp8:Spo 20 (S7++[Ob.lst [d,d]]) d:=sp.fr (Fr.gr ⟨_,rfl⟩)
    have l8:S7.length<(S7++[Ob.lst [d,d]]).length:=by simp
    revert p8 h0 sp8 l8
    generalize S7++[Ob.lst [d,d]]=S8
    intro p8 h0 sp8 l8
    refine za6 (λl S=>Pn ns (404+20*i+13) S/\∃r d1 d2,3<=r/\S[r]? = some (.lst [d1,d2])/\Spo 40 S d1/\Spo 40 S d2/\l=[~~~0,~~~2,some (.bl false),some (.int (rs.length:Int)),some dM,some (.int (bOf rs.length:Nat)),some (.int (cOf asks:Nat)),‹i›,some (.tup (zaw ws)),some d,~~~r,x11]) ?_ ?_
    ·by_cases hd:∃ds,d=.tup ds
     ·obtain ⟨ds,rfl⟩:=hd
      obtain ⟨hl20,el⟩:=sp8.el
      have b3:=(zff h8).2.2
      have p23:2 ^ bOf rs.length<=2 ^ 3:=Nat.pow_le_pow_right (by decide) b3
      have sm:=zmc (ws:=ws) (n:=8) (λw hw=>by have:=okw.lt w hw;omega) (by decide)
      have il:(zaw ws).length<=8:=by rw [zdt,okw.len];exact h8
      simp only [zbr,zbl,zb9,zal,qg0,qg1,zan,zgl,tt,za9,if_true,zbe,za4,zat,zas,zar,zaz,zrm,zhn,zhl,zhm,zho,zgm]
      have c1:=zmb (xs:=zaw ws) (a:=none) (b:=some 1)
      have c2:=zmb (xs:=ds) (a:=some 1) (b:=none)
      refine ⟨_,rfl,by omega,_,rfl,?_⟩
      simp only [zcv,List.length_cons,List.length_nil,Nat.reduceAdd,sz3,true_and]
      have q1:(S8++[Ob.lst ds])[S8.length]? = some (.lst ds):=za5 _ _
      have pp:=p8.push (.lst ds)
      have el1:El (S8++[Ob.lst ds]) ds:=el.fr (Fr.gr ⟨_,rfl⟩)
      have l9:=p8.two
      revert q1 pp el1
      generalize S8++[Ob.lst ds]=S9
      intro q1 pp el1
      refine (zcf ns _ _ 3 (pp.push _) (by omega) (by decide) (by decide)).mono ?_
      rintro v T ⟨⟨e,rfl,he⟩,pT,fT⟩
      have hk:=pp.kept fT
      have f9:Fr S9 T:=(Fr.gr ⟨_,rfl⟩).trans fT
      have elT:=el1.fr f9
      have qT:=f9 _ _ (by omega) q1
      have a1:Spo 40 T (.ref S8.length):=.lst _ ds qT (by omega) (by omega) elT
      have a2:Spo 40 T (.tup (ds++L3.cutD (zaw ws) none (some 1))):=.tup _ (by rw [qla];omega) (elT.sub λy hy=>by
       rcases List.mem_append.mp hy with q|q
       ·exact .inl q
       ·exact .inr (sm y (zma q)))
      have a3:Spo 40 T (.tup (L3.cutD ds (some 1) none)):=.tup _ (by omega) (elT.sub λy hy=>.inl (zma hy))
      have a0:Spo 40 T (.tup ds):=.tup _ (by omega) elT
      obtain ⟨x,x1,x2⟩:=zgj [D.ref S8.length,.tup (ds++L3.cutD (zaw ws) none (some 1)),.tup (L3.cutD ds (some 1) none)] (e:Int) (by omega) (by simp;omega)
      have ax:Spo 40 T x:=by
       simp only [List.mem_cons,List.not_mem_nil,or_false] at x2
       rcases x2 with rfl|rfl|rfl
       ·exact a1
       ·exact a2
       ·exact a3
      rw [zdi]
      refine ⟨_,hk,x,x1,?_⟩
      simp only [zcv,List.length_cons,List.length_nil,Nat.reduceAdd,sz2,true_and,za0,qs0,qs1]
      have lT:=pT.two
      have gT:Fr T (T++[Ob.lst [x,.tup ds]]):=Fr.gr ⟨_,rfl⟩
      first|exact ⟨nofun,(pT.push _).mono (by omega),_,x,.tup ds,lT,za5 _ _,ax.fr gT,a0.fr gT,rfl⟩|exact ⟨(pT.push _).mono (by omega),_,x,.tup ds,lT,za5 _ _,ax.fr gT,a0.fr gT,rfl⟩
     ·have hn:∀ds,d≠.tup ds:=λds e=>hd ⟨ds,e⟩
      obtain ⟨T,hT⟩:=sp8.ty
      have e:=yde hT hn
      simp only [zbr,zbl,zb9,zal,qg0,qg1,zan,zhy,hT]
      refine ⟨_,rfl,?_⟩
      simp only [e,za9,qbf,if_false,zcd]
      have s40:=sp8.le (N':=40) (by decide)
      first|exact ⟨nofun,p8.mono (by omega),_,d,d,l7,h0,s40,s40,rfl⟩|exact ⟨_,rfl,nofun,p8.mono (by omega),_,d,d,l7,h0,s40,s40,rfl⟩
    rintro l S9 ⟨p9,r,d1,d2,r3,h9,s1,s2,rfl⟩
    have ws40:Spo 40 S9 (.tup (zaw ws)):=ydg okw h8 (by decide)
    refine za6 (λl S=>Gr S9 S/\l=[~~~0,~~~2,some (.bl false),some (.int (rs.length:Int)),some dM,some (.int (bOf rs.length:Nat)),some (.int (cOf asks:Nat)),‹i›,some (.tup (zaw ws)),some d,~~~r,x11]) ?_ ?_
    ·simp only [zbr,zct,zbl,zat,zas,zar,zal,zaz,qg0,qg1,zan]
     rw [<-hM]
     refine (zri ok h8 (ws40.ok ok) (ydf okw)).mono ?_
     rintro v S10 ⟨rfl,g10⟩
     simp only [za9,Bool.not_true,qbf,if_false,zcd]
     first|exact ⟨nofun,g10,nofun⟩|exact ⟨_,rfl,nofun,g10,nofun⟩|exact ⟨g10,nofun⟩|exact g10
    rintro l S10 ⟨g10,rfl⟩
    have h10:=g10.get h9
    refine ya2 (n:=r) [d1,d2] (λj l S=>Gr S9 S/\∃x11,l=[~~~0,~~~2,some (.bl false),some (.int (rs.length:Int)),some dM,some (.int (bOf rs.length:Nat)),some (.int (cOf asks:Nat)),‹i›,some (.tup (zaw ws)),some d,~~~r,x11]) (λ_ _=>False) (S1:=S10) rfl ⟨g10,_,rfl⟩ (λj l S h=>zcy (h.1.get h9)) ?_ ?_ (λd l S h=>h.elim)
    ·rintro j x l S11 hx ⟨g11,x11,rfl⟩
     have sx:Spo 40 S9 x:=by
      have:=qmg hx
      simp only [List.mem_cons,List.not_mem_nil,or_false] at this
      rcases this with rfl|rfl
      ·exact s1
      ·exact s2
     simp only [za0,qs0,qs1,zbr,zct,zbl,zat,zas,zar,zal,qg0,qg1,zan]
     refine (ydh ok h8 (sx.fr (Fr.gr g11))).mono ?_
     rintro v S12 ⟨g12,q⟩
     rw [hM] at q
     refine q.mono ?_
     rintro u S13 ⟨rfl,g13⟩
     simp only [za9,Bool.not_true,qbf,if_false,zcd]
     first|exact .inl ⟨.inl rfl,g11.trans g13,_,rfl⟩|exact ⟨_,rfl,.inl ⟨.inl rfl,g11.trans g13,_,rfl⟩⟩|exact .inl ⟨(by first|exact .inl rfl|exact .inl trivial|trivial),g11.trans g13,_,rfl⟩
    ·rintro l S11 ⟨g11,x11,rfl⟩
     exact .inl ⟨.inl rfl,(p9.gr g11).mono (by push_cast;omega),_,_,_,_,_,rfl⟩
   ·rintro l S5 ⟨p5,x7,x8,x9,x10,x11,rfl⟩
    first|exact ⟨nofun,_,_,_,_,_,rfl⟩|exact ⟨_,_,_,_,_,rfl⟩
  rintro l S5 ⟨x7,x8,x9,x10,x11,rfl⟩
  simp only [zbs,zaz]
 obtain ⟨v,S',e,rfl⟩:=key
 exact ⟨S',e⟩
end M
end
namespace PySem.W.Fast
def tw2011769034267583894:Nat:=0
def tw4224774365992784884:Nat:=0
def tw16030153475307722843:Nat:=0
def tw17261880127877247289:Nat:=0
def tw10949115264172082355:Nat:=0
def tw7200236341097473570:Nat:=0
def tw9064476479544065059:Nat:=0
def tw3129025819888146548:Nat:=0
def tw6818935112135666332:Nat:=0
def tw14193908067424975722:Nat:=0
def tw6083377024522924064:Nat:=0
def tw14889301110749008777:Nat:=0
def tw9339483176421390886:Nat:=0
def tw2293843465907028169:Nat:=0
def tw17188303342697746658:Nat:=0
def tw2844371426396329408:Nat:=0
def tw15869442728955370480:Nat:=0
def tw2146011436237419396:Nat:=0
def tw17854032022854461677:Nat:=0
def tw9327695567501284077:Nat:=0
def tw12485919495920602515:Nat:=0
def tw14469428819157140877:Nat:=0
def tw6232031112597851856:Nat:=0
def tw17485674484973754229:Nat:=0
def tw13161418753730335952:Nat:=0
def tw1463940542408717420:Nat:=0
def tw16092187356299064027:Nat:=0
def tw5402309274052515894:Nat:=0
def tw5458893747320457554:Nat:=0
def tw76714057416296366:Nat:=0
def tw4858048196820647785:Nat:=0
def tw4787244646311058820:Nat:=0
def tw11582545742447264481:Nat:=0
def tw8495069261423403833:Nat:=0
def tw7855981431846216427:Nat:=0
def tw4798867872101154602:Nat:=0
def tw4163956447560691288:Nat:=0
def tw6986955074107594095:Nat:=0
def tw11645971758215430075:Nat:=0
def tw14607812019631732903:Nat:=0
def tw13880961856813648203:Nat:=0
def tw15826661435664204887:Nat:=0
def tw16028759901634264752:Nat:=0
def tw9364724462232565733:Nat:=0
def tw6688479956543598893:Nat:=0
def tw11477802384916129531:Nat:=0
def tw996108596495176188:Nat:=0
def tw6776177393502411627:Nat:=0
def tw3255219376322304251:Nat:=0
def tw545193261059688111:Nat:=0
def tw235587722037631179:Nat:=0
def tw7969341755635738229:Nat:=0
def tw17010571743247587506:Nat:=0
def tw3607023270399347403:Nat:=0
def tw13929622246018782959:Nat:=0
def tw1499897130780935791:Nat:=0
def tw5924604797104617584:Nat:=0
def tw8378599549267380142:Nat:=0
def tw10389192538473870511:Nat:=0
def tw16214979831416286981:Nat:=0
def tw10173359524169541847:Nat:=0
def tw12894975176867851874:Nat:=0
def tw15195614588750611396:Nat:=0
def tw5825744457651212644:Nat:=0
def tw10081048011762023615:Nat:=0
def tw29070835989780218:Nat:=0
def tw4531097755445992312:Nat:=0
def tw13017183684657168499:Nat:=0
def tw5233015722889602115:Nat:=0
def tw14595712858717134880:Nat:=0
def tw6587968101376742319:Nat:=0
def tw3326032568224232284:Nat:=0
def tw8964450336436065593:Nat:=0
def tw5862898169095752316:Nat:=0
def tw7475440946014759328:Nat:=0
def tw10504054686318786247:Nat:=0
def tw11044845524049026801:Nat:=0
def tw8521316167437790496:Nat:=0
def tw18148000862484764969:Nat:=0
def tw3633115894419788546:Nat:=0
end PySem.W.Fast
open PySem PySem.W PyProof.Rows
theorem PySem.Challenge.cw_opencells_k42_words_of_bits_holds : PySem.Challenge.rw_opencells_k42_words_of_bits.Holds := by
 w_on;o_law;k_head;(case hw=>w_witness2)
 k_fill
 refine G.walk (l:=PySem.Challenge.rw_opencells_k42_words_of_bits) rfl rfl (λw h Y=>⟨PySem.W.km_in_of Y,PySem.W.km_tabs_of Y⟩) ?zzn (by decide) ?zzt0 ?F (λns hl=>M.law_true ns hl)
 case zzn=>intro w;kernel_rfl
 case zzt0 =>
  intro w
  refine' L3.ft_mk ?a ?l ?e ?k ?h ?d;(case a=>k_is);(case l=>k_is);(case e=>exact rfl);(case k=>k_is);(case h=>exact rfl);(case d=>kernel_rfl)
 case F =>
  intro w mg fa h KX GN hmg
  refine' G.all_mk KX GN hmg ?_ ?_ ?_ ?_ ?_ ?_ ?_ ?_ ?_ ?_ ?_ ?_ ?_ ?_ ?_ ?_ ?_ ?_ ?_ ?_ ?_ ?_ ?_ ?_ ?_ ?_ ?_ ?_ ?_ ?_ ?_ ?_ ?_ ?_ ?_ ?_ ?_ ?_ ?_ ?_ ?_ ?_ ?_ ?_ ?_ ?_ ?_ ?_ ?_ ?_ ?_ ?_ ?_ ?_ ?_ ?_ ?_ ?_
  rotate_right;(refine' Exists.intro _ (L3.ft_mk ?a ?l ?e ?k ?h ?d);(case a=>k_is);(case l=>k_is);(case e=>exact rfl);(case k=>k_is);(case h=>exact rfl);(case d=>kernel_rfl))
  all_goals try first|(refine' G.FI.mk ?a ?l ?c ?k;(case a=>k_is);(case l=>k_is);(case c=>k_is);(case k=>k_is))|k_is|kernel_rfl
#print axioms PySem.Challenge.cw_opencells_k42_words_of_bits_holds