import PyProof.Rows.All
import Wide.All
import OpenK.AllK
import Wide.FinOn
import Lean
import PyProof.EqAt
import PyProof.EqKinds
import PyProof.TupleCall
import PyProof.ReprLen
import PyProof.ReprRoads
import PyProof.P3Eq
import PyProof.SetRoads
import PyProof.IsRules
import PyProof.ListRange
import PyProof.ConsumeWalk
import PyProof.NeKinds
import PyProof.DictTable
import PyProof.Draws
import PyProof.EnumMake
import KE.BitLaws
import KE.KIntText
import KE.KRevIter
import PyProof.Rows.SumAny
import PyProof.StrLawsRepr
import PyProof.Rows.SortStrRead
import PyProof.DictCompW
import PyProof.StrOps2
import PyProof.DictWalks
import OpenK.KOwn
import PyProof.NsDelKeeps
import PyProof.RulesAs
import KE.KIsAll
import PyProof.ExcArgsOwn
import PyProof.ExcAttrAll.ValueError
import PyProof.TupleKey
import PyProof.DictRoadsH
import KE.KSortTup
import KE.KDictSum
import PyProof.Rows.TupDisplay
import PyProof.ZipIter
import PyProof.FactsAll.tuple_1
import PyProof.Dict
import PyProof.FactsAll.tuple_2
import PyProof.FactsAll.tuple_3
import PyProof.MeetsSeq
import PyProof.Rows.FStr
import PyProof.Rows.RuleM_int
import PyProof.Rows.SetFrom
import PyProof.Rows.StrItems
import PyProof.Rows.StrNews2
import PyProof.StrWalks
import PyProof.WalksMore
import PySem.Challenge.RW_opencells_k53_whole_bits_run_as_rooms
set_option Elab.async false
set_option maxHeartbeats 4000000
set_option maxRecDepth 100000
set_option linter.unusedSimpArgs false
set_option linter.unusedVariables false
theorem qme {α:Type _}{l:List α}{i:Nat}{a:α}(h:l[i]? = some a):∃h:i<l.length,l[i]=a:=List.getElem?_eq_some_iff.mp h
theorem qge {α:Type _}{l:List α}{i:Nat}(h:i<l.length):l[i]? = some l[i]:=List.getElem?_eq_getElem h
noncomputable abbrev QFg:=PySem.W.Frag
theorem qps {h:PySem.Heap}{a:PySem.Addr}{o1:PySem.Obj}(o:PySem.Obj) (e:h.get? a=some o1):(h.push o).get? a=some o1:=PySem.Heap.get?_push_of_some o e
theorem qlm {α β:Type _}{as:List α}(f:α->β):(as.map f).length=as.length:=List.length_map f
theorem qgm {α β:Type _}{f:α->β}{l:List α}{i:Nat}:(l.map f)[i]? = l[i]?.map f:=List.getElem?_map
theorem qoi {α:Type _}{a b:α}(h:some a=some b):a=b:=Option.some.inj h
theorem qmg {α:Type _}{l:List α}{i:Nat}{a:α}(e:l[i]? = some a):a∈l:=List.mem_of_getElem? e
theorem qlr (n:Nat):n<=n:=Nat.le_refl n
theorem qla {α:Type _}{as bs:List α}:(as++bs).length=as.length+bs.length:=List.length_append
namespace TS
open PySem PySem.SetTable
noncomputable def F:Nat->Nat->Nat
 | 0,x=>x
 | n+1,x=>5*F n x+1
noncomputable def adv (mask:Nat) (p:Probe):Probe :=
 if p.more > 0 then { p with j:=p.j+1,more:=p.more-1 } else
 let (i,perturb):=leap mask p.i p.perturb
 { p with j:=i,more:=runEnd mask i-i,i,perturb }
noncomputable def st0 (mask:Nat) (h:Int):Probe:={ j:=bits h % (mask+1),more:=runEnd mask (bits h % (mask+1))-bits h % (mask+1),i:=bits h % (mask+1),perturb:=bits h,dummy:=none }
noncomputable def pn (mask:Nat) (h:Int):Nat->Probe
 | 0=>st0 mask h
 | n+1=>adv mask (pn mask h n)
noncomputable def bl (mask:Nat) (h:Int):Nat->Nat × Nat
 | 0=>(bits h % (mask+1),bits h)
 | n+1=>leap mask (bl mask h n).1 (bl mask h n).2
noncomputable def Ris (xs:Array Nat):Prop:=∀i j,i<j->j<xs.size->xs.getD i 0<xs.getD j 0
noncomputable def In (t:SetTable) (j:Nat):Prop:=∃i:Nat,t.place[i]? = some j
structure TOk (t:SetTable) (es:Array (Int × Value)):Prop where
 dm:t.dummies = #[]
 sz:t.place.size=es.size
 pw:∃k,t.mask+1=2 ^ k/\3<=k
 ris:Ris t.place
 le:∀j,In t j->j<=t.mask
 ro:es.size*5<t.mask*3
 sm:t.mask<8192
 pr:∀(i:Nat) (h:Int) (v:Value),es[i]? = some (h,v)->∃n,t.place[i]? = some (pn t.mask h n).j/\∀m,m<n->In t (pn t.mask h m).j
noncomputable def Occ (ow:Array (Option Nat)) (j:Nat):Prop:=∃i,ow[j]? = some (some i)
instance (ow:Array (Option Nat)):DecidablePred (Occ ow):=fun j=>match h:ow[j]? with
 | some (some i)=>.isTrue ⟨i,h⟩
 | some none=>.isFalse fun hx1_=>by obtain ⟨i,z⟩:=hx1_;rw [h] at z;cases z
 | none=>.isFalse fun hx2_=>by obtain ⟨i,z⟩:=hx2_;rw [h] at z;cases z
noncomputable def lv (mask:Nat) (ow:Array (Option Nat)):List (Nat × Nat):=(List.range (mask+1)).filterMap fun j=>(ow.getD j none).map (j,·)
noncomputable def zof (ks:List Int):Int:=reduceHash (Builtin.Tuple.tupleHashOf (ks.map hashInt))
section
variable {prog:Program}{w:World}{A:Around}{E:Value->Shared->Prop}{s:Shared}
structure Els (es:Array (Int × Value)) (xs:List (List Int × Addr)):Prop where
 sub:∀e∈es.toList,∃p∈xs,e=(zof p.1,.ref p.2)
 sup:∀p∈xs,(zof p.1,Value.ref p.2)∈es.toList
 len:es.size=xs.length
end
noncomputable def zvn (o:Obj) (xs:List (List Int × Addr)):Prop:=o.ExactSet/\∃es ep t,o.data=.set es ep t/\TOk t es/\Els es xs
noncomputable def TSet (a:Addr) (xs:List (List Int × Addr)) (h:Heap):Prop:=∃o,h.get? a=some o/\zvn o xs
section
variable {prog:Program}{w:World}{A:Around}{E:Value->Shared->Prop}{s:Shared}{a x:Addr}{k:List Int}{xs:List (List Int × Addr)}
end
end TS
namespace BF
noncomputable def lx:List Nat->List Nat->Prop
 | a :: u,b :: v=>a<b∨(a=b/\lx u v)
 | _,_=>False
noncomputable def sl (u v:List Nat):Prop:=u.length<v.length∨(u.length=v.length/\lx u v)
noncomputable def le (u v:List Nat):Prop:=sl u v∨u=v
noncomputable abbrev P:=Nat × Nat
section
variable (A:Nat) (step:P->Nat->Option P) (fail:P->Nat->Bool)
noncomputable def walk:P->List Nat->Option P
 | p,[]=>some p
 | p,a :: w=>(step p a).bind fun q=>walk q w
end
section
variable {A:Nat}{step:P->Nat->Option P}{fail:P->Nat->Bool}
section
variable {p0 q q':P}{ps:List P}{ws:List (List Nat)}{w:List Nat}{i c:Nat}
end
end
end BF
namespace SP
open PySem PySem.W PyProof.Rows
inductive Ok (lt:Nat->Nat->Bool) (n:Nat) {α:Type} (G:α->Prop):KasT α->Prop where
 | ret {a:α} (h:G a):Ok lt n G (.ret a)
 | ask {i j:Nat} {k:Bool->KasT α} (hi:i<n) (hj:j<n) (h:Ok lt n G (k (lt i j))):Ok lt n G (.ask i j k)
section
variable {r:Nat->Int}{n:Nat}
noncomputable def lt (r:Nat->Int) (i j:Nat):Bool:=decide (r i<r j)
noncomputable def at' (r:Nat->Int) (p:Array Nat) (k:Nat):Int:=r (p.getD k 0)
noncomputable def Pm (n:Nat) (p:Array Nat):Prop:=p.Perm (List.range n).toArray
noncomputable def Up (r:Nat->Int) (p:Array Nat) (m:Nat):Prop:=∀i j,i<j->j<m->at' r p i<at' r p j
noncomputable def Dn (r:Nat->Int) (p:Array Nat) (m:Nat):Prop:=∀i j,i<j->j<m->at' r p j<at' r p i
noncomputable def zhp (r:Nat->Int) (n:Nat) (z:Nat × Array Nat):Prop:=1<=z.1/\z.1<=n/\Pm n z.2/\Up r z.2 z.1
end
open PySem.Calls
noncomputable abbrev Pr:=Int × Int
noncomputable def plt (p q:Pr):Bool:=decide (p.1<q.1) || (decide (p.1=q.1) && decide (p.2<q.2))
section
variable {prog:Program}{w:World}{A:Around}{E:Value->Shared->Prop}{s:Shared}
end
noncomputable def rk (ps:List Pr) (i:Nat):Int:=(ps.countP (fun q=>plt q (ps.getD i (0,0))):Nat)
section
variable {prog:Program}{w:World}{A:Around}{E:Value->Shared->Prop}{s:Shared}
end
end SP
namespace L2
open PySem PySem.Spec PyProof.Rows
noncomputable abbrev Key:=Sum Int Str
noncomputable def zgp:Key->Value->Bool
 | .inl k,v=>Value.isInt k v
 | .inr x,v=>Value.isStrOf x v
noncomputable def zvo (w:World):Key->Int
 | .inl k=>hashInt k
 | .inr x=>hashStr w x
theorem zfb:∀{k:Key}{v:Value},zgp k v=true->(∃i t,k=Sum.inl i/\v=Value.int i t)∨(∃x t,k=Sum.inr x/\v=Value.str x t)
 | .inl i,v,h=>by
  obtain ⟨t,e⟩:=Value.isInt_shape (k:=i) (v:=v) h
  exact .inl ⟨i,t,rfl,e⟩
 | .inr x,v,h=>by
  obtain ⟨t,e⟩:=Value.isStrOf_shape (x:=x) (v:=v) h
  exact .inr ⟨x,t,rfl,e⟩
theorem zvp (i:Int) (t:Tok):zgp (.inl i) (.int i t)=true:=by simp [zgp,Value.isInt]
theorem zvq (x:Str) (t:Tok):zgp (.inr x) (.str x t)=true:=by simp [zgp,Value.isStrOf]
theorem zvr (a b:Int):decide ((Sum.inl a:Key)=Sum.inl b)=(a == b):=by
 by_cases e:a=b
 ·subst e;simp
 ·have h:¬(Sum.inl a:Key)=Sum.inl b:=fun q=>e (Sum.inl.inj q)
  rw [decide_eq_false h]
  exact (beq_eq_false_iff_ne.mpr e).symm
theorem zvs (a b:Str):decide ((Sum.inr a:Key)=Sum.inr b)=decide (a=b):=by
 by_cases e:a=b
 ·subst e;simp
 ·have h:¬(Sum.inr a:Key)=Sum.inr b:=fun q=>e (Sum.inr.inj q)
  rw [decide_eq_false h,decide_eq_false e]
theorem zvt (a:Int) (b:Str):decide ((Sum.inl a:Key)=Sum.inr b)=false:=decide_eq_false (fun q=>nomatch q)
theorem zvu (a:Str) (b:Int):decide ((Sum.inr a:Key)=Sum.inl b)=false:=decide_eq_false (fun q=>nomatch q)
noncomputable def zdl (prog:Program) (w:World):PySem.KeyKind prog w Key where
 is:=zgp
 hash:=zvo w
 inj:=fun v a b ha hb=>by
  rcases zfb ha with ⟨i,t,rfl,rfl⟩|⟨x,t,rfl,rfl⟩
  ·rcases zfb hb with ⟨j,u,rfl,e⟩|⟨y,u,rfl,e⟩
   ·injection e with e1 _;rw [e1]
   ·exact nomatch e
  ·rcases zfb hb with ⟨j,u,rfl,e⟩|⟨y,u,rfl,e⟩
   ·exact nomatch e
   ·injection e with e1 _;rw [e1]
 byValue:=fun k v h=>by
  rcases zfb h with ⟨i,t,rfl,rfl⟩|⟨x,t,rfl,rfl⟩ <;> rfl
 pyHash:=fun hv h=>by
  rcases zfb hv with ⟨i,t,rfl,rfl⟩|⟨x,t,rfl,rfl⟩
  ·exact wpAny_pyHash_int h
  ·exact wpAny_pyHash_str h
 eqBool:=fun hu hv h=>by
  rcases zfb hu with ⟨i,t,rfl,rfl⟩|⟨x,t,rfl,rfl⟩
  ·rcases zfb hv with ⟨j,u,rfl,rfl⟩|⟨y,u,rfl,rfl⟩
   ·rw [zvr] at h;exact wpAny_eqBool_int h
   ·rw [zvt] at h;exact SeqAt.EqAt.int_str i t y u _ _ _ _ h
  ·rcases zfb hv with ⟨j,u,rfl,rfl⟩|⟨y,u,rfl,rfl⟩
   ·rw [zvu] at h;exact SeqAt.EqAt.str_int x t j u _ _ _ _ h
   ·rw [zvs] at h;exact wpAny_eqBool_str h
 «strs»:=fun k x t v h=>by
  rcases zfb h with ⟨i,u,rfl,e⟩|⟨y,u,rfl,e⟩
  ·exact nomatch e
  ·injection e with e1 _
   subst e1
   cases v <;> rfl
theorem zvv (prog:Program) (w:World) (i:Int) (t:Tok):(zdl prog w).is (.inl i) (.int i t)=true:=zvp i t
theorem zvw (prog:Program) (w:World) (x:Str) (t:Tok):(zdl prog w).is (.inr x) (.str x t)=true:=zvq x t
inductive V where
 | non|bl (b:Bool)|int (i:Int)|str (x:Str)|byt (b:Array UInt8)|flt (b:UInt64)|ref (a:Addr)|ty (n:String)
 deriving DecidableEq
noncomputable def RelV:V->Value->Prop
 | .non,u=>u=Value.none
 | .bl b,u=>u=Value.bool b
 | .int i,u=>∃t,u=Value.int i t
 | .str x,u=>∃t,u=Value.str x t
 | .byt b,u=>∃t,u=Value.bytes b t
 | .flt b,u=>∃t,u=Value.float b t
 | .ref a,u=>u=Value.ref a
 | .ty n,u=>u=Value.type n
noncomputable abbrev Vals:List V->List Value->Prop:=Paired RelV
theorem Vals.length {xs:List V}{us:List Value}(r:Vals xs us):xs.length=us.length:=Paired.length r
theorem Vals.get:∀{xs:List V}{us:List Value}{i:Nat}{x:V},Vals xs us->xs[i]? = some x->∃u,us[i]? = some u/\RelV x u
 | _,_,_,_,.nil,e=>by simp at e
 | _,_,0,_,.cons r _,e=>by simp at e;subst e;exact ⟨_,rfl,r⟩
 | _,_,i+1,x,.cons _ t,e=>by
  obtain ⟨u,h1,h2⟩:=Vals.get (i:=i) (x:=x) t (by simpa using e)
  exact ⟨u,by simpa using h1,h2⟩
theorem Vals.set {x:V}{u:Value}(r:RelV x u):∀{xs:List V}{us:List Value}(i:Nat),Vals xs us->Vals (xs.set i x) (us.set i u)
 | _,_,_,.nil=>.nil
 | _,_,0,.cons _ t=>.cons r t
 | _,_,i+1,.cons q t=>.cons q (Vals.set r i t)
theorem Vals.append:∀{xs ys:List V}{us ws:List Value},Vals xs us->Vals ys ws->Vals (xs++ys) (us++ws)
 | _,_,_,_,.nil,s=>s
 | _,_,_,_,.cons r t,s=>.cons r (Vals.append t s)
theorem Vals.take:∀{xs:List V}{us:List Value}(n:Nat),Vals xs us->Vals (xs.take n) (us.take n)
 | _,_,0,_=>.nil
 | _,_,_+1,.nil=>.nil
 | _,_,n+1,.cons r t=>.cons r (Vals.take n t)
theorem Vals.drop:∀{xs:List V}{us:List Value}(n:Nat),Vals xs us->Vals (xs.drop n) (us.drop n)
 | _,_,0,r=>r
 | _,_,_+1,.nil=>.nil
 | _,_,n+1,.cons _ t=>Vals.drop n t
noncomputable def RelO:Option V->Option Value->Prop
 | some v,some u=>RelV v u
 | none,none=>True
 | _,_=>False
noncomputable def KV {κ:Type}:List (κ × V)->List (κ × Value)->Prop:=Paired fun (p:κ × V) (q:κ × Value)=>p.1=q.1/\RelV p.2 q.2
noncomputable def kV:Key->V
 | .inl i=>.int i
 | .inr x=>.str x
inductive HO where
 | lst (xs:List V)
 | tup (xs:List V)
 | dK (kvs:List (Key × V))|dT (kvs:List (List Key × V))
 | set (S:Int->Bool) (n:Nat)
 | ins (C dx:Addr) (fs:List (Str × V))
 | own (x:Addr)
 | xd (fs:List (Str × V))
 | met (f x:Addr)
 | rng (lo hi:Int)
 | frz (o:Obj) (u:HO)
 | tbl (ps:Array Value)
 | ext (φ:Heap->Prop)
noncomputable abbrev Hp:=Addr->Option HO
noncomputable def upd (H:Hp) (a:Addr) (o:HO):Hp:=fun b=>if b=a then some o else H b
theorem zcz {H:Hp}{a:Addr}{o:HO}:upd H a o a=some o:=by unfold upd;rw [if_pos rfl]
theorem za7 {H:Hp}{a b:Addr}{o:HO}(h:b≠a):upd H a o b=H b:=by unfold upd;rw [if_neg h]
theorem zvx {H:Hp}{a:Addr}{o u:HO}:upd (upd H a o) a u=upd H a u:=by
 funext b;unfold upd;split <;> rfl
theorem zf9 {H:Hp}{a b:Addr}{o u:HO}(h:H a=some o) (h':H b=some u) (d:o≠u):a≠b:=by
 intro e;subst e;rw [h] at h';exact d (qoi h')
theorem zb9 {H:Hp}{a b:Addr}{o:HO}(h:H a=some o) (h':H b=none):a≠b:=by
 intro e;subst e;rw [h] at h';cases h'
noncomputable def IsTD (h:Heap) (a:Addr) (items:Array Value):Prop:=∃o,h.get? a=some o/\o.cls=.type "tuple"/\∃n,o.data=.seq items n/\o.dict=none
theorem IsTD.tup {h:Heap}{a:Addr}{items:Array Value}(x:IsTD h a items):IsTup h a items:=by
 obtain ⟨o,e,c,n,d,_⟩:=x
 exact ⟨o,e,c,n,d⟩
theorem IsTD.new (h:Heap) (items:Array Value):IsTD (h.push { cls:=.type "tuple",data:=.seq items }) h.objs.size items:=⟨_,Heap.get?_push_size _ rfl,rfl,_,rfl,rfl⟩
section
variable (P:Program) (w:World)
noncomputable def ObjOk (H:Hp) (h:Heap) (a:Addr):HO->Prop
 | .lst xs=>xs.length<=sizeLine/\∃(its:List Value) (n:Nat),Vals xs its/\h.get? a=some { cls:=.type "list",data:=.seq its.toArray n }
 | .tup xs=>xs.length<=sizeLine/\∃its:List Value,Vals xs its/\IsTD h a its.toArray
 | .dK kvs=>kvs.length<=sizeLine/\(a == sysModules)=false/\∃vs,KV kvs vs/\h.DictOf (zdl P w) a vs
 | .dT kvs=>kvs.length<=sizeLine/\(a == sysModules)=false/\∃xs:List (List Key × Addr × Value),
   Paired (fun (p:List Key × V) (q:List Key × Addr × Value)=>p.1=q.1/\H q.2.1=some (.tup (p.1.map kV))/\RelV p.2 q.2.2) kvs xs /\
   ∃o es ep,h.get? a=some o/\o.ExactDict/\o.data=.dict es ep/\es.toList=xs.map (entryOfKey (tupleKind (zdl P w)))/\(xs.map (·.1)).Nodup
 | .set S n=>h.SetOf (intKind P w) a S n
 | .ins C dx fs=>H dx=some (.own a)/\fs.length<=1000/\dx≠a/\h.get? a=some (PySem.W.instObj C dx) /\
   ∃mA,h.Ns1 dx mA/\(∀f,RelO (fs.lookup f) (mA f))/\PySem.Within mA (fs.map (·.1))
 | .own _=>∃o,h.get? a=some o
 | .xd fs=>∃mA,h.Ns1 a mA/\∀f,RelO (fs.lookup f) (mA f)
 | .rng lo hi=>∃t u v,h.get? a=some { cls:=.type "range",data:=.fields #[.int lo t,.int hi u,.int 1 v] }
 | .frz o u=>h.get? a=some o/\ObjOk H h a u
 | .tbl ps=>h.get? a=some { cls:=.none,data:=.fields ps }
 | .met f x=>h.get? a=some (PySem.W.methodObj (.ref f) (.ref x))
 | .ext φ=>φ h/\(∃o,h.get? a=some o)/\∀h1 h2:Heap,φ h1->(∀o,h1.get? a=some o->h2.get? a=some o)->φ h2
noncomputable def HOk (H:Hp) (h:Heap):Prop:=∀a o,H a=some o->ObjOk P w H h a o
end
section
variable {P:Program}{w:World}{H H':Hp}{h h':Heap}{a:Addr}{o:HO}
theorem ObjOk.lt (x:ObjOk P w H h a o):a<h.objs.size:=by
 cases o with
 | lst xs=>obtain ⟨_,_,_,_,e⟩:=x;exact Heap.lt_size e
 | tup xs=>obtain ⟨_,_,_,p⟩:=x;exact p.tup.lt
 | dK kvs=>obtain ⟨_,_,_,_,o,_,_,e,_⟩:=x;exact Heap.lt_size e
 | dT kvs=>obtain ⟨_,_,_,_,o,_,_,e,_⟩:=x;exact Heap.lt_size e
 | set S n=>obtain ⟨o,_,_,_,e,_⟩:=x;exact Heap.lt_size e
 | ins C dx fs=>obtain ⟨_,_,_,e,_⟩:=x;exact Heap.lt_size e
 | own y=>obtain ⟨_,e⟩:=x;exact Heap.lt_size e
 | xd fs=>obtain ⟨_,⟨_,_,_,e,_⟩,_⟩:=x;exact Heap.lt_size e
 | rng lo hi=>obtain ⟨_,_,_,e⟩:=x;exact Heap.lt_size e
 | frz ob u=>obtain ⟨e,_⟩:=x;exact Heap.lt_size e
 | tbl ps=>exact Heap.lt_size (show h.get? a=some _ from x)
 | met f y=>exact Heap.lt_size (show h.get? a=some _ from x)
 | ext φ=>obtain ⟨_,⟨_,e⟩,_⟩:=x;exact Heap.lt_size e
theorem Paired.mapP {α β:Type}{F G:α->β->Prop}:∀{l₁:List α}{l₂:List β},Paired F l₁ l₂->(∀a b,F a b->G a b)->Paired G l₁ l₂
 | _,_,.nil,_=>.nil
 | _,_,.cons r t,f=>.cons (f _ _ r) (Paired.mapP t f)
theorem ObjOk.stay (x:ObjOk P w H h a o) (k:∀b u,(b=a∨H b=some (.own a))->h.get? b=some u->h'.get? b=some u)
  (ho:∀b,H b=some (.own a)->H' b=some (.own a)) (ht:∀b xs,H b=some (.tup xs)->H' b=some (.tup xs)):ObjOk P w H' h' a o:=by
 induction o with
 | lst xs=>obtain ⟨z,its,n,r,e⟩:=x;exact ⟨z,its,n,r,k _ _ (.inl rfl) e⟩
 | tup xs=>obtain ⟨z,its,r,ob,e,c⟩:=x;exact ⟨z,its,r,ob,k _ _ (.inl rfl) e,c⟩
 | dK kvs=>obtain ⟨z,y,vs,r,ob,es,ep,e,c⟩:=x;exact ⟨z,y,vs,r,ob,es,ep,k _ _ (.inl rfl) e,c⟩
 | dT kvs =>
  obtain ⟨z,y,xs,r,ob,es,ep,e,c⟩:=x
  exact ⟨z,y,xs,Paired.mapP r fun p q z=>⟨z.1,ht _ _ z.2.1,z.2.2⟩,ob,es,ep,k _ _ (.inl rfl) e,c⟩
 | set S n=>obtain ⟨ob,es,ep,t,e,c⟩:=x;exact ⟨ob,es,ep,t,k _ _ (.inl rfl) e,c⟩
 | ins C dx fs =>
  obtain ⟨d,z,ne,e,mA,⟨od,es,ep,e2,c⟩,r⟩:=x
  exact ⟨ho _ d,z,ne,k _ _ (.inl rfl) e,mA,⟨od,es,ep,k _ _ (.inr d) e2,c⟩,r⟩
 | own y=>obtain ⟨ob,e⟩:=x;exact ⟨ob,k _ _ (.inl rfl) e⟩
 | xd fs=>obtain ⟨mA,⟨od,es,ep,e,c⟩,r⟩:=x;exact ⟨mA,⟨od,es,ep,k _ _ (.inl rfl) e,c⟩,r⟩
 | rng lo hi=>obtain ⟨t,u,v,e⟩:=x;exact ⟨t,u,v,k _ _ (.inl rfl) e⟩
 | frz ob u ih=>obtain ⟨e,q⟩:=x;exact ⟨k _ _ (.inl rfl) e,ih q⟩
 | tbl ps =>
  have e:h.get? a=some { cls:=.none,data:=.fields ps }:=x
  show h'.get? a=some { cls:=.none,data:=.fields ps }
  exact k a _ (.inl rfl) e
 | met f y =>
  have e:h.get? a=some (PySem.W.methodObj (.ref f) (.ref y)):=x
  show h'.get? a=some (PySem.W.methodObj (.ref f) (.ref y))
  exact k a _ (.inl rfl) e
 | ext φ=>obtain ⟨p,⟨o,e⟩,st⟩:=x;exact ⟨st _ _ p fun o q=>k _ _ (.inl rfl) q,⟨o,k _ _ (.inl rfl) e⟩,st⟩
theorem HOk.lt (x:HOk P w H h) (e:H a=some o):a<h.objs.size:=(x a o e).lt
theorem HOk.fresh (x:HOk P w H h) (e:h.objs.size<=a):H a=none:=by
 cases q:H a with
 | none=>rfl
 | some u=>exact absurd (Nat.lt_of_lt_of_le (x.lt q) e) (Nat.lt_irrefl _)
theorem HOk.kept (x:HOk P w H h) (k:∀b u,h.get? b=some u->h'.get? b=some u):HOk P w H h':=fun a o e =>
 (x a o e).stay (fun b u _ q=>k b u q) (fun _ q=>q) fun _ _ q=>q
theorem HOk.laid (x:HOk P w H h) (k:∀b u,h.get? b=some u->h'.get? b=some u) (hp:h.objs.size<=a) (new:ObjOk P w (upd H a o) h' a o):HOk P w (upd H a o) h':=fun b u e=>by
 have hn:=x.fresh hp
 by_cases hb:b=a
 ·subst hb;rw [zcz] at e;cases e;exact new
 ·rw [za7 hb] at e
  exact (x b u e).stay (fun c v _ q=>k c v q) (fun c q=>by rw [za7 (zb9 q hn)];exact q) fun c xs q=>by rw [za7 (zb9 q hn)];exact q
end
noncomputable def Rd (H:Hp) (a:Addr) (u:HO):Prop:=H a=some u∨∃o,H a=some (.frz o u)
theorem Rd.ok {P:Program}{w:World}{H:Hp}{h:Heap}{a:Addr}{u:HO}(r:Rd H a u) (x:HOk P w H h):ObjOk P w H h a u:=by
 rcases r with r|⟨o,r⟩
 ·exact x a u r
 ·obtain ⟨_,q⟩:=x a _ r
  exact q
noncomputable def Mut:Option HO->Prop
 | some (.lst _)=>True
 | some (.dK _)=>True
 | some (.dT _)=>True
 | some (.set _ _)=>True
 | some (.ins _ _ _)=>True
 | some (.ext _)=>True
 | _=>False
section
variable {P:Program}{w:World}{H:Hp}{h h':Heap}{x e:Addr}{o':HO}
theorem HOk.write (ok:HOk P w H h) (mu:Mut (H x)) (he:e=x∨H e=some (.own x)) (k:∀b u,b≠e->h.get? b=some u->h'.get? b=some u) (heo:∃u,h'.get? e=some u)
  (new:ObjOk P w (upd H x o') h' x o'):HOk P w (upd H x o') h':=fun b u q=>by
 have nown:∀c y,H c=some (.own y)->c≠x:=fun c y r z=>by subst z;rw [r] at mu;exact mu
 have ntup:∀c xs,H c=some (.tup xs)->c≠x:=fun c xs r z=>by subst z;rw [r] at mu;exact mu
 by_cases hb:b=x
 ·subst hb;rw [zcz] at q;cases q;exact new
 ·rw [za7 hb] at q
  by_cases hbe:b=e
  ·have q':H b=some (.own x):=by
    rcases he with z|z
    ·exact absurd (hbe.trans z) hb
    ·rw [hbe];exact z
   rw [q] at q';cases q'
   obtain ⟨v,hv⟩:=heo
   exact ⟨v,by rw [hbe];exact hv⟩
  ·refine (ok b u q).stay (fun c v hc r=>k c v ?_ r) (fun c r=>by rw [za7 (nown c b r)];exact r) fun c xs r=>by rw [za7 (ntup c xs r)];exact r
   rcases hc with rfl|hc
   ·exact hbe
   ·rintro rfl
    rcases he with z|z
    ·exact nown c b hc z
    ·rw [hc] at z;cases z;exact hb rfl
end
structure Un (fs ex:List Addr) (H H':Hp) (h h':Heap):Prop where
 keep:∀b o,h.get? b=some o->H b=none->b ∉ fs->b ∉ ex->h'.get? b=some o
 slot:∀b o,h.get? b=some o->H b=none->b∈fs->b ∉ ex->∃sl,h'.get? b=some { o with slots:=sl }
 free:∀b o,h.get? b=some o->H b=none->b ∉ ex->H' b=none
 there:∀b o,h.get? b=some o->b ∉ ex->∃o',h'.get? b=some o'
 tups:∀b xs,H b=some (.tup xs)->H' b=some (.tup xs)
 frzs:∀b o u,H b=some (.frz o u)->H' b=some (.frz o u)
 tbls:∀b ps,H b=some (.tbl ps)->∃more,H' b=some (.tbl (ps++more))
section
variable {fs fs' ex ex':List Addr}{H H1 H2:Hp}{h h1 h2 h':Heap}{a x e:Addr}{o:HO}
theorem Un.any (u:Un fs ex H H1 h h1) {b:Addr}{ob:Obj}(q:h.get? b=some ob) (n:H b=none) (hx:b ∉ ex):∃sl,h1.get? b=some { ob with slots:=sl }:=by
 by_cases hb:b∈fs
 ·exact u.slot b ob q n hb hx
 ·exact ⟨ob.slots,u.keep b ob q n hb hx⟩
theorem Un.kept (k:∀b u,h.get? b=some u->h'.get? b=some u):Un fs ex H H h h' :=
 ⟨fun b ob q _ _ _=>k b ob q,fun b ob q _ _ _=>⟨ob.slots,k b ob q⟩,fun _ _ _ n _=>n,fun b ob q _=>⟨ob,k b ob q⟩,fun _ _ q=>q,fun _ _ _ q=>q,fun _ ps q=>⟨#[],by rw [q];simp⟩⟩
theorem Un.refl:Un fs ex H H h h:=Un.kept fun _ _ q=>q
theorem Un.laid (k:∀b u,h.get? b=some u->h'.get? b=some u) (hp:h.objs.size<=a) (hn:H a=none):Un fs ex H (upd H a o) h h' where
 keep:=fun b u q _ _ _=>k b u q
 slot:=fun b u q _ _ _=>⟨u.slots,k b u q⟩
 free:=fun b u q n _=>by rw [za7 (Nat.ne_of_lt (Nat.lt_of_lt_of_le (Heap.lt_size q) hp))];exact n
 there:=fun b u q _=>⟨u,k b u q⟩
 tups:=fun b xs q=>by rw [za7 (zb9 q hn)];exact q
 frzs:=fun b u xs q=>by rw [za7 (zb9 q hn)];exact q
 tbls:=fun b ps q=>⟨#[],by rw [za7 (zb9 q hn),q];simp⟩
theorem Un.write (mu:Mut (H x)) (he:e=x∨H e=some (.own x)) (k:∀b u,b≠e->h.get? b=some u->h'.get? b=some u) (heo:∃u,h'.get? e=some u):Un fs ex H (upd H x o) h h':=by
 have hx:∀b,H b=none->b≠x:=fun b n z=>by subst z;rw [n] at mu;exact mu
 have hb:∀b,H b=none->b≠e:=fun b n z=>by
  subst z
  rcases he with r|r
  ·exact hx b n r
  ·rw [n] at r;cases r
 have hm:∀b u,H b=some u->¬Mut (some u)->b≠x:=fun b u q nm z=>by subst z;rw [q] at mu;exact nm mu
 refine ⟨fun b u q n _ _=>k b u (hb b n) q,fun b u q n _ _=>⟨u.slots,k b u (hb b n) q⟩,fun b u q n _=>by rw [za7 (hx b n)];exact n,fun b u q _=>?_,
  fun b xs q=>by rw [za7 (hm b _ q fun z=>z)];exact q,fun b u xs q=>by rw [za7 (hm b _ q fun z=>z)];exact q,fun b ps q=>⟨#[],by rw [za7 (hm b _ q fun z=>z),q];simp⟩⟩
 by_cases hbe:b=e
 ·subst hbe;exact heo
 ·exact ⟨u,k b u hbe q⟩
end
noncomputable def trk (h:Heap) (H:Hp):List Addr:=(List.range h.objs.size).filter fun a=>(H a).isSome
noncomputable def zfq (h:Heap) (H:Hp):Heap:=PySem.W.hideAll h (trk h H)
theorem zvy (h:Heap) (H:Hp):(zfq h H).objs.size=h.objs.size:=PySem.W.hideAll_size _ _
theorem zvz {h:Heap}{H:Hp}{b:Addr}{o:Obj}(e:h.get? b=some o) (n:H b=none):(zfq h H).get? b=some o :=
 PySem.W.hideAll_get _ e fun hm=>by
  have q:(H b).isSome=true:=(List.mem_filter.mp hm).2
  rw [n] at q;simp at q
theorem zv0 {h:Heap}{H:Hp}{b:Addr}{o:Obj}(e:(zfq h H).get? b=some o):h.get? b=some o/\H b=none:=by
 have e':h.get? b=some o:=PySem.W.of_hideAll (trk h H) e
 refine ⟨e',?_⟩
 cases q:H b with
 | none=>rfl
 | some x =>
  have hm:b∈trk h H:=List.mem_filter.mpr ⟨List.mem_range.mpr (Heap.lt_size e'),by simp [q]⟩
  have z:(zfq h H).get? b=none:=PySem.W.hideAll_none (trk h H) hm
  rw [z] at e;cases e
noncomputable def zv1 (g h:Heap) (L:Addr):List (Addr × Obj):=(List.range h.objs.size).filterMap fun a=>if a=L∨(g.get? a).isSome=true then none else (h.get? a).map fun o=>(a,o)
noncomputable def rest (g h:Heap) (L d:Addr):List (Addr × Obj):=(zv1 g h L).filter fun p=>decide (p.1≠d)
structure Mod (K:QFg) (mg:Str->Option Value) (base:Heap):Prop where
 kin:K.In base
 glob:base.Ns mainGlobals mg
 blt:∃mb,base.Ns builtinsNs mb/\∀x:Str,x≠"__name__"->mb x=bootBuiltins x
 nolimit:base.NoLimit
structure Cx where
 prog:Program
 w:World
 K:QFg
 mg:Str->Option Value
 base:Heap
 A:Around
 N:List Str
 s₀:Shared
 H₀:Hp
 env:Env
 outer:List Env
 stack:List Env
 ex:List Addr
 fn:Str->Bool
 calm:Bool
 pn:List (Addr × Obj)
 xe:Value->Shared->Prop
noncomputable def frs (l:List Env):List Addr:=l.filterMap (·.frame)
noncomputable abbrev Cx.fs (X:Cx):List Addr:=frs X.outer
noncomputable def Vis (sc:Scope) (x:Str):Prop:=sc.names.lookup x=some .local∨sc.names.lookup x=some .cell∨sc.names.lookup x=some .free
noncomputable def Loc (sc:Scope) (x:Str):Prop:=sc.names.lookup x=some .local∨sc.names.lookup x=some .cell
noncomputable def zv2 (env:Env) (h:Heap) (m:Str->Option Value) (x:Str) (u:Value):Prop :=
 (env.kindOf x=some .local/\m x=some u)∨((env.kindOf x=some .cell∨env.kindOf x=some .free)/\∃c,env.cells.lookup x=some c/\h.IsCell c (some u))
structure Cx.Ok (X:Cx):Prop where
 mod:Mod X.K X.mg X.base
 kind:X.env.scope.kind=.function
 glob:X.env.globals=mainGlobals
 blt:X.env.builtins=builtinsNs
 above:X.s₀.heap.objs.size<=X.env.locals
 inj:∀x y c,X.env.cells.lookup x=some c->X.env.cells.lookup y=some c->x=y
 has:∀x,(X.env.kindOf x=some .cell∨X.env.kindOf x=some .free)->∃c,X.env.cells.lookup x=some c
 cab:∀x c,X.fn x=true->X.env.cells.lookup x=some c->X.s₀.heap.objs.size<=c
 hd:X.calm=true->X.A.handled=none
 frames:X.A.frames=some X.stack
 stk:X.stack=X.outer∨(X.stack=X.env :: X.outer/\X.env.frame=some X.env.locals)
 exf:∀b∈X.ex,b≠X.env.locals/\∀x c,X.env.cells.lookup x=some c->c≠b
 bs:∀b o,X.base.get? b=some o->X.s₀.heap.get? b=some o/\X.H₀ b=none
 bsz:X.base.objs.size<=X.s₀.heap.objs.size
 noex:∀b o,X.base.get? b=some o->b ∉ X.ex
 exfs:∀b∈X.ex,b ∉ X.fs
 funs:X.s₀.heap.FunFrames X.base X.outer
 frf:∀b∈X.fs,X.H₀ b=none
structure Inv (X:Cx) (pins:List (Addr × Obj)) (σ:List (Option V)) (H:Hp) (s:Shared):Prop where
 ok:X.Ok
 os:s.os=X.s₀.os
 bare:AllBare s.gens
 base:Un X.fs X.ex X.H₀ H X.s₀.heap s.heap
 loc:∃m,s.heap.Ns X.env.locals m/\∀(i:Nat) (x:Str) (v:V),X.N[i]? = some x->σ[i]? = some (some v)->Vis X.env.scope x->∃u,RelV v u/\zv2 X.env s.heap m x u
 cell:∀x c,X.env.cells.lookup x=some c->∃v,s.heap.IsCell c v
 free:H X.env.locals=none
 freeC:∀x c,X.env.cells.lookup x=some c->H c=none
 pin:∀p∈X.pn++pins,s.heap.get? p.1=some p.2/\H p.1=none/\p.1≠X.env.locals/\p.1 ∉ X.fs/\∀v,p.2.data≠.cell v
 hok:HOk X.prog X.w H s.heap
 len:σ.length=X.N.length
section
variable {X:Cx}{pins:List (Addr × Obj)}{σ:List (Option V)}{H H':Hp}{s:Shared}{h':Heap}
theorem Cx.Ok.nofr (ok:X.Ok) {b:Addr}{o:Obj}(e:X.base.get? b=some o):b ∉ X.fs:=fun hb=>by
 have:=(ok.funs.mem hb).1
 rw [e] at this;cases this
theorem Inv.bs (I:Inv X pins σ H s):∀b o,X.base.get? b=some o->s.heap.get? b=some o/\H b=none:=fun b o e =>
 ⟨I.base.keep b o (I.ok.bs b o e).1 (I.ok.bs b o e).2 (I.ok.nofr e) (I.ok.noex b o e),I.base.free b o (I.ok.bs b o e).1 (I.ok.bs b o e).2 (I.ok.noex b o e)⟩
theorem Inv.bk (I:Inv X pins σ H s):∀b o,X.base.get? b=some o->s.heap.get? b=some o:=fun b o e=>(I.bs b o e).1
theorem Inv.mod (I:Inv X pins σ H s):Mod X.K X.mg X.base:=I.ok.mod
theorem Inv.kIn (I:Inv X pins σ H s):X.K.In s.heap:=I.ok.mod.kin.keeps I.bk
theorem Inv.lt (I:Inv X pins σ H s):X.env.locals<s.heap.objs.size:=let ⟨_,hn,_⟩:=I.loc;hn.lt
theorem Inv.sz (I:Inv X pins σ H s):X.s₀.heap.objs.size<=s.heap.objs.size:=Nat.le_trans I.ok.above (Nat.le_of_lt I.lt)
theorem Inv.nofs (I:Inv X pins σ H s) {a:Addr}(h:s.heap.objs.size<=a):a ∉ X.fs:=fun hb=>by
 obtain ⟨_,o,ho,_⟩:=I.ok.funs.mem hb
 exact absurd (Nat.lt_of_lt_of_le (Heap.lt_size ho) (Nat.le_trans I.sz h)) (Nat.lt_irrefl _)
theorem Inv.cne (I:Inv X pins σ H s):∀x c,X.env.cells.lookup x=some c->c≠X.env.locals:=fun x c e z=>by
 obtain ⟨v,o,ho,hd⟩:=I.cell x c e
 obtain ⟨m,⟨o',es,ep,ho',hd',_⟩,_⟩:=I.loc
 rw [z,ho'] at ho;cases ho;rw [hd'] at hd;cases hd
theorem Inv.funs (I:Inv X pins σ H s):s.heap.FunFrames X.base X.outer:=by
 have all:∀(l:List Env),(∀b∈frs l,b∈X.fs)->X.s₀.heap.FunFrames X.base l->s.heap.FunFrames X.base l:=by
  intro l
  induction l with
  | nil=>intro _ _;trivial
  | cons env r ih =>
   intro hs hl
   obtain ⟨hk,⟨L,o,hf,hn,ho,hd⟩,hr⟩:=hl
   have hL:L∈X.fs:=hs L (by unfold frs;rw [List.filterMap_cons,hf];exact List.mem_cons_self)
   obtain ⟨sl,e⟩:=I.base.slot L o ho (I.ok.frf L hL) hL fun z=>I.ok.exfs L z hL
   exact ⟨hk,⟨L,_,hf,hn,e,hd⟩,ih (fun b hb=>hs b (by unfold frs;rw [List.filterMap_cons,hf];exact List.mem_cons_of_mem _ hb)) hr⟩
 exact all X.outer (fun _ hb=>hb) I.ok.funs
theorem Inv.stack (I:Inv X pins σ H s):s.heap.FunFrames X.base X.stack:=by
 rcases I.ok.stk with e|⟨e,hf⟩
 ·rw [e];exact I.funs
 ·rw [e]
  obtain ⟨m,hn,_⟩:=I.loc
  refine .cons (by rw [I.ok.kind];decide) hf hn ?_ I.funs
  exact Heap.get?_none_of_le (Nat.le_trans I.ok.bsz I.ok.above)
theorem Inv.stkSub (I:Inv X pins σ H s):∀b∈frs X.stack,b∈X.env.locals :: X.fs:=fun b hb=>by
 rcases I.ok.stk with e|⟨e,hf⟩
 ·rw [e] at hb;exact List.mem_cons_of_mem _ hb
 ·rw [e] at hb
  unfold frs at hb
  rw [List.filterMap_cons,hf] at hb
  exact hb
theorem Inv.stkFree (I:Inv X pins σ H s):∀b∈frs X.stack,H b=none:=fun b hb=>by
 rcases List.mem_cons.mp (I.stkSub b hb) with e|hb
 ·rw [e];exact I.free
 ·obtain ⟨_,o,ho,_⟩:=I.ok.funs.mem hb
  exact I.base.free b o ho (I.ok.frf b hb) fun z=>I.ok.exfs b z hb
theorem Inv.step {g':Array GenState}{t':Nat}{d':Drawn}{ch:List Addr}(I:Inv X pins σ H s)
  (hch:∀b∈ch,(b∈X.ex∨X.s₀.heap.objs.size<=b)/\b≠X.env.locals/\(∀x c,X.env.cells.lookup x=some c->c≠b)/\∀p∈X.pn++pins,p.1≠b)
  (keep:∀b o,b≠X.env.locals->b ∉ X.fs->b ∉ ch->s.heap.get? b=some o->H b=none->h'.get? b=some o)
  (slot:∀b o,b≠X.env.locals->b∈X.fs->b ∉ ch->s.heap.get? b=some o->H b=none->∃sl,h'.get? b=some { o with slots:=sl }) (free:∀b o,b ∉ ch->s.heap.get? b=some o->H b=none->H' b=none)
  (there:∀b o,b ∉ ch->s.heap.get? b=some o->∃o',h'.get? b=some o')
  (tups:∀b xs,H b=some (.tup xs)->H' b=some (.tup xs)) (frzs:∀b o u,H b=some (.frz o u)->H' b=some (.frz o u)) (tbls:∀b ps,H b=some (.tbl ps)->∃more,H' b=some (.tbl (ps++more)))
  (ns:∀m,s.heap.Ns X.env.locals m->h'.Ns X.env.locals m) (hok:HOk X.prog X.w H' h') (hg:AllBare g') :
  Inv X pins σ H' { s with heap:=h',gens:=g',drawn:=d',toks:=t' }:=by
 have neL:∀b o,X.s₀.heap.get? b=some o->b≠X.env.locals:=fun b o e=>Nat.ne_of_lt (Nat.lt_of_lt_of_le (Heap.lt_size e) I.ok.above)
 have neC:∀b o,X.s₀.heap.get? b=some o->b ∉ X.ex->b ∉ ch:=fun b o e hx hb=>by
  rcases (hch b hb).1 with z|z
  ·exact hx z
  ·exact absurd (Nat.lt_of_lt_of_le (Heap.lt_size e) z) (Nat.lt_irrefl _)
 have cellK:∀x c,X.env.cells.lookup x=some c->∀v,s.heap.IsCell c v->h'.IsCell c v:=fun x c e v hx1_=>by
  obtain ⟨o,ho,hd⟩:=hx1_
  have nch:c ∉ ch:=fun z=>(hch c z).2.2.1 x c e rfl
  by_cases hc:c∈X.fs
  ·obtain ⟨sl,q⟩:=slot c o (I.cne x c e) hc nch ho (I.freeC x c e)
   exact ⟨_,q,hd⟩
  ·exact ⟨o,keep c o (I.cne x c e) hc nch ho (I.freeC x c e),hd⟩
 refine ⟨I.ok,I.os,hg,⟨fun b o e n hb hx=>?_,fun b o e n hb hx=>?_,fun b o e n hx=>?_,fun b o e hx=>?_,fun b xs e=>tups b xs (I.base.tups b xs e),fun b o xs e=>frzs b o xs (I.base.frzs b o xs e),fun b ps e=>?_⟩,?_,fun x c e=>?_,?_,fun x c e=>?_,fun p hp=>?_,hok,I.len⟩
 ·exact keep b o (neL b o e) hb (neC b o e hx) (I.base.keep b o e n hb hx) (I.base.free b o e n hx)
 ·obtain ⟨sl,e1⟩:=I.base.slot b o e n hb hx
  obtain ⟨sl',e2⟩:=slot b _ (neL b o e) hb (neC b o e hx) e1 (I.base.free b o e n hx)
  exact ⟨sl',e2⟩
 ·obtain ⟨o',e1⟩:=I.base.there b o e hx
  exact free b o' (neC b o e hx) e1 (I.base.free b o e n hx)
 ·obtain ⟨o',e1⟩:=I.base.there b o e hx
  exact there b o' (neC b o e hx) e1
 ·obtain ⟨m1,e1⟩:=I.base.tbls b ps e
  obtain ⟨m2,e2⟩:=tbls b _ e1
  exact ⟨m1++m2,by rw [e2,Array.append_assoc]⟩
 ·obtain ⟨m,hn,hl⟩:=I.loc
  refine ⟨m,ns m hn,fun i x v e1 e2 e3=>?_⟩
  obtain ⟨u,r,l⟩:=hl i x v e1 e2 e3
  refine ⟨u,r,?_⟩
  rcases l with l|⟨k,c,e,z⟩
  ·exact .inl l
  ·exact .inr ⟨k,c,e,cellK x c e _ z⟩
 ·obtain ⟨v,z⟩:=I.cell x c e
  exact ⟨v,cellK x c e v z⟩
 ·obtain ⟨m,⟨o,_,_,ho,_⟩,_⟩:=I.loc
  exact free _ o (fun z=>(hch _ z).2.1 rfl) ho I.free
 ·obtain ⟨v,o,ho,hd⟩:=I.cell x c e
  exact free c o (fun z=>(hch c z).2.2.1 x c e rfl) ho (I.freeC x c e)
 ·obtain ⟨e,n,ne,nf,d⟩:=I.pin p hp
  have nch:p.1 ∉ ch:=fun z=>(hch p.1 z).2.2.2 p hp rfl
  exact ⟨keep p.1 p.2 ne nf nch e n,free p.1 p.2 nch e n,ne,nf,d⟩
theorem Inv.un {t':Nat}(I:Inv X pins σ H s) (u:Un X.fs [] H H' s.heap h') (hok:HOk X.prog X.w H' h'):Inv X pins σ H' { s with heap:=h',toks:=t' }:=by
 obtain ⟨m,⟨o,es,ep,ho,r⟩,_⟩:=id I.loc
 obtain ⟨sl,hL⟩:=u.any ho I.free (by simp)
 exact I.step (g':=s.gens) (d':=s.drawn) (ch:=[]) (fun _ z=>nomatch z) (fun b o _ hb _ e n=>u.keep b o e n hb (by simp)) (fun b o _ hb _ e n=>u.slot b o e n hb (by simp)) (fun b o _ e n=>u.free b o e n (by simp)) (fun b o _ e=>u.there b o e (by simp)) u.tups u.frzs u.tbls (fun m' hm=>by
  obtain ⟨o',es',ep',ho',r'⟩:=hm
  rw [ho] at ho';cases ho'
  exact ⟨_,es',ep',hL,r'⟩) hok I.bare
theorem Inv.call {g':Array GenState}{t':Nat}{d':Drawn}{ch:List Addr}(I:Inv X pins σ H s) (u:Un (frs X.stack) ch H H' s.heap h') (hok:HOk X.prog X.w H' h') (hg:AllBare g')
  (hch:∀b∈ch,(b∈X.ex∨X.s₀.heap.objs.size<=b)/\b≠X.env.locals/\(∀x c,X.env.cells.lookup x=some c->c≠b)/\∀p∈X.pn++pins,p.1≠b) :
  Inv X pins σ H' { s with heap:=h',gens:=g',drawn:=d',toks:=t' }:=by
 obtain ⟨m,⟨o,es,ep,ho,r⟩,_⟩:=id I.loc
 obtain ⟨sl,hL⟩:=u.any ho I.free fun z=>(hch _ z).2.1 rfl
 exact I.step (ch:=ch) hch (fun b o hL hb hc e n=>u.keep b o e n (fun z=>(List.mem_cons.mp (I.stkSub b z)).elim hL hb) hc) (fun b o _ _ hc e n=>u.any e n hc) (fun b o hc e n=>u.free b o e n hc) (fun b o hc e=>u.there b o e hc) u.tups u.frzs u.tbls (fun m' hm=>by
  obtain ⟨o',es',ep',ho',r'⟩:=hm
  rw [ho] at ho';cases ho'
  exact ⟨_,es',ep',hL,r'⟩) hok hg
theorem Inv.turned {t':Nat}{it:Addr}(I:Inv X pins σ H s) (k:∀b o,b≠it->s.heap.get? b=some o->h'.get? b=some o) (hn:H it=none) (hL:it≠X.env.locals)
  (h1:it∈X.ex∨X.s₀.heap.objs.size<=it) (h2:∀x c,X.env.cells.lookup x=some c->c≠it) (h3:∀p∈X.pn++pins,p.1≠it):Inv X pins σ H { s with heap:=h',toks:=t' }:=by
 have nit:∀b u,H b=some u->b≠it:=fun b u e z=>by rw [z,hn] at e;cases e
 refine I.step (g':=s.gens) (d':=s.drawn) (ch:=[it]) (fun b hb=>?_) (fun b o _ _ hc e _=>k b o (fun z=>hc (by simp [z])) e) (fun b o _ _ hc e _=>⟨o.slots,k b o (fun z=>hc (by simp [z])) e⟩) (fun _ _ _ _ n=>n)
  (fun b o hc e=>⟨o,k b o (fun z=>hc (by simp [z])) e⟩) (fun _ _ e=>e) (fun _ _ _ e=>e) (fun b ps e=>⟨#[],by rw [e];simp⟩) (fun m hm=>?_) (fun b u e=>?_) I.bare
 ·have e:b=it:=by simpa using hb
  subst e
  exact ⟨h1,hL,h2,h3⟩
 ·obtain ⟨o,es,ep,ho,r⟩:=hm
  exact ⟨o,es,ep,k _ o (Ne.symm hL) ho,r⟩
 ·refine (I.hok b u e).stay (fun c v hc q=>k c v ?_ q) (fun _ q=>q) fun _ _ q=>q
  rcases hc with z|z
  ·rw [z];exact nit b u e
  ·exact nit c _ z
theorem Inv.tok (I:Inv X pins σ H s) (t:Nat):Inv X pins σ H { s with toks:=t }:=I.un (h':=s.heap) (t':=t) Un.refl I.hok
theorem Inv.kept {t':Nat}(I:Inv X pins σ H s) (k:∀b u,s.heap.get? b=some u->h'.get? b=some u):Inv X pins σ H { s with heap:=h',toks:=t' }:=I.un (Un.kept k) (I.hok.kept k)
theorem Inv.laid {a:Addr}{o:HO}{t':Nat}(I:Inv X pins σ H s) (k:∀b u,s.heap.get? b=some u->h'.get? b=some u) (hp:s.heap.objs.size<=a) (new:ObjOk X.prog X.w (upd H a o) h' a o) :
  Inv X pins σ (upd H a o) { s with heap:=h',toks:=t' }:=I.un (Un.laid k hp (I.hok.fresh hp)) (I.hok.laid k hp new)
theorem Inv.write {x e:Addr}{o:HO}{t':Nat}(I:Inv X pins σ H s) (mu:Mut (H x)) (he:e=x∨H e=some (.own x)) (k:∀b u,b≠e->s.heap.get? b=some u->h'.get? b=some u) (heo:∃u,h'.get? e=some u)
  (new:ObjOk X.prog X.w (upd H x o) h' x o):Inv X pins σ (upd H x o) { s with heap:=h',toks:=t' }:=I.un (Un.write mu he k heo) (I.hok.write mu he k heo new)
theorem Inv.pins_of {pins':List (Addr × Obj)}(I:Inv X pins σ H s) (h:∀p∈pins',s.heap.get? p.1=some p.2/\H p.1=none/\p.1≠X.env.locals/\p.1 ∉ X.fs/\∀v,p.2.data≠.cell v):Inv X pins' σ H s :=
 ⟨I.ok,I.os,I.bare,I.base,I.loc,I.cell,I.free,I.freeC,fun p hp=>(List.mem_append.mp hp).elim (fun z=>I.pin p (List.mem_append_left _ z)) (h p),I.hok,I.len⟩
theorem zog {N:List Str}(hN:N.Nodup) {i j:Nat}{x:Str}(a:N[i]? = some x) (b:N[j]? = some x):i=j:=by
 obtain ⟨h1,e1⟩:=qme a
 obtain ⟨h2,e2⟩:=qme b
 exact (List.getElem_inj hN).mp (e1.trans e2.symm)
theorem zoh {M:Model}{A:Around}{E:Value->Shared->Prop}{i:Nat}{x:Str}{v:V}{u:Value}{Q:Unit->Shared->Prop}(I:Inv X pins σ H s) (hN:X.N.Nodup) (hi:X.N[i]? = some x) (hx:Loc X.env.scope x) (r:RelV v u)
  (h:∀s',Inv X pins (σ.set i (some v)) H s'->(∃a,Heap.SameBut a s.heap s'.heap/\(a=X.env.locals∨X.env.cells.lookup x=some a))->Q () s') (hf:X.fn x=true∨X.env.scope.names.lookup x=some .local:=by first|exact .inl rfl|exact .inr rfl|assumption):wpAny M A (storeName X.env x u) Q E s:=by
 obtain ⟨m,hn,hl⟩:=id I.loc
 have hcls:(X.env.scope.kind == .class || (X.env.scope.kind == .module && X.env.locals != X.env.globals))=false:=by rw [I.ok.kind];rfl
 have hiσ:i<σ.length:=by rw [I.len];exact (qme hi).1
 have cne:=I.cne
 have tracked:∀{a:Addr} {h':Heap},(∃o,s.heap.get? a=some o/\H a=none)->Heap.SameBut a s.heap h'->HOk X.prog X.w H h':=fun {a h'} ha hs b ob e=>by
  obtain ⟨_,_,hfree⟩:=ha
  refine (I.hok b ob e).stay (fun c w' hc q=>(hs.2 c ?_).trans q) (fun _ q=>q) fun _ _ q=>q
  rintro rfl
  rcases hc with rfl|hc
  ·rw [hfree] at e;cases e
  ·rw [hfree] at hc;cases hc
 rcases hx with hk|hk
 ·refine wpAny_storeName_local hk hn (fun h' hn' hs=>?_) hcls
  obtain ⟨oL,_,_,hoL,_⟩:=id hn
  refine h _ ⟨I.ok,I.os,I.bare,⟨fun b o e n hb hx=>?_,fun b o e n hb hx=>?_,I.base.free,fun b o e hx=>?_,I.base.tups,I.base.frzs,I.base.tbls⟩,⟨_,hn',fun j y v' e1 e2 e3=>?_⟩,fun y c e=>?_,I.free,I.freeC,fun p hp=>?_,tracked ⟨oL,hoL,I.free⟩ hs,by simpa using I.len⟩ ⟨_,hs,.inl rfl⟩
  ·exact (hs.2 b (Nat.ne_of_lt (Nat.lt_of_lt_of_le (Heap.lt_size e) I.ok.above))).trans (I.base.keep b o e n hb hx)
  ·obtain ⟨sl,e1⟩:=I.base.slot b o e n hb hx
   exact ⟨sl,(hs.2 b (Nat.ne_of_lt (Nat.lt_of_lt_of_le (Heap.lt_size e) I.ok.above))).trans e1⟩
  ·obtain ⟨o',e1⟩:=I.base.there b o e hx
   exact ⟨o',(hs.2 b (Nat.ne_of_lt (Nat.lt_of_lt_of_le (Heap.lt_size e) I.ok.above))).trans e1⟩
  ·by_cases hj:j=i
   ·subst hj
    rw [hi] at e1;cases e1
    rw [List.getElem?_set_self hiσ] at e2
    cases e2
    exact ⟨u,r,.inl ⟨hk,by simp⟩⟩
   ·rw [List.getElem?_set_ne (Ne.symm hj)] at e2
    obtain ⟨u',r',q⟩:=hl j y v' e1 e2 e3
    refine ⟨u',r',?_⟩
    rcases q with ⟨k,e⟩|⟨k,c,e,z⟩
    ·refine .inl ⟨k,?_⟩
     have:y≠x:=fun e=>hj (zog hN e1 (e ▸ hi))
     simp [this,e]
    ·exact .inr ⟨k,c,e,z.sameBut hs (cne y c e)⟩
  ·obtain ⟨w',z⟩:=I.cell y c e
   exact ⟨w',z.sameBut hs (cne y c e)⟩
  ·obtain ⟨e,n,ne,nf,d⟩:=I.pin p hp
   exact ⟨(hs.2 p.1 ne).trans e,n,ne,nf,d⟩
 ·have hfn:X.fn x=true:=by
   rcases hf with z|z
   ·exact z
   ·rw [z] at hk;cases hk
  obtain ⟨c,hc⟩:=I.ok.has x (.inl hk)
  obtain ⟨w',z⟩:=I.cell x c hc
  refine wpAny_storeName_cell I.ok.kind hk hc z (fun h' hc' hs=>?_)
  obtain ⟨oc,hoc,hocd⟩:=id z
  refine h { s with heap:=h' } ⟨I.ok,I.os,I.bare,⟨fun b o e n hb hx=>?_,fun b o e n hb hx=>?_,I.base.free,fun b o e hx=>?_,I.base.tups,I.base.frzs,I.base.tbls⟩,⟨m,hn.sameBut hs (Ne.symm (cne x c hc)),fun j y v' e1 e2 e3=>?_⟩,fun y c' e=>?_,I.free,I.freeC,fun p hp=>?_,tracked ⟨oc,hoc,I.freeC x c hc⟩ hs,by simpa using I.len⟩ ⟨c,hs,.inr hc⟩
  ·exact (hs.2 b (Nat.ne_of_lt (Nat.lt_of_lt_of_le (Heap.lt_size e) (I.ok.cab x c hfn hc)))).trans (I.base.keep b o e n hb hx)
  ·obtain ⟨sl,e1⟩:=I.base.slot b o e n hb hx
   exact ⟨sl,(hs.2 b (Nat.ne_of_lt (Nat.lt_of_lt_of_le (Heap.lt_size e) (I.ok.cab x c hfn hc)))).trans e1⟩
  ·obtain ⟨o',e1⟩:=I.base.there b o e hx
   exact ⟨o',(hs.2 b (Nat.ne_of_lt (Nat.lt_of_lt_of_le (Heap.lt_size e) (I.ok.cab x c hfn hc)))).trans e1⟩
  ·by_cases hj:j=i
   ·subst hj
    rw [hi] at e1;cases e1
    rw [List.getElem?_set_self hiσ] at e2
    cases e2
    exact ⟨u,r,.inr ⟨.inl hk,c,hc,hc'⟩⟩
   ·rw [List.getElem?_set_ne (Ne.symm hj)] at e2
    obtain ⟨u',r',q⟩:=hl j y v' e1 e2 e3
    refine ⟨u',r',?_⟩
    rcases q with q|⟨k,c',e,z'⟩
    ·exact .inl q
    ·refine .inr ⟨k,c',e,z'.sameBut hs ?_⟩
     rintro rfl
     exact hj (zog hN e1 (I.ok.inj _ _ _ e hc ▸ hi))
  ·by_cases hcc:c' = c
   ·subst hcc;exact ⟨_,hc'⟩
   ·obtain ⟨w2,z2⟩:=I.cell y c' e
    exact ⟨w2,z2.sameBut hs hcc⟩
  ·obtain ⟨e,n,ne,nf,d⟩:=I.pin p hp
   refine ⟨(hs.2 p.1 ?_).trans e,n,ne,nf,d⟩
   intro q
   rw [q,hoc] at e
   have q':oc=p.2:=qoi e
   exact d w' (by rw [←q'];exact hocd)
theorem zoi {M:Model}{A:Around}{E:Value->Shared->Prop}{i:Nat}{x:Str}{v:V}{u:Value}{Q:Unit->Shared->Prop}(I:Inv X pins σ H s) (hN:X.N.Nodup) (hi:X.N[i]? = some x) (hx:Loc X.env.scope x) (r:RelV v u)
  (h:∀s',Inv X pins (σ.set i (some v)) H s'->Q () s') (hf:X.fn x=true∨X.env.scope.names.lookup x=some .local:=by first|exact .inl rfl|exact .inr rfl|assumption):wpAny M A (storeName X.env x u) Q E s :=
 zoh I hN hi hx r (fun s' I' _=>h s' I') hf
theorem Inv.call' {s':Shared}{ch:List Addr}(I:Inv X pins σ H s) (ho:s'.os=s.os) (u:Un (frs X.stack) ch H H' s.heap s'.heap) (hok:HOk X.prog X.w H' s'.heap) (hg:AllBare s'.gens)
  (hch:∀b∈ch,(b∈X.ex∨X.s₀.heap.objs.size<=b)/\b≠X.env.locals/\(∀x c,X.env.cells.lookup x=some c->c≠b)/\∀p∈X.pn++pins,p.1≠b):Inv X pins σ H' s':=by
 obtain ⟨h',g',d',t',o'⟩:=s'
 have e:o' = s.os:=ho
 subst e
 exact I.call (g':=g') (t':=t') (d':=d') u hok hg hch
end
noncomputable abbrev XK:=Value->Option Addr->Hp->Prop
noncomputable abbrev St:=List (Option V)
noncomputable abbrev VK:=V->Hp->Prop
noncomputable abbrev TE:=St->Hp->VK->Prop
noncomputable abbrev TT:=St->Hp->(Bool->Hp->Prop)->Prop
noncomputable abbrev TA:=St->Hp->(List V->Hp->Prop)->Prop
structure Ends where
 nx:St->Hp->Prop
 rt:VK
 bk:St->Hp->Prop:=fun _ _=>False
 ct:St->Hp->Prop:=fun _ _=>False
noncomputable abbrev TS:=Ends->St->Hp->Prop
noncomputable def EP (X:Cx) (pins:List (Addr × Obj)) (σ:St) (Q:VK) (u:Value) (s':Shared):Prop:=∃v H',Inv X pins σ H' s'/\RelV v u/\Q v H'
noncomputable def TP (X:Cx) (pins:List (Addr × Obj)) (σ:St) (Q:Bool->Hp->Prop) (b:Bool) (s':Shared):Prop:=∃H',Inv X pins σ H' s'/\Q b H'
noncomputable def AP (X:Cx) (pins:List (Addr × Obj)) (σ:St) (Q:List V->Hp->Prop) (us:List Value) (s':Shared):Prop:=∃vs H',Inv X pins σ H' s'/\Vals vs us/\Q vs H'
noncomputable def SP (X:Cx) (pins:List (Addr × Obj)) (D:Ends) (f:Flow) (s':Shared):Prop :=
 match f with
 | .next=>∃σ' H',Inv X pins σ' H' s'/\D.nx σ' H'
 | .brk=>∃σ' H',Inv X pins σ' H' s'/\D.bk σ' H'
 | .cont=>∃σ' H',Inv X pins σ' H' s'/\D.ct σ' H'
 | .ret u=>∃v σ' H',Inv X pins σ' H' s'/\RelV v u/\D.rt v H'
noncomputable def PE (X:Cx) (e:Expr) (t:TE):Prop :=
 ∀(pins:List (Addr × Obj)) (s:Shared) (σ:St) (H:Hp) (Q:VK),Inv X pins σ H s->t σ H Q->wpAny (model X.prog X.w) X.A (eval e X.env) (EP X pins σ Q) X.xe s
noncomputable def PT (X:Cx) (e:Expr) (t:TT):Prop :=
 ∀(pins:List (Addr × Obj)) (s:Shared) (σ:St) (H:Hp) (Q:Bool->Hp->Prop),Inv X pins σ H s->t σ H Q->wpAny (model X.prog X.w) X.A (isTrue e X.env (eval e X.env)) (TP X pins σ Q) X.xe s
noncomputable def PW (X:Cx) (e:Expr) (t:TT):Prop :=
 ∀(whole:Sem Value) (pins:List (Addr × Obj)) (s:Shared) (σ:St) (H:Hp) (Q:Bool->Hp->Prop),Inv X pins σ H s->t σ H Q->wpAny (model X.prog X.w) X.A (isTrue e X.env whole) (TP X pins σ Q) X.xe s
theorem PW.pt {X:Cx}{e:Expr}{t:TT}(h:PW X e t):PT X e t:=h _
noncomputable def PA (X:Cx) (es:List Expr) (t:TA):Prop :=
 ∀(pos:Pos) (pins:List (Addr × Obj)) (s:Shared) (σ:St) (H:Hp) (Q:List V->Hp->Prop),Inv X pins σ H s->t σ H Q->wpAny (model X.prog X.w) X.A (spliced (backTo pos (starEach es X.env))) (AP X pins σ Q) X.xe s
noncomputable def PS (X:Cx) (st:Stmt) (t:TS):Prop :=
 ∀(pins:List (Addr × Obj)) (s:Shared) (σ:St) (H:Hp) (D:Ends),Inv X pins σ H s->t D σ H->wpAny (model X.prog X.w) X.A (exec st X.env) (SP X pins D) X.xe s
noncomputable def PSs (X:Cx) (st:List Stmt) (t:TS):Prop :=
 ∀(pins:List (Addr × Obj)) (s:Shared) (σ:St) (H:Hp) (D:Ends),Inv X pins σ H s->t D σ H->wpAny (model X.prog X.w) X.A (execs st X.env) (SP X pins D) X.xe s
theorem thn {α:Type}{t:Sem α}{Q Q':α->Shared->Prop}{M:Model}{A:Around}{E:Value->Shared->Prop}{s:Shared}(h:wpAny M A t Q E s) (hQ:∀a s,Q a s->Q' a s):wpAny M A t Q' E s:=wpAny_mono h hQ fun _ _ x=>x
section
variable {X:Cx}
noncomputable def zv3 (i:Nat):TE:=fun σ H Q=>∃v,σ[i]? = some (some v)/\Q v H
noncomputable def tC (v:V):TE:=fun _ H Q=>Q v H
theorem zoj {i:Nat}{x:Str}{pos:Pos}(hN:X.N[i]? = some x) (hv:Vis X.env.scope x) (hd:(x == ("__debug__":Str))=false:=by decide) (hcd:(x == ("__classdict__":Str))=false:=by decide):PE X (.Name x pos) (zv3 i):=by
 intro pins s σ H Q I h
 obtain ⟨v,e,h⟩:=h
 obtain ⟨m,hn,hl⟩:=I.loc
 obtain ⟨u,r,l⟩:=hl i x v hN e hv
 have fin:EP X pins σ Q u s:=⟨v,H,I,r,h⟩
 rcases l with ⟨hk,hm⟩|⟨hk,c,hc,hcell⟩
 ·exact wpAny_Name (wpAny_loadName_local I.ok.kind hk hn hm fin) hd
 ·rcases hk with hk|hk
  ·exact wpAny_Name (wpAny_loadName_cell I.ok.kind hk hc hcell fin) hd
  ·exact wpAny_Name (wpAny_loadName_free I.ok.kind hk hc hcell fin hcd) hd
theorem zlx {i j pos}:PE X (.Constant (.int i) j pos) (tC (.int i)):=fun _ _ _ H _ I h=>wpAny_Constant_int ⟨.int i,H,I.tok _,⟨_,rfl⟩,h⟩
theorem zv4 {b j pos}:PE X (.Constant (.bool b) j pos) (tC (.bl b)):=fun _ _ _ H _ I h=>Constant_bool ⟨.bl b,H,I,rfl,h⟩
theorem zv5 {j pos}:PE X (.Constant .none j pos) (tC .non):=fun _ _ _ H _ I h=>Constant_none ⟨.non,H,I,rfl,h⟩
theorem zkh {x j pos}:PE X (.Constant (.str x) j pos) (tC (.str x)):=fun _ _ _ H _ I h=>Calls.Constant_str ⟨.str x,H,I.tok _,⟨_,rfl⟩,h⟩
noncomputable def Gl (X:Cx) (x:Str):Prop:=X.env.kindOf x=some .globalImplicit
theorem zok {E:Value->Shared->Prop}{pins:List (Addr × Obj)}{s:Shared}{σ:St}{H:Hp}{x:Str}{u:Value}{pos:Pos}{Q:Value->Shared->Prop}(I:Inv X pins σ H s) (hg:Gl X x) (hm:X.mg x=some u) (h:Q u s)
  (hd:(x == ("__debug__":Str))=false:=by decide):wpAny (model X.prog X.w) X.A (eval (.Name x pos) X.env) Q E s :=
 Calls.Name_function_global I.ok.kind hg (Calls.loadGlobal_global (by rw [I.ok.glob];exact I.mod.glob.keeps I.bk) hm h) hd
theorem zga {E:Value->Shared->Prop}{pins:List (Addr × Obj)}{s:Shared}{σ:St}{H:Hp}{x:Str}{u:Value}{pos:Pos}{Q:Value->Shared->Prop}(I:Inv X pins σ H s) (hg:Gl X x) (hm:X.mg x=none) (hv:bootBuiltins x=some u) (h:Q u s)
  (hn:x≠"__name__":=by decide) (hd:(x == ("__debug__":Str))=false:=by decide):wpAny (model X.prog X.w) X.A (eval (.Name x pos) X.env) Q E s:=by
 obtain ⟨mb,h1,h2⟩:=I.mod.blt
 exact Calls.Name_function_global I.ok.kind hg (Calls.loadGlobal_builtin (by rw [I.ok.glob];exact I.mod.glob.keeps I.bk) hm (by rw [I.ok.blt];exact h1.keeps I.bk) ((h2 x hn).trans hv) h) hd
theorem zv6 {x:Str}{v:V}{u:Value}{pos:Pos}(hg:Gl X x) (hm:X.mg x=some u) (r:RelV v u) (hd:(x == ("__debug__":Str))=false:=by decide):PE X (.Name x pos) (tC v) :=
 fun _ _ _ H _ I h=>zok I hg hm ⟨v,H,I,r,h⟩ hd
theorem zv7 {x:Str}{v:V}{u:Value}{pos:Pos}(hg:Gl X x) (hm:X.mg x=none) (hv:bootBuiltins x=some u) (r:RelV v u) (hn:x≠"__name__":=by decide) (hd:(x == ("__debug__":Str))=false:=by decide):PE X (.Name x pos) (tC v) :=
 fun _ _ _ H _ I h=>zga I hg hm hv ⟨v,H,I,r,h⟩ hn hd
variable {a b:Expr}{ta tb:TE}{pos:Pos}
noncomputable def tB (t:TE):TT:=fun σ H Q=>t σ H fun x H1=>∃c,x=.bl c/\Q c H1
theorem zv8 {e:Expr}{t:TE}(h:PE X e t) (he:∀whole,isTrue e X.env whole=(do let v ←whole;standAt e.pos;holding [v] (truthy v)):=by intro _;rfl):PT X e (tB t):=by
 intro pins s σ H Q I hw
 refine isTrue_plain (thn (h pins s σ H _ I hw) fun v s1 ⟨x,H1,I1,r1,q1⟩=>?_) (he _)
 obtain ⟨d,rfl,q⟩:=q1
 cases r1
 exact wpAny_truthy_bool ⟨H1,I1,q⟩
variable {tA tB':TT}{rest:List Expr}
noncomputable def tAnd (t u:TT):TT:=fun σ H Q=>t σ H fun c H1=>if c=true then u σ H1 Q else Q false H1
noncomputable def tOr (t u:TT):TT:=fun σ H Q=>t σ H fun c H1=>if c=true then Q true H1 else u σ H1 Q
noncomputable def zv9 (t:TT):TT:=fun σ H Q=>t σ H fun c H1=>Q (!c) H1
theorem zwa (ha:PT X a tA):PW X (.BoolOp .And [a] pos) tA:=by
 intro wh pins s σ H Q I h
 refine isTrue_and (thn (ha pins s σ H Q I h) fun c s1 e=>?_)
 cases c with
 | true=>exact isTrue_and_nil e
 | false=>exact e
theorem zwb (ha:PT X a tA):PW X (.BoolOp .Or [a] pos) tA:=by
 intro wh pins s σ H Q I h
 refine isTrue_or (thn (ha pins s σ H Q I h) fun c s1 e=>?_)
 cases c with
 | false=>exact isTrue_or_nil e
 | true=>exact e
theorem zwc (ha:PT X a tA) (hb:PW X (.BoolOp .And (b :: rest) pos) tB'):PW X (.BoolOp .And (a :: b :: rest) pos) (tAnd tA tB'):=by
 intro wh pins s σ H Q I h
 refine isTrue_and (thn (ha pins s σ H _ I h) fun c s1 ⟨H1,I1,q1⟩=>?_)
 cases c with
 | true=>exact hb wh pins s1 σ H1 Q I1 q1
 | false=>exact ⟨H1,I1,q1⟩
theorem zwd (ha:PT X a tA) (hb:PW X (.BoolOp .Or (b :: rest) pos) tB'):PW X (.BoolOp .Or (a :: b :: rest) pos) (tOr tA tB'):=by
 intro wh pins s σ H Q I h
 refine isTrue_or (thn (ha pins s σ H _ I h) fun c s1 ⟨H1,I1,q1⟩=>?_)
 cases c with
 | true=>exact ⟨H1,I1,q1⟩
 | false=>exact hb wh pins s1 σ H1 Q I1 q1
theorem zwe (ha:PT X a tA):PT X (.UnaryOp .Not a pos) (zv9 tA):=by
 intro pins s σ H Q I h
 exact isTrue_not (ha pins s σ H (fun c H1=>Q (!c) H1) I h)
noncomputable def zwf (ta tb:TE):TE:=fun σ H Q=>ta σ H fun x H1=>∃c,x=.bl c/\if c=true then tb σ H1 Q else Q (.bl false) H1
noncomputable def zwg (ta tb:TE):TE:=fun σ H Q=>ta σ H fun x H1=>∃c,x=.bl c/\if c=true then Q (.bl true) H1 else tb σ H1 Q
noncomputable def zwh (ta:TE):TE:=fun σ H Q=>ta σ H fun x H1=>∃c,x=.bl c/\Q (.bl (!c)) H1
theorem zwi {op}{t:TE}(h:PE X a t):PE X (.BoolOp op [a] pos) t:=fun pins s σ H Q I hw=>BoolOp_one (h pins s σ H Q I hw)
theorem zwj (ha:PE X a ta) (hb:PE X (.BoolOp .And (b :: rest) pos) tb):PE X (.BoolOp .And (a :: b :: rest) pos) (zwf ta tb):=by
 intro pins s σ H Q I h
 refine BoolOp_and (thn (ha pins s σ H _ I h) fun v s1 ⟨x,H1,I1,r1,q1⟩=>?_)
 obtain ⟨c,rfl,q1⟩:=q1
 cases r1
 refine wpAny_truthy_bool ?_
 cases c with
 | true=>exact hb pins s1 σ H1 Q I1 q1
 | false=>exact ⟨.bl false,H1,I1,rfl,q1⟩
theorem zwk (ha:PE X a ta) (hb:PE X (.BoolOp .Or (b :: rest) pos) tb):PE X (.BoolOp .Or (a :: b :: rest) pos) (zwg ta tb):=by
 intro pins s σ H Q I h
 refine BoolOp_or (thn (ha pins s σ H _ I h) fun v s1 ⟨x,H1,I1,r1,q1⟩=>?_)
 obtain ⟨c,rfl,q1⟩:=q1
 cases r1
 refine wpAny_truthy_bool ?_
 cases c with
 | false=>exact hb pins s1 σ H1 Q I1 q1
 | true=>exact ⟨.bl true,H1,I1,rfl,q1⟩
theorem zwl (ha:PE X a ta):PE X (.UnaryOp .Not a pos) (zwh ta):=by
 intro pins s σ H Q I h
 refine UnaryOp_ (thn (ha pins s σ H _ I h) fun v s1 ⟨x,H1,I1,r1,q1⟩=>?_)
 obtain ⟨c,rfl,q1⟩:=q1
 cases r1
 exact not_of (wpAny_truthy_bool ⟨.bl (!c),H1,I1,rfl,q1⟩)
noncomputable def tIf (t:TT) (ta tb:TE):TE:=fun σ H Q=>t σ H fun c H1=>if c=true then ta σ H1 Q else tb σ H1 Q
theorem zwm {c:Expr}(hc:PT X c tA) (ha:PE X a ta) (hb:PE X b tb):PE X (.IfExp c a b pos) (tIf tA ta tb):=by
 intro pins s σ H Q I h
 refine wpAny_IfExp (thn (hc pins s σ H _ I h) fun d s1 ⟨H1,I1,q1⟩=>?_)
 cases d with
 | true=>exact ha pins s1 σ H1 Q I1 q1
 | false=>exact hb pins s1 σ H1 Q I1 q1
end
noncomputable def SqL (K:QFg) (H:Hp) (a:Addr) (xs:List V):Prop :=
 Rd H a (.lst xs) ∨
  ∃(o:Obj) (its:Array Value) (n:Nat),K.lookup a=some o/\o.cls=.type "list"/\o.dict=none/\o.data=.seq its n/\its.size<=sizeLine/\Vals xs its.toList
noncomputable def SqT (K:QFg) (H:Hp) (a:Addr) (xs:List V):Prop :=
 Rd H a (.tup xs) ∨
  ∃(o:Obj) (its:Array Value) (n:Nat),K.lookup a=some o/\o.cls=.type "tuple"/\o.data=.seq its n/\its.size<=sizeLine/\Vals xs its.toList
noncomputable def zwn:Value->Option V
 | .none=>some .non
 | .bool b=>some (.bl b)
 | .int i _=>some (.int i)
 | .str x _=>some (.str x)
 | .bytes b _=>some (.byt b)
 | .float b _=>some (.flt b)
 | .ref a=>some (.ref a)
 | .type n=>some (.ty n)
 | _=>none
theorem RelV.abs {x:V}{u:Value}(r:RelV x u):zwn u=some x:=by
 cases x with
 | non=>cases r;rfl
 | bl _=>cases r;rfl
 | int _=>obtain ⟨t,rfl⟩:=r;rfl
 | str _=>obtain ⟨t,rfl⟩:=r;rfl
 | byt _=>obtain ⟨t,rfl⟩:=r;rfl
 | flt _=>obtain ⟨t,rfl⟩:=r;rfl
 | ref _=>cases r;rfl
 | ty _=>cases r;rfl
theorem RelV.inj {x y:V}{u:Value}(r:RelV x u) (q:RelV y u):x=y:=qoi (r.abs.symm.trans q.abs)
theorem Vals.inj:∀{xs ys:List V}{us:List Value},Vals xs us->Vals ys us->xs=ys
 | _,_,_,.nil,.nil=>rfl
 | _,_,_,.cons r t,.cons r' t'=>by rw [r.inj r',Vals.inj t t']
section
variable {X:Cx}{pins:List (Addr × Obj)}{σ:St}{H:Hp}{s:Shared}{a:Addr}{xs ys:List V}
theorem SqT.of {K:QFg}(h:H a=some (.tup xs)):SqT K H a xs:=.inl (.inl h)
theorem Inv.list (I:Inv X pins σ H s) (h:SqL X.K H a xs):∃its:List Value,Vals xs its/\PlainL s.heap a its.toArray/\xs.length<=sizeLine:=by
 rcases h with h|⟨o,its,n,hk,hc,hd,hs,hz,r⟩
 ·obtain ⟨z,its,n,r,e⟩:=h.ok I.hok
  exact ⟨its,r,⟨_,n,e,rfl,rfl,rfl⟩,z⟩
 ·refine ⟨its.toList,r,⟨o,n,I.kIn a o hk,hc,hd,by simpa using hs⟩,?_⟩
  have e:=r.length
  simp only [Array.length_toList] at e
  omega
theorem Inv.tuple (I:Inv X pins σ H s) (h:SqT X.K H a xs):∃its:List Value,Vals xs its/\IsTup s.heap a its.toArray/\xs.length<=sizeLine:=by
 rcases h with h|⟨o,its,n,hk,hc,hs,hz,r⟩
 ·obtain ⟨z,its,r,p⟩:=h.ok I.hok
  exact ⟨its,r,p.tup,z⟩
 ·refine ⟨its.toList,r,⟨o,I.kIn a o hk,hc,n,by simpa using hs⟩,?_⟩
  have e:=r.length
  simp only [Array.length_toList] at e
  omega
theorem Inv.list_inj (I:Inv X pins σ H s) (h:SqL X.K H a xs) (h':SqL X.K H a ys):xs=ys:=by
 obtain ⟨its,r,⟨o,n,e,_,_,d⟩,_⟩:=I.list h
 obtain ⟨its',r',⟨o',n',e',_,_,d'⟩,_⟩:=I.list h'
 rw [e] at e';cases e'
 rw [d] at d'
 injection d' with d1 _
 have:its=its':=by simpa using congrArg Array.toList d1
 subst this
 exact r.inj r'
theorem Inv.tuple_inj (I:Inv X pins σ H s) (h:SqT X.K H a xs) (h':SqT X.K H a ys):xs=ys:=by
 obtain ⟨its,r,⟨o,e,_,n,d⟩,_⟩:=I.tuple h
 obtain ⟨its',r',⟨o',e',_,n',d'⟩,_⟩:=I.tuple h'
 rw [e] at e';cases e'
 rw [d] at d'
 injection d' with d1 _
 have:its=its':=by simpa using congrArg Array.toList d1
 subst this
 exact r.inj r'
end
noncomputable abbrev Cx.wish (X:Cx) (E:Value->Shared->Prop):Cx:={ X with xe:=E }
noncomputable abbrev Cx.nox (X:Cx):Cx:=X.wish fun _ _=>False
theorem Cx.Ok.wish {X:Cx}(ok:X.Ok) (E:Value->Shared->Prop):(X.wish E).Ok :=
 ⟨ok.mod,ok.kind,ok.glob,ok.blt,ok.above,ok.inj,ok.has,ok.cab,ok.hd,ok.frames,ok.stk,ok.exf,ok.bs,ok.bsz,ok.noex,ok.exfs,ok.funs,ok.frf⟩
theorem Cx.Ok.unwish {X:Cx}{E:Value->Shared->Prop}(ok:(X.wish E).Ok):X.Ok :=
 ⟨ok.mod,ok.kind,ok.glob,ok.blt,ok.above,ok.inj,ok.has,ok.cab,ok.hd,ok.frames,ok.stk,ok.exf,ok.bs,ok.bsz,ok.noex,ok.exfs,ok.funs,ok.frf⟩
section
variable {X:Cx}{pins:List (Addr × Obj)}{σ:St}{H:Hp}{s:Shared}{E:Value->Shared->Prop}
theorem Inv.wish (I:Inv X pins σ H s) (E:Value->Shared->Prop):Inv (X.wish E) pins σ H s:=⟨I.ok.wish E,I.os,I.bare,I.base,I.loc,I.cell,I.free,I.freeC,I.pin,I.hok,I.len⟩
theorem Inv.unwish (I:Inv (X.wish E) pins σ H s):Inv X pins σ H s:=⟨I.ok.unwish,I.os,I.bare,I.base,I.loc,I.cell,I.free,I.freeC,I.pin,I.hok,I.len⟩
theorem SP.unwish {D:Ends}{f:Flow}{s':Shared}(h:SP (X.wish E) pins D f s'):SP X pins D f s':=by
 cases f with
 | next=>obtain ⟨σ',H',I,q⟩:=h;exact ⟨σ',H',I.unwish,q⟩
 | brk=>obtain ⟨σ',H',I,q⟩:=h;exact ⟨σ',H',I.unwish,q⟩
 | cont=>obtain ⟨σ',H',I,q⟩:=h;exact ⟨σ',H',I.unwish,q⟩
 | ret u=>obtain ⟨v,σ',H',I,r,q⟩:=h;exact ⟨v,σ',H',I.unwish,r,q⟩
theorem PSs.nox {st:List Stmt}{t:TS}(h:PSs X.nox st t):PSs X st t:=fun pins s σ H D I hw =>
 wpAny_mono (h pins s σ H D (I.wish _) hw) (fun _ _ q=>q.unwish) fun _ _ z=>False.elim z
end
section
variable {X:Cx}{st:Stmt}{rest:List Stmt}{t u:TS}{e:Expr}{te:TE}{pos:Pos}
noncomputable def zwo:TS:=fun D σ H=>D.nx σ H
noncomputable def zwp (t u:TS):TS:=fun D σ H=>t { D with nx:=u D } σ H
theorem zwq:PSs X [] zwo:=fun _ _ σ H _ I h=>wpAny_execs_nil ⟨σ,H,I,h⟩
theorem zwr (h1:PS X st t) (h2:PSs X rest u):PSs X (st :: rest) (zwp t u):=by
 intro pins s σ H D I h
 refine wpAny_execs_cons (thn (h1 pins s σ H { D with nx:=u D } I h) fun f s1 q=>?_)
 cases f with
 | next =>
  obtain ⟨σ',H',I',q⟩:=q
  exact h2 pins s1 σ' H' D I' q
 | ret v=>exact q
 | brk=>exact q
 | cont=>exact q
theorem zws (h1:PS X st t):PSs X [st] t:=by
 intro pins s σ H D I h
 refine wpAny_execs_cons (thn (h1 pins s σ H D I h) fun f s1 q=>?_)
 cases f with
 | next=>exact wpAny_execs_nil q
 | ret v=>exact q
 | brk=>exact q
 | cont=>exact q
noncomputable def zwt:TS:=fun D σ H=>D.bk σ H
theorem zwu:PS X (.Break pos) zwt:=fun _ _ σ H _ I h=>wpAny_Break ⟨σ,H,I,h⟩
theorem Inv.quiet {pins:List (Addr × Obj)}{σ:St}{H:Hp}{s:Shared}(I:Inv X pins σ H s):interactive X.env=false:=by simp [interactive,I.ok.kind]
noncomputable def zwv (te:TE):TS:=fun D σ H=>te σ H fun _ H1=>D.nx σ H1
theorem zww (he:PE X e te) (hs:swapsWith e none pos.line X.env=pure false:=by rfl):PS X (.Expr e pos) (zwv te):=by
 intro pins s σ H D I h
 exact wpAny_Expr_any (thn (he pins s σ H _ I h) fun v s1 ⟨x,H1,I1,r1,q1⟩=>⟨σ,H1,I1,q1⟩) I.quiet hs
noncomputable def zwx (te:TE):TS:=fun D σ H=>te σ H D.rt
theorem zwy (he:PE X e te):PS X (.Return (some e) pos) (zwx te):=by
 intro pins s σ H D I h
 exact wpAny_Return_some (thn (he pins s σ H _ I h) fun v s1 ⟨x,H1,I1,r1,q1⟩=>⟨x,σ,H1,I1,r1,q1⟩)
noncomputable def zwz (c:TT) (t u:TS):TS:=fun D σ H=>c σ H fun b H1=>if b=true then t D σ H1 else u D σ H1
theorem zw0 {c:Expr}{a b:List Stmt}{tc:TT}(hc:PT X c tc) (ha:PSs X a t) (hb:PSs X b u):PS X (.If c a b pos) (zwz tc t u):=by
 intro pins s σ H D I h
 refine wpAny_If (thn (hc pins s σ H _ I h) fun d s1 ⟨H1,I1,q1⟩=>?_)
 cases d with
 | true=>exact ha pins s1 σ H1 D I1 q1
 | false=>exact hb pins s1 σ H1 D I1 q1
noncomputable def zw1:TS:=fun _ _ _=>False
theorem zw2:PS X st zw1:=fun _ _ _ _ _ _ h=>h.elim
end
noncomputable abbrev TG:=V->St->Hp->(St->Hp->Prop)->Prop
noncomputable abbrev TGs:=List V->St->Hp->(St->Hp->Prop)->Prop
noncomputable def PG (X:Cx) (target:Expr) (t:TG):Prop :=
 ∀(pins:List (Addr × Obj)) (s:Shared) (σ:St) (H:Hp) (v:V) (u:Value) (Q:St->Hp->Prop),Inv X pins σ H s->RelV v u->t v σ H Q ->
  wpAny (model X.prog X.w) X.A (assign target X.env u) (fun _ s'=>∃σ' H',Inv X pins σ' H' s'/\Q σ' H') X.xe s
noncomputable def PGs (X:Cx) (ts:List Expr) (t:TGs):Prop :=
 ∀(pins:List (Addr × Obj)) (s:Shared) (σ:St) (H:Hp) (vs:List V) (us:List Value) (Q:St->Hp->Prop),Inv X pins σ H s->Vals vs us->t vs σ H Q ->
  wpAny (model X.prog X.w) X.A (assignInOrder ((assignEach ts X.env).map (·.2)) us) (fun _ s'=>∃σ' H',Inv X pins σ' H' s'/\Q σ' H') X.xe s
noncomputable abbrev TSet:=V->V->V->Hp->(Hp->Prop)->Prop
section
variable {X:Cx}{pos:Pos}
noncomputable def zly (i:Nat):TG:=fun v σ H Q=>Q (σ.set i (some v)) H
theorem zw3 {i:Nat}{x:Str}(hN:X.N.Nodup) (hi:X.N[i]? = some x) (hx:Loc X.env.scope x) (hf:X.fn x=true∨X.env.scope.names.lookup x=some .local:=by first|exact .inl rfl|exact .inr rfl|assumption):PG X (.Name x pos) (zly i):=by
 intro pins s σ H v u Q I r h
 exact wpAny_assign_Name (zoi I hN hi hx r (fun s' I'=>⟨_,H,I',h⟩) hf)
noncomputable def zw4:TGs:=fun vs σ H Q=>vs=[]/\Q σ H
noncomputable def zw5 (t:TG) (u:TGs):TGs:=fun vs σ H Q=>∃v r,vs=v :: r/\t v σ H fun σ' H'=>u r σ' H' Q
theorem zw6:PGs X [] zw4:=by
 intro pins s σ H vs us Q I r h
 obtain ⟨e,h⟩:=h
 subst e
 cases r
 exact assignInOrder_nil ⟨σ,H,I,h⟩
theorem zw7 {e:Expr}{es:List Expr}{t:TG}{u:TGs}(h1:PG X e t) (h2:PGs X es u)
  (hs:(assignEach (e :: es) X.env).map (·.2)=assign e X.env :: (assignEach es X.env).map (·.2):=by rfl):PGs X (e :: es) (zw5 t u):=by
 intro pins s σ H vs us Q I r h
 obtain ⟨v,vr,e1,h⟩:=h
 subst e1
 cases r with
 | cons r rr =>
  rw [hs]
  refine assignInOrder_cons (thn (h1 pins s σ H _ _ _ I r h) fun _ s1 ⟨σ1,H1,I1,q1⟩=>?_)
  exact h2 pins s1 σ1 H1 _ _ Q I1 rr q1
noncomputable def zw8 (K:QFg) (n:Nat) (t:TGs):TG:=fun v σ H Q=>∃a xs,v=.ref a/\SqT K H a xs/\xs.length=n/\t xs σ H Q
theorem zw9 {es:List Expr}{k:Nat}{t:TGs}{n:Nat}(hc:X.calm=true) (h:PGs X es t)
  (hn:(assignEach es X.env).length=n:=by rfl) (hst:(assignEach es X.env).findIdx? (·.1)=none:=by rfl):PG X (.Tuple es k pos) (zw8 X.K n t):=by
 intro pins s σ H v u Q I r hw
 obtain ⟨a,xs,e1,hq,hl,hw⟩:=hw
 subst e1
 cases r
 obtain ⟨its,rv,ht,hz⟩:=I.tuple hq
 refine assign_Tuple_tuple (I.ok.hd hc) ht (by simp [hn,←hl,rv.length]) hst fun h' hx=>?_
 have I1:Inv X pins σ H { s with heap:=h' }:=I.kept (t':=s.toks) fun b o e=>hx b o (Nat.ne_of_lt (Heap.lt_size e)) e
 exact h pins _ σ H xs _ Q I1 (by simpa using rv) hw
noncomputable def zlz (te:TE) (g:TG):TS:=fun D σ H=>te σ H fun x H1=>g x σ H1 D.nx
theorem zxa {tg e:Expr}{te:TE}{g:TG}(he:PE X e te) (hg:PG X tg g) (hs:swapsWithSole [tg] e pos.line X.env=pure false:=by rfl) (hw:swappedStores [tg] e X.env=pure none:=by rfl)
  (h1:(assignEach [tg] X.env).map (·.2)=[assign tg X.env]:=by rfl):PS X (.Assign [tg] e pos) (zlz te g):=by
 intro pins s σ H D I h
 refine wpAny_Assign_stores (thn (he pins s σ H _ I h) fun v s1 ⟨x,H1,I1,r1,q1⟩=>?_) hs hw
 rw [h1]
 exact thn (hg pins s1 σ H1 x v _ I1 r1 q1) fun _ s2 q=>q
theorem zxb {i:Nat}{x:Str}{e:Expr}{te:TE}{pos':Pos}(hN:X.N.Nodup) (hi:X.N[i]? = some x) (hx:Loc X.env.scope x) (he:PE X e te) (hs:swapsWith e (some (.Name x pos')) pos.line X.env=pure false:=by rfl) (hf:X.fn x=true∨X.env.scope.names.lookup x=some .local:=by first|exact .inl rfl|exact .inr rfl|assumption) :
  PS X (.Assign [.Name x pos'] e pos) (zlz te (zly i)):=by
 intro pins s σ H D I h
 refine wpAny_Assign_Name (thn (he pins s σ H _ I h) fun v s1 ⟨y,H1,I1,r1,q1⟩=>?_) hs
 exact zoi I1 hN hi hx r1 (fun s2 I2=>⟨_,H1,I2,q1⟩) hf
end
section
variable {X:Cx}{pos:Pos}
noncomputable def zxc (c:TT) (tb:TS):TS:=fun D σ H=>∃W:Nat->St->Hp->Prop,(∃m,W m σ H)/\∀m σ H,W m σ H ->
 c σ H fun b H1=>if b=true then ∃N:St->Hp->Prop,(∀σ' H',N σ' H'->∃m',m' < m/\W m' σ' H')/\tb { D with nx:=N,ct:=N,bk:=D.nx } σ H1 else D.nx σ H1
theorem zxd {c:Expr}{body:List Stmt}{tc:TT}{tb:TS}(hp:PassesOwn (model X.prog X.w) X.A X.env X.xe) (hc:PT X c tc) (hb:PSs X body tb):PS X (.While c body [] pos) (zxc tc tb):=by
 intro pins s σ H D I h
 obtain ⟨W,⟨m0,w0⟩,turn⟩:=h
 refine wpAny_While (codeAny_whileLoop (fun n s'=>∃σ' H',Inv X pins σ' H' s'/\W n σ' H') ?_ m0 ⟨σ,H,I,w0⟩)
 rintro n s1 ⟨σ1,H1,I1,w1⟩
 refine wpAny_passesOwn hp (thn (hc pins s1 σ1 H1 _ I1 (turn n σ1 H1 w1)) fun b s2 ⟨H2,I2,q2⟩=>?_)
 cases b with
 | true =>
  obtain ⟨N,hN,q2⟩:=q2
  rw [if_pos rfl]
  refine wpAny_passesOwn hp (thn (hb pins s2 σ1 H2 _ I2 q2) fun f s3 q3=>?_)
  cases f with
  | next =>
   obtain ⟨σ3,H3,I3,n3⟩:=q3
   obtain ⟨m',hm,w3⟩:=hN σ3 H3 n3
   exact ⟨m',hm,σ3,H3,I3,w3⟩
  | cont =>
   obtain ⟨σ3,H3,I3,n3⟩:=q3
   obtain ⟨m',hm,w3⟩:=hN σ3 H3 n3
   exact ⟨m',hm,σ3,H3,I3,w3⟩
  | brk=>exact q3
  | ret v=>exact q3
 | false =>
  rw [if_neg Bool.false_ne_true]
  exact wpAny_execs_nil ⟨σ1,H2,I2,q2⟩
end
structure It where
 go:Nat->Hp->Prop
 yld:Nat->Hp->V->Hp->Prop
 stop:Nat->Hp->Prop
noncomputable def zdm (X:Cx) (pins:List (Addr × Obj)) (H:Hp) (b:Addr):Prop :=
 H b=none/\b≠X.env.locals/\b ∉ X.fs/\(b∈X.ex∨X.s₀.heap.objs.size<=b)/\(∀x c,X.env.cells.lookup x=some c->c≠b)/\∀p∈X.pn++pins,p.1≠b
theorem Inv.fpOk {X:Cx}{pins:List (Addr × Obj)}{σ:St}{H H':Hp}{s:Shared}{b:Addr}(I:Inv X pins σ H s) (hb:s.heap.objs.size<=b) (hn:H' b=none):zdm X pins H' b:=by
 refine ⟨hn,Nat.ne_of_gt (Nat.lt_of_lt_of_le I.lt hb),I.nofs hb,.inr (Nat.le_trans I.sz hb),fun x c e z=>?_,fun p hp z=>?_⟩
 ·obtain ⟨v,q⟩:=I.cell x c e
  exact absurd (Nat.lt_of_lt_of_le q.lt (by rw [z];exact hb)) (Nat.lt_irrefl _)
 ·exact absurd (Nat.lt_of_lt_of_le (Heap.lt_size (I.pin p hp).1) (by rw [z];exact hb)) (Nat.lt_irrefl _)
structure Turn (P:Program) (w:World) (K:QFg) (tg:Expr) (J:It) (fp:List Addr) (it:Addr) (tn:Nat->Heap->Prop):Prop where
 mem:it∈fp
 obj:∀i h,tn i h->∀b∈fp,∃o,h.get? b=some o/\∀v,o.data≠.cell v
 keep:∀i h h',tn i h->(∀b∈fp,∀o,h.get? b=some o->h'.get? b=some o)->tn i h'
 item:∀(X:Cx),X.prog=P->X.w=w->X.K=K->X.calm=true->∀(i:Nat) (pins:List (Addr × Obj)) (s:Shared) (σ:St) (H:Hp) (E:Value->Shared->Prop),Inv X pins σ H s->(∀b∈fp,zdm X pins H b)->tn i s.heap->J.go i H ->
  wpAny (model P w) X.A (pyNext (.ref it)) (fun r s1=>∃u,r=some u /\
   wpAny (model P w) X.A (letOwnedTupleGo tg (.ref it) u) (fun _ s2=>∃x H',Inv X pins σ H' s2/\RelV x u/\J.yld i H x H'/\tn (i+1) s2.heap/\∀b∈fp,H' b=none) E s1) E s
 done:∀(X:Cx),X.prog=P->X.w=w->X.K=K->X.calm=true->∀(i:Nat) (pins:List (Addr × Obj)) (s:Shared) (σ:St) (H:Hp) (E:Value->Shared->Prop),Inv X pins σ H s->(∀b∈fp,zdm X pins H b)->tn i s.heap->J.stop i H ->
  wpAny (model P w) X.A (pyNext (.ref it)) (fun r s1=>r=none/\Inv X pins σ H s1) E s
 self:∀(A:Around) (i:Nat) (s:Shared) (Q:Value->Shared->Prop) (E:Value->Shared->Prop),tn i s.heap->Q (.ref it) s->wpAny (model P w) A (pyIter (.ref it)) Q E s
noncomputable abbrev TI:=St->Hp->(It->Hp->Prop)->Prop
noncomputable def PIE (X:Cx) (pins:List (Addr × Obj)) (σ:St) (tg:Expr) (R:It->Hp->Prop) (itv:Value) (s2:Shared):Prop :=
 ∃(it:Addr) (fp:List Addr) (tn:Nat->Heap->Prop) (J:It) (H':Hp),itv=.ref it/\Inv X pins σ H' s2/\Turn X.prog X.w X.K tg J fp it tn/\tn 0 s2.heap/\(∀b∈fp,zdm X pins H' b)/\R J H'
noncomputable def PI (X:Cx) (tg iter:Expr) (wi:TI):Prop :=
 ∀(pins:List (Addr × Obj)) (s:Shared) (σ:St) (H:Hp) (R:It->Hp->Prop),Inv X pins σ H s->wi σ H R ->
  wpAny (model X.prog X.w) X.A (eval iter X.env) (fun v s1=>wpAny (model X.prog X.w) X.A (pyIter v) (PIE X pins σ tg R) X.xe s1) X.xe s
theorem zl0 {M:Model}{A:Around}{E:Value->Shared->Prop}{s:Shared}{tg:Expr}{it:Addr}{u:Value}{o:Obj}{n:String}{vs:Array Value}{Q:Unit->Shared->Prop}(ho:s.heap.get? it=some o) (hc:o.cls=.type n) (hd:o.data=.fields vs)
  (hn:["enumerate","zip","dict_itemiterator","dict_reverseitemiterator","odict_iterator","itertools.zip_longest","itertools.pairwise"].contains n=false) (hQ:Q () s):wpAny M A (letOwnedTupleGo tg (.ref it) u) Q E s:=by
 unfold letOwnedTupleGo
 cases tg <;> first
  | exact wpAny_pure hQ
  | (cases u <;> first
    | exact wpAny_pure hQ
    | (refine wpAny_bind (wpAny_load ho ?_)
       rw [hc,hd]
       show wpAny M A (if (["enumerate","zip","dict_itemiterator","dict_reverseitemiterator","odict_iterator","itertools.zip_longest","itertools.pairwise"].contains n && vs[0]? == some (rawInt _))=true then _ else _) Q E s
       rw [if_neg (by intro h;rw [hn,Bool.false_and] at h;cases h)]
       exact wpAny_pure hQ))
noncomputable def Itl (K:QFg) (a:Addr):It :=
 ⟨fun i H=>∃xs x,SqL K H a xs/\xs[i]? = some x,fun i H x H'=>H' = H/\∀xs,SqL K H a xs->xs[i]? = some x,fun i H=>∃xs,SqL K H a xs/\xs.length<=i⟩
noncomputable def Itt (K:QFg) (a:Addr):It :=
 ⟨fun i H=>∃xs x,SqT K H a xs/\xs[i]? = some x,fun i H x H'=>H' = H/\∀xs,SqT K H a xs->xs[i]? = some x,fun i H=>∃xs,SqT K H a xs/\xs.length<=i⟩
noncomputable def Itr (lo:Int) (n:Nat):It:=⟨fun i _=>i<n,fun i H x H'=>H' = H/\x=.int (lo+i),fun i _=>n<=i⟩
theorem zxe {P:Program}{w:World}{K:QFg}{tg:Expr}(a it:Addr):Turn P w K tg (Itl K a) [it] it (fun i h=>h.IsListIter it a i) where
 mem:=by simp
 obj:=fun i h st b hb=>by
  have e:b=it:=by simpa using hb
  subst e
  obtain ⟨o,e,c,d⟩:=st
  exact ⟨o,e,fun v z=>by rw [d] at z;cases z⟩
 keep:=fun i h h' st k=>st.at fun o e=>k it (by simp) o e
 item:=by
  intro X hP hw hK hc i pins s σ H E I hf st hg
  subst hP hw hK
  obtain ⟨xs,x,hq,hx⟩:=hg
  obtain ⟨its,rv,p,hz⟩:=I.list hq
  obtain ⟨u,hu,ru⟩:=rv.get hx
  obtain ⟨f0,f1,f2,f3,f4,f5⟩:=hf it (by simp)
  refine wpAny_pyNext_list_item st p.isList (x:=u) (by simpa using hu) fun h' st' sb=>?_
  have I1:Inv X pins σ H { s with heap:=h' }:=I.turned (t':=s.toks) (fun b o hb e=>(sb.2 b hb).trans e) f0 f1 f3 f4 f5
  obtain ⟨o,e,c,d⟩:=id st'
  exact ⟨u,rfl,zl0 (s:={ s with heap:=h' }) e c d (by decide) ⟨x,H,I1,ru,⟨rfl,fun ys hy=>by rw [I.list_inj hy hq];exact hx⟩,st',fun b hb=>(hf b hb).1⟩⟩
 done:=by
  intro X hP hw hK hc i pins s σ H E I hf st hg
  subst hP hw hK
  obtain ⟨xs,hq,hx⟩:=hg
  obtain ⟨its,rv,p,hz⟩:=I.list hq
  obtain ⟨f0,f1,f2,f3,f4,f5⟩:=hf it (by simp)
  have hl:=rv.length
  exact wpAny_pyNext_list_end (I.ok.hd hc) st p.isList (by simp;omega) fun h' eb=>⟨rfl,I.turned (t':=s.toks) (fun b o hb e=>eb b o hb e) f0 f1 f3 f4 f5⟩
 self:=fun _ _ _ _ _ st h=>wpAny_pyIter_listiter st h
theorem zxf {P:Program}{w:World}{K:QFg}{tg:Expr}(a it:Addr):Turn P w K tg (Itt K a) [it] it (fun i h=>h.IsTupleIter it a i) where
 mem:=by simp
 obj:=fun i h st b hb=>by
  have e:b=it:=by simpa using hb
  subst e
  obtain ⟨o,e,c,d⟩:=st
  exact ⟨o,e,fun v z=>by rw [d] at z;cases z⟩
 keep:=fun i h h' st k=>st.at fun o e=>k it (by simp) o e
 item:=by
  intro X hP hw hK hc i pins s σ H E I hf st hg
  subst hP hw hK
  obtain ⟨xs,x,hq,hx⟩:=hg
  obtain ⟨its,rv,p,hz⟩:=I.tuple hq
  obtain ⟨u,hu,ru⟩:=rv.get hx
  obtain ⟨f0,f1,f2,f3,f4,f5⟩:=hf it (by simp)
  refine wpAny_pyNext_tuple_item st (show s.heap.IsTuple a its.toArray from p) (x:=u) (by simpa using hu) fun h' st' sb=>?_
  have I1:Inv X pins σ H { s with heap:=h' }:=I.turned (t':=s.toks) (fun b o hb e=>(sb.2 b hb).trans e) f0 f1 f3 f4 f5
  obtain ⟨o,e,c,d⟩:=id st'
  exact ⟨u,rfl,zl0 (s:={ s with heap:=h' }) e c d (by decide) ⟨x,H,I1,ru,⟨rfl,fun ys hy=>by rw [I.tuple_inj hy hq];exact hx⟩,st',fun b hb=>(hf b hb).1⟩⟩
 done:=by
  intro X hP hw hK hc i pins s σ H E I hf st hg
  subst hP hw hK
  obtain ⟨xs,hq,hx⟩:=hg
  obtain ⟨its,rv,p,hz⟩:=I.tuple hq
  obtain ⟨f0,f1,f2,f3,f4,f5⟩:=hf it (by simp)
  have hl:=rv.length
  exact wpAny_pyNext_tuple_end (I.ok.hd hc) st (show s.heap.IsTuple a its.toArray from p) (by simp;omega) fun h' eb=>⟨rfl,I.turned (t':=s.toks) (fun b o hb e=>eb b o hb e) f0 f1 f3 f4 f5⟩
 self:=fun _ _ _ _ _ st h=>wpAny_pyIter_tupleiter st h
theorem zxg {P:Program}{w:World}{K:QFg}{tg:Expr}(it:Addr) (lo:Int) (n:Nat):Turn P w K tg (Itr lo n) [it] it (fun i h=>IsRangeIter h it (lo+(i:Nat)*1) ((n:Int)-(i:Nat)) 1) where
 mem:=by simp
 obj:=fun i h st b hb=>by
  have e:b=it:=by simpa using hb
  subst e
  exact ⟨_,st,fun v z=>by
   have z':Data.fields _=Data.cell v:=z
   cases z'⟩
 keep:=fun i h h' st k=>k it (by simp) _ st
 item:=by
  intro X hP hw hK hc i pins s σ H E I hf st hg
  subst hP hw hK
  obtain ⟨f0,f1,f2,f3,f4,f5⟩:=hf it (by simp)
  have W:=Walks.range (prog:=X.prog) (w:=X.w) (I.ok.hd hc) it lo 1 n
  refine W.item i s _ _ hg st fun v h' tk hv st' kk=>?_
  obtain ⟨t,rfl⟩:=hv
  have I1:Inv X pins σ H { s with heap:=h',toks:=tk }:=I.turned (fun b o hb e=>kk b o (by simpa using hb) e) f0 f1 f3 f4 f5
  refine ⟨_,rfl,zl0 (s:={ s with heap:=h',toks:=tk }) (n:="range_iterator") st' rfl rfl (by decide) ⟨.int (lo+i),H,I1,⟨t,?_⟩,⟨rfl,rfl⟩,st',fun b hb=>(hf b hb).1⟩⟩
  rw [Int.mul_one]
 done:=by
  intro X hP hw hK hc i pins s σ H E I hf st hg
  subst hP hw hK
  obtain ⟨f0,f1,f2,f3,f4,f5⟩:=hf it (by simp)
  exact wpAny_pyNext_range_end (I.ok.hd hc) st (by have:n<=i:=hg;omega) fun h' eb=>⟨rfl,I.turned (t':=s.toks) (fun b o hb e=>eb b o hb e) f0 f1 f3 f4 f5⟩
 self:=fun _ _ _ _ _ st h=>wpAny_pyIter_rangeiter st h
section
variable {X:Cx}{tg:Expr}
noncomputable def zxh (K:QFg) (tl:TE):TI:=fun σ H R=>tl σ H fun x H1=>∃a,x=.ref a/\(∃xs,SqL K H1 a xs)/\R (Itl K a) H1
noncomputable def zxi (K:QFg) (tl:TE):TI:=fun σ H R=>tl σ H fun x H1=>∃a,x=.ref a/\(∃xs,SqT K H1 a xs)/\R (Itt K a) H1
theorem zol {l:Expr}{tl:TE}(hl:PE X l tl):PI X tg l (zxh X.K tl):=by
 intro pins s σ H R I h
 refine thn (hl pins s σ H _ I h) fun v s1 ⟨x,H1,I1,r1,q1⟩=>?_
 obtain ⟨a,e,⟨xs,hq⟩,q⟩:=q1
 subst e
 cases r1
 obtain ⟨its,rv,p,hz⟩:=I1.list hq
 refine wpAny_pyIter_list p.isList ?_
 refine ⟨s1.heap.objs.size,[s1.heap.objs.size],_,_,H1,rfl,I1.kept (t':=s1.toks) fun b o e=>qps _ e,zxe a _,⟨_,Heap.get?_push_size _ rfl,rfl,rfl⟩,fun b hb=>?_,q⟩
 have e:b=s1.heap.objs.size:=by simpa using hb
 subst e
 exact I1.fpOk (qlr _) (I1.hok.fresh (qlr _))
theorem zl1 {l:Expr}{tl:TE}(hl:PE X l tl):PI X tg l (zxi X.K tl):=by
 intro pins s σ H R I h
 refine thn (hl pins s σ H _ I h) fun v s1 ⟨x,H1,I1,r1,q1⟩=>?_
 obtain ⟨a,e,⟨xs,hq⟩,q⟩:=q1
 subst e
 cases r1
 obtain ⟨its,rv,p,hz⟩:=I1.tuple hq
 refine wpAny_pyIter_tuple (show s1.heap.IsTuple a its.toArray from p) ?_
 refine ⟨s1.heap.objs.size,[s1.heap.objs.size],_,_,H1,rfl,I1.kept (t':=s1.toks) fun b o e=>qps _ e,zxf a _,⟨_,Heap.get?_push_size _ rfl,rfl,rfl⟩,fun b hb=>?_,q⟩
 have e:b=s1.heap.objs.size:=by simpa using hb
 subst e
 exact I1.fpOk (qlr _) (I1.hok.fresh (qlr _))
theorem zxj {pins:List (Addr × Obj)}{σ:St}{H:Hp}{s:Shared}{R:It->Hp->Prop}{E:Value->Shared->Prop}{lo hi:Int}{t u v:Tok}{tk:Nat}(I:Inv X pins σ H s) (h1:-(2 ^ 62)<=lo) (h2:lo<2 ^ 62) (h3:-(2 ^ 62)<=hi) (h4:hi<2 ^ 62)
  (q:R (Itr lo (hi-lo).toNat) H):wpAny (model X.prog X.w) X.A (pyIter (.ref s.heap.objs.size)) (PIE X pins σ tg R) E { s with heap:=s.heap.push { cls:=.type "range",data:=.fields #[.int lo t,.int hi u,.int 1 v] },toks:=tk }:=by
 refine wpAny_pyIter_range (IsRange.new ..) (small_one h1 h2 h3 h4) ?_
 have I1:Inv X pins σ H { s with heap:=s.heap.push { cls:=.type "range",data:=.fields #[.int lo t,.int hi u,.int 1 v] },toks:=tk }:=I.kept fun b o e=>qps _ e
 refine ⟨(s.heap.push { cls:=.type "range",data:=.fields #[.int lo t,.int hi u,.int 1 v] }).objs.size,[(s.heap.push { cls:=.type "range",data:=.fields #[.int lo t,.int hi u,.int 1 v] }).objs.size],_,_,H,rfl,
  I1.kept (t':=tk) fun b o e=>qps _ e,zxg _ lo (hi-lo).toNat,?_,fun b hb=>?_,q⟩
 ·have e1:lo+((0:Nat):Int)*1=lo:=by simp
  have e2:(((hi-lo).toNat:Nat):Int)-((0:Nat):Int)=Builtin.Range.rangeSize lo hi 1:=by rw [rangeSize_one];split <;> omega
  show IsRangeIter _ _ (lo+((0:Nat):Int)*1) ((((hi-lo).toNat:Nat):Int)-((0:Nat):Int)) 1
  rw [e1,e2]
  exact Heap.get?_push_size _ rfl
 ·have e:b=(s.heap.push { cls:=.type "range",data:=.fields #[.int lo t,.int hi u,.int 1 v] }).objs.size:=by simpa using hb
  subst e
  exact I1.fpOk (qlr _) (I1.hok.fresh (qlr _))
noncomputable def zxk (ta:TA):TI:=fun σ H R=>ta σ H fun vs H1=>∃j:Int,vs=[.int j]/\-(2 ^ 62)<=j/\j<2 ^ 62/\R (Itr 0 j.toNat) H1
theorem zom {a:Expr}{ta:TA}{p pos:Pos}(hg:Gl X "range") (hm:X.mg "range" = none) (ha:PA X [a] ta) (hs:starEach [a] X.env=[(false,eval a X.env)]:=by rfl):PI X tg (.Call (.Name "range" p) [a] [] pos) (zxk ta):=by
 intro pins s σ H R I h
 refine Call_ (zga I hg hm boot_range (PyProof.Rows.callWith_type1 (thn (ha pos pins s σ H _ I h) fun us s1 ⟨vs,H1,I1,r1,q1⟩=>?_) hs rfl))
 obtain ⟨j,e,q1,q2,q⟩:=q1
 subst e
 cases r1 with
 | cons r rr =>
  cases rr
  obtain ⟨t,rfl⟩:=r
  exact call_range_1 (zxj I1 (by omega) (by omega) q1 q2 (by simpa using q))
noncomputable def zxl (wi:TI) (g:TG) (tb:TS):TS:=fun D σ H=>wi σ H fun J H1=>∃W:Nat->Nat->St->Hp->Prop,(∃m,W 0 m σ H1)/\∀i m σ H,W i m σ H ->
 (J.stop i H/\D.nx σ H)∨(J.go i H/\∃N:St->Hp->Prop,(∀σ' H',N σ' H'->∃m',m' < m/\W (i+1) m' σ' H')/\∀x H',J.yld i H x H'->g x σ H' fun σ2 H2=>tb { D with nx:=N,ct:=N,bk:=D.nx } σ2 H2)
noncomputable def zet (fp:List Addr) (h:Heap):List (Addr × Obj):=fp.filterMap fun b=>(h.get? b).map fun o=>(b,o)
theorem zgb {fp:List Addr}{h:Heap}{b:Addr}{o:Obj}(hb:b∈fp) (e:h.get? b=some o):(b,o)∈zet fp h:=List.mem_filterMap.mpr ⟨b,hb,by rw [e];rfl⟩
theorem zxm {fp:List Addr}{h:Heap}{p:Addr × Obj}(hp:p∈zet fp h):p.1∈fp/\h.get? p.1=some p.2:=by
 obtain ⟨b,hb,e⟩:=List.mem_filterMap.mp hp
 cases q:h.get? b with
 | none=>rw [q] at e;cases e
 | some o =>
  rw [q] at e
  have e':(b,o)=p:=qoi e
  subst e'
  exact ⟨hb,q⟩
theorem Inv.pinned {pins:List (Addr × Obj)}{σ:St}{H:Hp}{s:Shared}{fp:List Addr}(I:Inv X pins σ H s) (hf:∀b∈fp,zdm X pins H b) (ho:∀b∈fp,∃o,s.heap.get? b=some o/\∀v,o.data≠.cell v):Inv X (pins++zet fp s.heap) σ H s :=
 I.pins_of fun p hp=>(List.mem_append.mp hp).elim (fun z=>I.pin p (List.mem_append_right _ z)) fun z=>by
  obtain ⟨hb,e⟩:=zxm z
  obtain ⟨f0,f1,f2,_⟩:=hf p.1 hb
  obtain ⟨o,e',d⟩:=ho p.1 hb
  rw [e] at e';cases e'
  exact ⟨e,f0,f1,f2,d⟩
theorem Inv.unpinned {pins pl:List (Addr × Obj)}{σ:St}{H:Hp}{s:Shared}(I:Inv X (pins++pl) σ H s):Inv X pins σ H s:=I.pins_of fun p hp=>I.pin p (List.mem_append_right _ (List.mem_append_left _ hp))
theorem zl2 {iter:Expr}{body:List Stmt}{wi:TI}{g:TG}{tb:TS}{pos:Pos}(hp:PassesOwn (model X.prog X.w) X.A X.env X.xe) (hc:X.calm=true) (hi:PI X tg iter wi) (hg:PG X tg g) (hb:PSs X body tb)
  (hs:∀x,foldedSetIterable iter X.env x=pure x:=by intro _;rfl):PS X (.For tg iter body [] pos) (zxl wi g tb):=by
 intro pins s σ H D I h
 refine wpAny_For (thn (hi pins s σ H _ I h) fun v s1 h1=>thn h1 fun itv s2 h2=>?_) hs
 obtain ⟨it,fp,tn,J,H2,e,I2,T,st2,f2,W,⟨m0,w0⟩,turn⟩:=h2
 subst e
 have stat:∀{H':Hp},(∀b∈fp,H' b=none)->∀b∈fp,zdm X pins H' b:=fun hn b hb=>⟨hn b hb,(f2 b hb).2⟩
 refine codeAny_forLoop_any (fun n s'=>∃i σ' H',Inv X pins σ' H' s'/\tn i s'.heap/\(∀b∈fp,H' b=none)/\W i n σ' H') ?_ m0 ⟨0,σ,H2,I2,st2,fun b hb=>(f2 b hb).1,w0⟩
 rintro n s3 ⟨i,σ3,H3,I3,st3,fr3,w3⟩
 rcases turn i n σ3 H3 w3 with ⟨stop,qn⟩|⟨go,N,hN,step⟩
 ·refine wpAny_passesOwn hp (thn (T.done X rfl rfl rfl hc i pins s3 σ3 H3 X.xe I3 (stat fr3) st3 stop) fun r s4 ⟨hr,I4⟩=>?_)
  subst hr
  exact wpAny_execs_nil ⟨σ3,H3,I4,qn⟩
 ·refine wpAny_passesOwn hp (thn (T.item X rfl rfl rfl hc i pins s3 σ3 H3 X.xe I3 (stat fr3) st3 go) fun r s4 ⟨u,hr,h4⟩=>?_)
  subst hr
  refine wpAny_passesOwn hp (thn h4 fun _ s5 ⟨x,H5,I5,r5,y5,st5,fr5⟩=>?_)
  have I5':=I5.pinned (stat fr5) (T.obj _ _ st5)
  refine wpAny_passesOwn hp (thn (hg _ s5 σ3 H5 x u _ I5' r5 (step x H5 y5)) fun _ s6 ⟨σ6,H6,I6,q6⟩=>?_)
  refine wpAny_passesOwn hp (thn (hb _ s6 σ6 H6 _ I6 q6) fun f s7 q7=>?_)
  have again:∀{σ7:St} {H7:Hp},Inv X (pins++zet fp s5.heap) σ7 H7 s7->N σ7 H7->∃m,m<n/\∃i σ' H',Inv X pins σ' H' s7/\tn i s7.heap/\(∀b∈fp,H' b=none)/\W i m σ' H':=fun {σ7 H7} I7 n7=>by
   obtain ⟨m',hm,w7⟩:=hN σ7 H7 n7
   refine ⟨m',hm,i+1,σ7,H7,I7.unpinned,T.keep _ _ _ st5 fun b hb o e=>(I7.pin (b,o) (List.mem_append_right _ (List.mem_append_right _ (zgb hb e)))).1,fun b hb=>?_,w7⟩
   obtain ⟨o,e,d⟩:=T.obj _ _ st5 b hb
   exact (I7.pin (b,o) (List.mem_append_right _ (List.mem_append_right _ (zgb hb e)))).2.1
  cases f with
  | next=>obtain ⟨σ7,H7,I7,n7⟩:=q7;exact again I7 n7
  | cont=>obtain ⟨σ7,H7,I7,n7⟩:=q7;exact again I7 n7
  | brk=>obtain ⟨σ7,H7,I7,q7⟩:=q7;exact ⟨σ7,H7,I7.unpinned,q7⟩
  | ret v=>obtain ⟨x7,σ7,H7,I7,r7,q7⟩:=q7;exact ⟨x7,σ7,H7,I7.unpinned,r7,q7⟩
end
noncomputable abbrev R2:=V->V->Hp->VK->Prop
noncomputable def OpR (X:Cx) (f:Value->Value->Sem Value) (r:R2):Prop :=
 ∀(pins:List (Addr × Obj)) (s:Shared) (σ:St) (H:Hp) (x y:V) (v u:Value) (Q:VK),Inv X pins σ H s->RelV x v->RelV y u->r x y H Q ->
  wpAny (model X.prog X.w) X.A (f v u) (EP X pins σ Q) X.xe s
noncomputable def CallR (X:Cx) (f:Value) (r:List V->Hp->VK->Prop):Prop :=
 ∀(pins:List (Addr × Obj)) (s:Shared) (σ:St) (H:Hp) (xs:List V) (us:List Value) (Q:VK),Inv X pins σ H s->Vals xs us->r xs H Q ->
  wpAny (model X.prog X.w) X.A (call f us) (EP X pins σ Q) X.xe s
noncomputable def tOp (r:R2) (ta tb:TE):TE:=fun σ H Q=>ta σ H fun x H1=>tb σ H1 fun y H2=>r x y H2 Q
noncomputable def rI (C:Int->Int->Prop) (g:Int->Int->V):R2:=fun x y H Q=>∃i j,x=.int i/\y=.int j/\C i j/\Q (g i j) H
noncomputable def rI0 (g:Int->Int->V):R2:=fun x y H Q=>∃i j,x=.int i/\y=.int j/\Q (g i j) H
section
variable {X:Cx}{a b c:Expr}{ta tb tc:TE}{pos:Pos}
theorem zl3 (ha:PE X a ta) (hb:PE X b tb) {pins:List (Addr × Obj)}{s:Shared}{σ:St}{H:Hp}{R:V->V->Hp->Prop}(I:Inv X pins σ H s)
  (h:ta σ H fun x H1=>tb σ H1 fun y H2=>R x y H2) {Q:Value->Shared->Prop} {f:Value->Value->Sem Value}
  (hf:∀v u s2 x y H2,Inv X pins σ H2 s2->RelV x v->RelV y u->R x y H2->wpAny (model X.prog X.w) X.A (f v u) Q X.xe s2) :
  wpAny (model X.prog X.w) X.A (eval a X.env) (fun v s₁=>wpAny (model X.prog X.w) X.A (eval b X.env) (fun u s₂=>wpAny (model X.prog X.w) X.A (f v u) Q X.xe s₂) X.xe s₁) X.xe s:=by
 refine thn (ha pins s σ H _ I h) fun v s1 ⟨x,H1,I1,r1,q1⟩=>?_
 refine thn (hb pins s1 σ H1 _ I1 q1) fun u s2 ⟨y,H2,I2,r2,q2⟩=>?_
 exact hf v u s2 x y H2 I2 r1 r2 q2
theorem zxn {op:Operator}{r:R2}(ho:OpR X (binaryOp op) r) (ha:PE X a ta) (hb:PE X b tb):PE X (.BinOp a op b pos) (tOp r ta tb):=by
 intro pins s σ H Q I h
 exact wpAny_BinOp (zl3 ha hb I h fun v u s2 x y H2 I2 rx ry q=>ho pins s2 σ H2 x y v u Q I2 rx ry q)
theorem opI {f:Value->Value->Sem Value}{C:Int->Int->Prop}{g:Int->Int->Int}
  (rule:∀(i j:Int) (t u:Tok) (s:Shared) (Q:Value->Shared->Prop) (E:Value->Shared->Prop),C i j->Q (.int (g i j) s.toks) { s with toks:=s.toks+1 }->wpAny (model X.prog X.w) X.A (f (.int i t) (.int j u)) Q E s) :
  OpR X f (rI C fun i j=>.int (g i j)):=by
 intro pins s σ H x y v u Q I rx ry h
 obtain ⟨i,j,rfl,rfl,hc,q⟩:=h
 obtain ⟨t,rfl⟩:=rx
 obtain ⟨t',rfl⟩:=ry
 exact rule i j t t' s _ _ hc ⟨.int (g i j),H,I.tok _,⟨_,rfl⟩,q⟩
theorem zl4 {f:Value->Value->Sem Value}{g:Int->Int->Int}
  (rule:∀(i j:Int) (t u:Tok) (s:Shared) (Q:Value->Shared->Prop) (E:Value->Shared->Prop),Q (.int (g i j) s.toks) { s with toks:=s.toks+1 }->wpAny (model X.prog X.w) X.A (f (.int i t) (.int j u)) Q E s) :
  OpR X f (rI0 fun i j=>.int (g i j)):=by
 intro pins s σ H x y v u Q I rx ry h
 obtain ⟨i,j,rfl,rfl,q⟩:=h
 obtain ⟨t,rfl⟩:=rx
 obtain ⟨t',rfl⟩:=ry
 exact rule i j t t' s _ _ ⟨.int (g i j),H,I.tok _,⟨_,rfl⟩,q⟩
theorem zki {f:Value->Value->Sem Value}{g:Int->Int->Bool}
  (rule:∀(i j:Int) (t u:Tok) (s:Shared) (Q:Value->Shared->Prop) (E:Value->Shared->Prop),Q (.bool (g i j)) s->wpAny (model X.prog X.w) X.A (f (.int i t) (.int j u)) Q E s) :
  OpR X f (rI0 fun i j=>.bl (g i j)):=by
 intro pins s σ H x y v u Q I rx ry h
 obtain ⟨i,j,rfl,rfl,q⟩:=h
 obtain ⟨t,rfl⟩:=rx
 obtain ⟨t',rfl⟩:=ry
 exact rule i j t t' s _ _ ⟨.bl (g i j),H,I,rfl,q⟩
noncomputable def zkj (i j:Int):Prop:=0<j/\j<1073741824
noncomputable def zhq (i j:Int):Prop:=0<=j/\j<=1000000/\i.natAbs<2 ^ 64
noncomputable def CMul (i j:Int):Prop:=(-(2 ^ 64)<i/\i<2 ^ 64)∨(-(2 ^ 64)<j/\j<2 ^ 64)
theorem CMul.ok {i j:Int}(h:CMul i j):IntMulOk i j:=by
 rcases h with ⟨h1,h2⟩|⟨h1,h2⟩
 ·exact .of_left (intBits_le_64 h1 h2)
 ·exact .of_right (intBits_le_64 h1 h2)
theorem zxo (k:Nat):(0:Int)<=2 ^ k:=by
 rw [two_pow_cast]
 exact Int.natCast_nonneg _
theorem op_add:OpR X (binaryOp .Add) (rI0 fun i j=>.int (i+j)):=zl4 fun _ _ _ _ _ _ _ q=>add_int q
theorem zxp:OpR X (binaryOp .Sub) (rI0 fun i j=>.int (i-j)):=zl4 fun _ _ _ _ _ _ _ q=>sub_int q
theorem op_mul:OpR X (binaryOp .Mult) (rI CMul fun i j=>.int (i*j)):=opI fun _ _ _ _ _ _ _ hc q=>mul_int q hc.ok
theorem zxq:OpR X (binaryOp .FloorDiv) (rI zkj fun i j=>.int (i / j)):=opI fun i j _ _ _ _ _ hc q=>by
 have h1:(0:Int)<j:=hc.1
 have h2:j<1073741824:=hc.2
 exact floordiv_int (by omega) (by rw [Int.fdiv_eq_ediv_of_nonneg i (by omega)];exact q) (.inl (PyProof.noPylong_small (by omega)))
theorem zxr:OpR X (binaryOp .Mod) (rI (fun _ j=>0<j) fun i j=>.int (i % j)):=opI fun i j _ _ _ _ _ hc q=>by
 have h1:(0:Int)<j:=hc
 exact mod_int' (by omega) (by rw [Int.fmod_eq_emod_of_nonneg i (by omega)];exact q)
theorem zxs:OpR X (binaryOp .Pow) (rI zhq fun i j=>.int (i ^ j.toNat)):=opI fun _ _ _ _ _ _ _ hc q=>pow_int_small hc.1 hc.2.1 hc.2.2 q
theorem zxt:OpR X (binaryOp .LShift) (rI zhq fun i j=>.int (i*2 ^ j.toNat)):=opI fun _ _ _ _ _ _ _ hc q=>lshift_int_small hc.1 hc.2.1 hc.2.2 q
theorem zxu:OpR X (binaryOp .RShift) (rI (fun _ j=>0<=j) fun i j=>.int (i / 2 ^ j.toNat)):=opI fun i j _ _ _ _ _ hc q =>
 rshift_int hc (by rw [Int.fdiv_eq_ediv_of_nonneg i (zxo _)];exact q)
theorem zxv:OpR X (binaryOp .BitAnd) (rI0 fun i j=>.int (Builtin.bitAnd i j)):=zl4 fun _ _ _ _ _ _ _ q=>and_int q
end
noncomputable def zl5:V->V->Bool
 | .non,.non=>true | .non,.int _=>true | .int _,.non=>true | .non,.bl _=>true | .bl _,.non=>true | .non,.str _=>true | .str _,.non=>true
 | .int _,.int _=>true | .bl _,.bl _=>true | .str _,.str _=>true | .byt _,.byt _=>true
 | .int _,.str _=>true | .str _,.int _=>true | .bl _,.str _=>true | .str _,.bl _=>true
 | _,_=>false
noncomputable def rEq:R2:=fun x y H Q=>zl5 x y=true/\Q (.bl (decide (x=y))) H
noncomputable def rNe:R2:=fun x y H Q=>zl5 x y=true/\Q (.bl (!decide (x=y))) H
theorem zon {i j:Int}:decide (V.int i=V.int j)=(i == j):=by
 rw [Bool.eq_iff_iff]
 simp
theorem zoo {i j:Bool}:decide (V.bl i=V.bl j)=(i == j):=by
 rw [Bool.eq_iff_iff]
 simp
theorem zop {i j:Str}:decide (V.str i=V.str j)=(i == j):=by
 rw [Bool.eq_iff_iff]
 simp
theorem zoq {i j:Array UInt8}:decide (V.byt i=V.byt j)=(i.toList == j.toList):=by
 rw [Bool.eq_iff_iff]
 cases i
 cases j
 simp
section
variable {X:Cx}{a b c:Expr}{ta tb tc:TE}{pos:Pos}
theorem zb2 {pins:List (Addr × Obj)}{σ:St}{H:Hp}{s:Shared}{Q:VK}{k k':Bool}(I:Inv X pins σ H s) (q:Q (.bl k) H) (e:k=k'):EP X pins σ Q (.bool k') s:=by
 subst e
 exact ⟨.bl k,H,I,rfl,q⟩
theorem zor:OpR X (compareOp .Eq) rEq:=by
 intro pins s σ H x y v u Q I rx ry h
 obtain ⟨hs,q⟩:=h
 cases x with
 | non =>
  cases rx
  cases y with
  | non=>cases ry;exact PySem.EqNone.eq_none_none (zb2 I q (by simp))
  | bl j=>cases ry;exact PySem.EqNone.eq_none_bool (zb2 I q (by simp))
  | int j=>obtain ⟨t',rfl⟩:=ry;exact PySem.EqNone.eq_none_int (zb2 I q (by simp))
  | str j=>obtain ⟨t',rfl⟩:=ry;exact PySem.EqNone.eq_none_str (zb2 I q (by simp))
  | _=>exact absurd (show false=true from hs) Bool.false_ne_true
 | bl i =>
  cases rx
  cases y with
  | non=>cases ry;exact PySem.EqNone.eq_bool_none (zb2 I q (by simp))
  | bl j=>cases ry;exact eq_bool (zb2 I q zoo)
  | str j=>obtain ⟨t',rfl⟩:=ry;exact PySem.EqMixed.eq_bool_str (zb2 I q (by simp))
  | _=>exact absurd (show false=true from hs) Bool.false_ne_true
 | int i =>
  obtain ⟨t,rfl⟩:=rx
  cases y with
  | non=>cases ry;exact PySem.EqNone.eq_int_none (zb2 I q (by simp))
  | int j=>obtain ⟨t',rfl⟩:=ry;exact eq_int (zb2 I q zon)
  | str j=>obtain ⟨t',rfl⟩:=ry;exact PySem.EqMixed.eq_int_str (zb2 I q (by simp))
  | _=>exact absurd (show false=true from hs) Bool.false_ne_true
 | str i =>
  obtain ⟨t,rfl⟩:=rx
  cases y with
  | non=>cases ry;exact PySem.EqNone.eq_str_none (zb2 I q (by simp))
  | bl j=>cases ry;exact PySem.EqMixed.eq_str_bool (zb2 I q (by simp))
  | int j=>obtain ⟨t',rfl⟩:=ry;exact PySem.EqMixed.eq_str_int (zb2 I q (by simp))
  | str j=>obtain ⟨t',rfl⟩:=ry;exact eq_str (zb2 I q zop)
  | _=>exact absurd (show false=true from hs) Bool.false_ne_true
 | byt i =>
  obtain ⟨t,rfl⟩:=rx
  cases y with
  | byt j=>obtain ⟨t',rfl⟩:=ry;exact PySem.W.eq_bytes (zb2 I q zoq)
  | _=>exact absurd (show false=true from hs) Bool.false_ne_true
 | _=>cases y <;> exact absurd (show false=true from hs) Bool.false_ne_true
theorem zxw:OpR X (compareOp .NotEq) rNe:=by
 intro pins s σ H x y v u Q I rx ry h
 obtain ⟨hs,q⟩:=h
 cases x with
 | non =>
  cases rx
  cases y with
  | non=>cases ry;exact PySem.EqNone.ne_none_none (zb2 I q (by simp))
  | bl j=>cases ry;exact PySem.EqNone.ne_none_bool (zb2 I q (by simp))
  | int j=>obtain ⟨t',rfl⟩:=ry;exact PySem.EqNone.ne_none_int (zb2 I q (by simp))
  | str j=>obtain ⟨t',rfl⟩:=ry;exact PySem.EqNone.ne_none_str (zb2 I q (by simp))
  | _=>exact absurd (show false=true from hs) Bool.false_ne_true
 | bl i =>
  cases rx
  cases y with
  | non=>cases ry;exact PySem.EqNone.ne_bool_none (zb2 I q (by simp))
  | bl j=>cases ry;exact ne_bool (zb2 I q (congrArg not zoo))
  | str j=>obtain ⟨t',rfl⟩:=ry;exact PySem.EqMixed.ne_bool_str (zb2 I q (by simp))
  | _=>exact absurd (show false=true from hs) Bool.false_ne_true
 | int i =>
  obtain ⟨t,rfl⟩:=rx
  cases y with
  | non=>cases ry;exact PySem.EqNone.ne_int_none (zb2 I q (by simp))
  | int j=>obtain ⟨t',rfl⟩:=ry;exact ne_int (zb2 I q (congrArg not zon))
  | str j=>obtain ⟨t',rfl⟩:=ry;exact PySem.EqMixed.ne_int_str (zb2 I q (by simp))
  | _=>exact absurd (show false=true from hs) Bool.false_ne_true
 | str i =>
  obtain ⟨t,rfl⟩:=rx
  cases y with
  | non=>cases ry;exact PySem.EqNone.ne_str_none (zb2 I q (by simp))
  | bl j=>cases ry;exact PySem.EqMixed.ne_str_bool (zb2 I q (by simp))
  | int j=>obtain ⟨t',rfl⟩:=ry;exact PySem.EqMixed.ne_str_int (zb2 I q (by simp))
  | str j=>obtain ⟨t',rfl⟩:=ry;exact ne_str (zb2 I q (congrArg not zop))
  | _=>exact absurd (show false=true from hs) Bool.false_ne_true
 | byt i =>
  obtain ⟨t,rfl⟩:=rx
  cases y with
  | byt j=>obtain ⟨t',rfl⟩:=ry;exact PySem.W.ne_bytes (zb2 I q (congrArg not zoq))
  | _=>exact absurd (show false=true from hs) Bool.false_ne_true
 | _=>cases y <;> exact absurd (show false=true from hs) Bool.false_ne_true
theorem zos:OpR X (compareOp .Lt) (rI0 fun i j=>.bl (decide (i<j))):=zki fun _ _ _ _ _ _ _ q=>lt_int q
theorem zxx:OpR X (compareOp .LtE) (rI0 fun i j=>.bl (decide (i<=j))):=zki fun _ _ _ _ _ _ _ q=>le_int q
theorem zxy:OpR X (compareOp .Gt) (rI0 fun i j=>.bl (decide (j<i))):=zki fun _ _ _ _ _ _ _ q=>gt_int q
theorem zxz:OpR X (compareOp .GtE) (rI0 fun i j=>.bl (decide (j<=i))):=zki fun _ _ _ _ _ _ _ q=>ge_int q
theorem zot:OpR X (compareOp .Is) (fun x y H Q=>y=.non/\Q (.bl (decide (x=.non))) H):=by
 intro pins s σ H x y v u Q I rx ry h
 obtain ⟨rfl,q⟩:=h
 cases ry
 refine is_none_gen (zb2 I q ?_)
 cases x <;> first
  | (cases rx;rfl)
  | (obtain ⟨t,rfl⟩:=rx;rfl)
theorem zx0:OpR X (compareOp .IsNot) (fun x y H Q=>y=.non/\Q (.bl (!decide (x=.non))) H):=by
 intro pins s σ H x y v u Q I rx ry h
 obtain ⟨rfl,q⟩:=h
 cases ry
 refine isnot_none_gen (zb2 I q ?_)
 cases x <;> first
  | (cases rx;rfl)
  | (obtain ⟨t,rfl⟩:=rx;rfl)
theorem OpR.or {f:Value->Value->Sem Value}{r r':R2}(h:OpR X f r) (h':OpR X f r'):OpR X f (fun x y H Q=>r x y H Q∨r' x y H Q):=by
 intro pins s σ H x y v u Q I rx ry q
 rcases q with q|q
 ·exact h pins s σ H x y v u Q I rx ry q
 ·exact h' pins s σ H x y v u Q I rx ry q
theorem zeu (b:Expr) {op:CmpOp}(h:op≠.In:=by decide) (h2:op≠.NotIn:=by decide):behindInMarks op b=false:=by
 have e1:(op == CmpOp.In)=false:=by cases op <;> first|rfl|exact absurd rfl h
 have e2:(op == CmpOp.NotIn)=false:=by cases op <;> first|rfl|exact absurd rfl h2
 cases b <;> simp [behindInMarks,e1,e2]
theorem zx1 {op:CmpOp}{r:R2}(ho:OpR X (compareOp op) r) (ha:PE X a ta) (hb:PE X b tb) (hm:behindInMarks op b=false):PE X (.Compare a [op] [b] pos) (tOp r ta tb):=by
 intro pins s σ H Q I h
 exact wpAny_Compare1 (zl3 ha hb I h fun v u s2 x y H2 I2 rx ry q=>ho pins s2 σ H2 x y v u Q I2 rx ry q) hm
noncomputable def zx2 (t:TE):TT:=fun σ H Q=>t σ H fun x H'=>∃k,x=.bl k/\Q k H'
theorem zx3 {op:CmpOp}{r:R2}(ho:OpR X (compareOp op) r) (ha:PE X a ta) (hb:PE X b tb) (hm:behindInMarks op b=false):PT X (.Compare a [op] [b] pos) (zx2 (tOp r ta tb)):=by
 intro pins s σ H Q I h
 refine wpAny_isTrue_Compare1 (thn (ha pins s σ H _ I h) fun v s1 ⟨x,H1,I1,r1,q1⟩=>thn (hb pins s1 σ H1 _ I1 q1) fun u s2 ⟨y,H2,I2,r2,q2⟩ =>
  thn (ho pins s2 σ H2 x y v u _ I2 r1 r2 q2) fun c s3 ⟨z,H3,I3,r3,k,e,q3⟩=>?_) hm
 subst e
 cases r3
 exact wpAny_truthy_bool ⟨H3,I3,q3⟩
noncomputable def zou (r r':R2) (ta tb tc:TE):TE:=fun σ H Q=>ta σ H fun x H1=>tb σ H1 fun y H2=>r x y H2 fun z H3=>∃k,z=.bl k /\
 (if k=true then tc σ H3 fun w' H4=>r' y w' H4 Q else Q (.bl false) H3)
theorem zx4 {op op':CmpOp}{r r':R2}(ho:OpR X (compareOp op) r) (ho':OpR X (compareOp op') r') (ha:PE X a ta) (hb:PE X b tb) (hc:PE X c tc)
  (hm:lastMarks [op,op'] [b,c]=false:=by with_unfolding_all rfl):PE X (.Compare a [op,op'] [b,c] pos) (zou r r' ta tb tc):=by
 intro pins s σ H Q I h
 refine Compare_chain (thn (ha pins s σ H _ I h) fun v s1 ⟨x,H1,I1,r1,q1⟩=>chain_link (thn (hb pins s1 σ H1 _ I1 q1) fun u s2 ⟨y,H2,I2,r2,q2⟩ =>
  thn (ho pins s2 σ H2 x y v u _ I2 r1 r2 q2) fun d s3 ⟨z,H3,I3,r3,k,e,q3⟩=>?_)) hm
 subst e
 cases r3
 refine wpAny_truthy_bool ?_
 cases k with
 | false=>exact ite_ff ⟨.bl false,H3,I3,rfl,q3⟩
 | true=>exact ite_tt (chain_last (thn (hc pins s3 σ H3 _ I3 q3) fun w' s4 ⟨z',H4,I4,r4,q4⟩=>ho' pins s4 σ H4 y z' u w' Q I4 r2 r4 q4))
theorem zim:(sizeLine:Nat)<2 ^ 63:=by rw [sizeLine_eq];decide
theorem op_add_str:OpR X (binaryOp .Add) (fun x y H Q=>∃i j,x=.str i/\y=.str j/\i.length+j.length<=sizeLine/\Q (.str (i++j)) H):=by
 intro pins s σ H x y v u Q I rx ry h
 obtain ⟨i,j,rfl,rfl,hz,q⟩:=h
 obtain ⟨t,rfl⟩:=rx
 obtain ⟨t',rfl⟩:=ry
 exact add_str (fun t' tk=>⟨.str (i++j),H,I.tok _,⟨_,rfl⟩,q⟩) hz
theorem zef {x:V}{us:List Value}(r:Vals [x] us):∃u,us=[u]/\RelV x u:=by
 cases r with
 | cons r1 r2=>cases r2;exact ⟨_,rfl,r1⟩
theorem zx5 {x y:V}{us:List Value}(r:Vals [x,y] us):∃u w',us=[u,w']/\RelV x u/\RelV y w':=by
 cases r with
 | cons r1 r2 =>
  cases r2 with
  | cons r3 r4=>cases r4;exact ⟨_,_,rfl,r1,r3⟩
theorem zx6:CallR X (.builtin "abs") (fun xs H Q=>∃i,xs=[.int i]/\Q (.int (if i<0 then -i else i)) H):=by
 intro pins s σ H xs us Q I r h
 obtain ⟨i,rfl,q⟩:=h
 obtain ⟨u,rfl,t,rfl⟩:=zef r
 exact call_abs_int fun u tk=>⟨.int (if i<0 then -i else i),H,I.tok _,⟨_,rfl⟩,q⟩
theorem zx7 (hc:X.calm=true):CallR X (.builtin "max") (fun xs H Q=>∃i j,xs=[.int i,.int j]/\Q (.int (if j > i then j else i)) H):=by
 intro pins s σ H xs us Q I r h
 obtain ⟨i,j,rfl,q⟩:=h
 obtain ⟨u,w',rfl,⟨t,rfl⟩,⟨t',rfl⟩⟩:=zx5 r
 refine max_two_ints (I.ok.hd hc) fun h' tk k=>⟨_,H,I.kept k,?_,q⟩
 by_cases hj:j > i
 ·rw [if_pos hj,if_pos hj];exact ⟨_,rfl⟩
 ·rw [if_neg hj,if_neg hj];exact ⟨_,rfl⟩
theorem zx8:CallR X (.type "int") (fun xs H Q=>(∃i,xs=[.int i]/\Q (.int i) H)∨∃k,xs=[.bl k]/\Q (.int (if k then 1 else 0)) H):=by
 intro pins s σ H xs us Q I r h
 rcases h with ⟨i,rfl,q⟩|⟨k,rfl,q⟩
 ·obtain ⟨u,rfl,t,rfl⟩:=zef r
  exact call_int_int ⟨.int i,H,I,⟨_,rfl⟩,q⟩
 ·obtain ⟨u,rfl,r1⟩:=zef r
  cases r1
  exact call_int_bool ⟨.int (if k then 1 else 0),H,I.tok _,⟨_,rfl⟩,q⟩
theorem zx9:CallR X (.type "str") (fun xs H Q=>∃i,xs=[.int i]/\i.natAbs.log2<1920/\Q (.str (toString i)) H):=by
 intro pins s σ H xs us Q I r h
 obtain ⟨i,rfl,hz,q⟩:=h
 obtain ⟨u,rfl,t,rfl⟩:=zef r
 exact PySem.P.str_of_int hz ⟨.str _,H,I.tok _,⟨_,rfl⟩,q⟩
end
structure ObjM (h:Heap) (x dx C:Addr) (mA:Str->Option Value):Prop where
 obj:h.get? x=some (PySem.W.instObj C dx)
 ns:h.Ns1 dx mA
 ne:dx≠x
theorem zya {h:Heap}{dx:Addr}{mA:Str->Option Value}(n:h.Ns1 dx mA):∃od,h.get? dx=some od/\∀name,PySem.W.lookIn name od=some (mA name):=by
 obtain ⟨o,es,ep,ho,hd,hk,_,hm⟩:=n
 refine ⟨o,ho,fun name=>?_⟩
 have e:=hm name
 unfold nsFind findBy at e
 rw [←Array.find?_toList] at e
 unfold PySem.W.lookIn
 rw [hd]
 dsimp only
 split
 ·rename_i y q
  rw [q] at e
  exact congrArg some e
 ·rename_i q
  rw [q] at e
  have a:es.toList.any (·.refKey)=false:=by
   rw [List.any_eq_false]
   intro y hy
   obtain ⟨z,t,hkey⟩:=hk y (Array.mem_toList_iff.mp hy)
   simp [DictEntry.refKey,hkey]
  have a':¬es.toList.any (·.refKey)=true:=by rw [a];exact Bool.false_ne_true
  rw [if_neg a']
  exact congrArg some e
theorem ObjM.look {h:Heap}{x dx C:Addr}{mA:Str->Option Value}(I:ObjM h x dx C mA):∃od,PySem.W.InstAt h x (PySem.W.instObj C dx) C (some od)/\∀name,PySem.W.lookIn name od=some (mA name) :=
 let ⟨od,ho,hl⟩:=zya I.ns
 ⟨od,⟨I.obj,rfl,rfl,ho⟩,hl⟩
section
variable {prog:Program}{w:World}{A:Around}{E:Value->Shared->Prop}{s:Shared}{K:QFg}{x dx C f:Addr}{mA:Str->Option Value}{name:Str}{v:Value}
end
theorem RelO.some_of {v:V}{o:Option Value}(r:RelO (some v) o):∃u,o=some u/\RelV v u:=by
 cases o with
 | none=>exact (show False from r).elim
 | some u=>exact ⟨u,rfl,r⟩
section
variable {P:Program}{w:World}{H H':Hp}{h h':Heap}{a C dx:Addr}{fs fs':List (Str × V)}
theorem zyb (hok:HOk P w H h) (e:H a=some (.ins C dx fs)):∃mA,ObjM h a dx C mA/\(∀f,RelO (fs.lookup f) (mA f))/\PySem.Within mA (fs.map (·.1))/\fs.length<=1000/\H dx=some (.own a):=by
 obtain ⟨d,z,ne,ob,mA,n,r,q⟩:=(show ObjOk P w H h a (.ins C dx fs) from hok a _ e)
 exact ⟨mA,⟨ob,n,ne⟩,r,q,z,d⟩
end
structure Cls (K:QFg) (C:Addr):Prop where
 pg:PySem.W.plainGet K C Str.empty=true
 hd:PySem.W.hasDictIn K C=true
 po:PySem.W.plainOver K C=true
 sa:PySem.W.findIn K (.ref C) "__setattr__" = some (some (.builtin "object.__setattr__"))
theorem Cls.get {K:QFg}{C:Addr}(c:Cls K C) (f:Str):PySem.W.plainGet K C f=true:=c.pg
section
variable {X:Cx}{pins:List (Addr × Obj)}{σ:St}{H:Hp}{s:Shared}{a C dx:Addr}{fs:List (Str × V)}{f:Str}{v:V}{A:Around}{E:Value->Shared->Prop}
end
section
variable {X:Cx}{o e value:Expr}{f:Str}{pos pos' tpos:Pos}{ta tv:TE}
end
section
variable {X:Cx}{pins:List (Addr × Obj)}{σ:St}{H:Hp}{s:Shared}{A:Around}{E:Value->Shared->Prop}{Q:Value->Shared->Prop}{c:Value}{b:Bool}
inductive TyOf (K:QFg) (H:Hp):V->Value->Prop where
 | non:TyOf K H .non (.type "NoneType")
 | bl (x:Bool):TyOf K H (.bl x) (.type "bool")
 | int (i:Int):TyOf K H (.int i) (.type "int")
 | str (x:Str):TyOf K H (.str x) (.type "str")
 | flt (x:UInt64):TyOf K H (.flt x) (.type "float")
 | lst {a:Addr} {xs:List V} (e:H a=some (.lst xs)):TyOf K H (.ref a) (.type "list")
 | frz {a:Addr} {o:Obj} {xs:List V} (e:H a=some (.frz o (.lst xs))):TyOf K H (.ref a) (.type "list")
 | tup {a:Addr} {xs:List V} (e:H a=some (.tup xs)):TyOf K H (.ref a) (.type "tuple")
 | dK {a:Addr} {kvs:List (Key × V)} (e:H a=some (.dK kvs)):TyOf K H (.ref a) (.type "dict")
 | dT {a:Addr} {kvs:List (List Key × V)} (e:H a=some (.dT kvs)):TyOf K H (.ref a) (.type "dict")
 | ins {a C dx:Addr} {fs:List (Str × V)} (e:H a=some (.ins C dx fs)) (cl:Cls K C) (ha:PySem.W.findIn K (.ref C) "__class__" = some (some (.builtin "object.__class__")))
   (hn:PySem.W.specialIn K (.builtin "object.__class__") "__get__" = some (some (.builtin "getset_descriptor.__get__"))) (htk:PySem.W.takesIn K (.builtin "object.__class__")=some true)
   (hm:PySem.W.mroIn K C (.type "object")=some true):TyOf K H (.ref a) (.ref C)
theorem zyc {x:V}{u t:Value}(I:Inv X pins σ H s) (rx:RelV x u) (ty:TyOf X.K H x t) (e:PySem.W.kitOne X.K t c=some b) (h:∀tk,Q (.bool b) { s with toks:=tk }) :
  wpAny (model X.prog X.w) A (call (.builtin "isinstance") [u,c]) Q E s:=by
 cases ty with
 | non=>cases (show u=Value.none from rx);exact PySem.W.kia_one PySem.W.kitx_none I.kIn True.intro e (fun z=>nomatch z) h
 | bl y=>cases (show u=Value.bool y from rx);exact PySem.W.kia_one PySem.W.kitx_bool I.kIn True.intro e (fun z=>nomatch z) h
 | int i=>obtain ⟨t,q⟩:=(show ∃t,u=Value.int i t from rx);cases q;exact PySem.W.kia_one PySem.W.kitx_int I.kIn True.intro e (fun z=>nomatch z) h
 | str y=>obtain ⟨t,q⟩:=(show ∃t,u=Value.str y t from rx);cases q;exact PySem.W.kia_one PySem.W.kitx_str I.kIn True.intro e (fun z=>nomatch z) h
 | flt y=>obtain ⟨t,q⟩:=(show ∃t,u=Value.float y t from rx);cases q;exact PySem.W.kia_one PySem.W.kitx_float I.kIn True.intro e (fun z=>nomatch z) h
 | @lst a xs ea =>
  cases (show u=Value.ref a from rx)
  obtain ⟨_,_,n,_,h1⟩:=(show ObjOk X.prog X.w H s.heap a (.lst xs) from I.hok a _ ea)
  exact PySem.W.kia_one PySem.W.kitx_list I.kIn ⟨_,h1,rfl⟩ e (fun z=>nomatch z) h
 | @frz a ob xs ea =>
  cases (show u=Value.ref a from rx)
  obtain ⟨_,_,_,n,_,h1⟩:=(show ObjOk X.prog X.w H s.heap a (.frz ob (.lst xs)) from I.hok a _ ea)
  exact PySem.W.kia_one PySem.W.kitx_list I.kIn ⟨_,h1,rfl⟩ e (fun z=>nomatch z) h
 | @tup a xs ea =>
  cases (show u=Value.ref a from rx)
  obtain ⟨_,_,_,p⟩:=(show ObjOk X.prog X.w H s.heap a (.tup xs) from I.hok a _ ea)
  obtain ⟨o,h1,h2,_⟩:=p
  exact PySem.W.kia_one PySem.W.kitx_tuple I.kIn ⟨o,h1,h2⟩ e (fun z=>nomatch z) h
 | @dK a kvs ea =>
  cases (show u=Value.ref a from rx)
  obtain ⟨_,_,vs,_,p⟩:=(show ObjOk X.prog X.w H s.heap a (.dK kvs) from I.hok a _ ea)
  obtain ⟨o,es,ep,h1,h2,_⟩:=p
  exact PySem.W.kia_one PySem.W.kitx_dict I.kIn ⟨o,h1,h2.1⟩ e (fun z=>nomatch z) h
 | @dT a kvs ea =>
  cases (show u=Value.ref a from rx)
  obtain ⟨_,_,xs,_,o,es,ep,h1,h2,_⟩:=(show ObjOk X.prog X.w H s.heap a (.dT kvs) from I.hok a _ ea)
  exact PySem.W.kia_one PySem.W.kitx_dict I.kIn ⟨o,h1,h2.1⟩ e (fun z=>nomatch z) h
 | @ins a C dx fs ea cl ha hn htk hm =>
  cases (show u=Value.ref a from rx)
  obtain ⟨mA,O,_⟩:=zyb I.hok ea
  obtain ⟨od,J,_⟩:=O.look
  exact PySem.W.kia_one (PySem.W.kitx_own (cl.get _) cl.hd ha hn htk hm) I.kIn J e (fun z=>nomatch z) h
end
structure Room (k:Nat) (A:Around):Prop where
 hd:A.handled=none
 dp:A.depth+3*k+5<recursionLimit
 un:A.units+16*k+200<cLine
 gd:A.guards=some []
theorem Room.mono {j k:Nat}{A:Around}(r:Room k A) (h:j<=k):Room j A:=⟨r.hd,by have:=r.dp;omega,by have:=r.un;omega,r.gd⟩
theorem Room.deeper {k:Nat}{A:Around}(r:Room (k+1) A) (env:Env):Room k (A.deeper env) :=
 ⟨r.hd,by have:=r.dp;show A.depth+1+3*k+5<_;omega,by have:=r.un;show A.units+3+16*k+200<_;omega,r.gd⟩
theorem Room.depth {k:Nat}{A:Around}(r:Room k A):A.depth<recursionLimit:=by have:=r.dp;omega
noncomputable def zyd:TA:=fun _ H Q=>Q [] H
noncomputable def zye (ta:TE) (tr:TA):TA:=fun σ H Q=>ta σ H fun x H1=>tr σ H1 fun xs H2=>Q (x :: xs) H2
section
variable {X:Cx}{e:Expr}{es:List Expr}{te:TE}{t:TA}{pos:Pos}
theorem zl6:PA X [] zyd:=fun _ _ _ _ H Q I h=>Calls.spliced_nil ⟨[],H,I,.nil,h⟩
theorem zkk (ha:PE X e te) (hr:PA X es t) (hs:starEach (e :: es) X.env=(false,eval e X.env) :: starEach es X.env:=by rfl):PA X (e :: es) (zye te t):=by
 intro pos pins s σ H Q I h
 rw [hs]
 show wpAny _ _ (spliced ((false,eval e X.env) :: backTo pos (starEach es X.env))) _ _ s
 refine Calls.spliced_cons (thn (ha pins s σ H _ I h) fun u s1 ⟨x,H1,I1,r1,q1⟩=>?_)
 exact thn (hr pos pins s1 σ H1 _ I1 q1) fun us s2 ⟨xs,H2,I2,r2,q2⟩=>⟨x :: xs,H2,I2,.cons r1 r2,q2⟩
noncomputable def zyf (t:TA):TE:=fun σ H Q=>t σ H fun xs H1=>xs.length<=sizeLine/\∀p,H1 p=none->Q (.ref p) (upd H1 p (.tup xs))
noncomputable def zyg (t:TA):TE:=fun σ H Q=>t σ H fun xs H1=>xs.length<=sizeLine/\∀p,H1 p=none->Q (.ref p) (upd H1 p (.lst xs))
theorem zyh {x1}(h:PA X es t):PE X (.Tuple es x1 pos) (zyf t):=by
 intro pins s σ H Q I hq
 refine wpAny_Tuple_spliced (thn (h pos pins s σ H _ I hq) fun us s1 ⟨xs,H1,I1,r,z,q⟩=>⟨by rw [←r.length];exact z,?_⟩)
 have hf:H1 s1.heap.objs.size=none:=I1.hok.fresh (qlr _)
 refine ⟨.ref s1.heap.objs.size,upd H1 s1.heap.objs.size (.tup xs),I1.laid (t':=s1.toks) (fun b u e=>qps _ e) (qlr _) ?_,rfl,q _ hf⟩
 exact ⟨z,us,r,IsTD.new _ _⟩
theorem zyi (h:PA X es t):PE X (.List es pos) (zyg t):=by
 intro pins s σ H Q I hq
 refine wpAny_List_spliced (thn (h pos pins s σ H _ I hq) fun us s1 ⟨xs,H1,I1,r,z,q⟩=>⟨by rw [←r.length];exact z,?_⟩)
 have hf:H1 s1.heap.objs.size=none:=I1.hok.fresh (qlr _)
 refine ⟨.ref s1.heap.objs.size,upd H1 s1.heap.objs.size (.lst xs),I1.laid (t':=s1.toks) (fun b u e=>qps _ e) (qlr _) ?_,rfl,q _ hf⟩
 exact ⟨z,us,0,r,Heap.get?_push_size _ rfl⟩
end
noncomputable abbrev Sp:=List V->Hp->VK->XK->Prop
noncomputable abbrev CXT:=List Env->Hp->Shared->XK->Value->Shared->Prop
structure Env0 (P:Program) (w:World) (K:QFg) (mg:Str->Option Value) (base:Heap) (A:Around) (outer:List Env) (s:Shared) (H:Hp):Prop where
 frames:A.frames=some outer
 mod:Mod K mg base
 bs:∀b o,base.get? b=some o->s.heap.get? b=some o/\H b=none
 bsz:base.objs.size<=s.heap.objs.size
 funs:s.heap.FunFrames base outer
 frf:∀b∈frs outer,H b=none
 hok:HOk P w H s.heap
 bare:AllBare s.gens
noncomputable def CE (outer:List Env) (P:Program) (w:World) (H:Hp) (s:Shared) (Q:VK) (u:Value) (s':Shared):Prop :=
 ∃v H',s'.os=s.os/\AllBare s'.gens/\Un (frs outer) [] H H' s.heap s'.heap/\HOk P w H' s'.heap/\RelV v u/\Q v H'
noncomputable def CR (CX:CXT) (outer:List Env) (P:Program) (w:World) (H:Hp) (s:Shared) (Q:VK) (E:XK) (r:Result) (s':Shared):Prop :=
 match r with
 | .ok (.ret u)=>CE outer P w H s Q u s'
 | .ok _=>False
 | .error e=>CX outer H s E e s'
structure FnOk (P:Program) (w:World) (K:QFg) (mg:Str->Option Value) (base:Heap) (CX:CXT) (k:Nat) (f:Addr) (fd:FuncData) (ps:List Str) (sp:Sp):Prop where
 len:∀vs H Q E,sp vs H Q E->vs.length=ps.length
 run:∀(A:Around) (outer:List Env) (s:Shared) (H:Hp) (args:Args) (us:List Value) (vs:List V) (Q:VK) (E:XK),Room k A->Env0 P w K mg base A outer s H->BindsTo s fd args (ps.zip us)->Vals vs us->sp vs H Q E ->
  codeAny (model P w) A (.call (.ref f) args) (CR CX outer P w H s Q E) s
section
variable {X:Cx}{pins:List (Addr × Obj)}{σ:St}{H:Hp}{s s':Shared}
theorem Inv.env0 (I:Inv X pins σ H s):Env0 X.prog X.w X.K X.mg X.base X.A X.stack s H :=
 ⟨I.ok.frames,I.ok.mod,I.bs,Nat.le_trans I.ok.bsz I.sz,I.stack,I.stkFree,I.hok,I.bare⟩
theorem Inv.after {Q:VK}{u:Value}(I:Inv X pins σ H s) (h:CE X.stack X.prog X.w H s Q u s'):EP X pins σ Q u s':=by
 obtain ⟨v,H',os,bare,un,hok,r,q⟩:=h
 obtain ⟨hh,g,d,t,os'⟩:=s'
 obtain rfl:os' = s.os:=os
 exact ⟨v,H',I.call (h':=hh) (g':=g) (d':=d) (t':=t) (ch:=[]) un hok bare (fun b z=>absurd z (by simp)),r,q⟩
end
noncomputable def zyj (sp:Sp) (dvs:List V) (E:XK) (t:TA):TE:=fun σ H Q=>t σ H fun vs H1=>sp (vs++dvs) H1 Q E
noncomputable def Binds (K:QFg) (fd:FuncData) (ps:List Str) (ds:List Value):Prop :=
 ∀(s:Shared) (us:List Value),K.In s.heap->(us++ds).length=ps.length->BindsTo s fd ⟨us,[]⟩ (ps.zip (us++ds))
theorem Binds.all {K:QFg}{fd:FuncData}{ps:List Str}(h:∀us:List Value,us.length=ps.length->bindArgs fd ⟨us,[]⟩=pure (ps.zip us)):Binds K fd ps []:=fun s us _ hl=>by
 rw [List.append_nil] at hl ⊢
 exact .of_eq (h us hl)
noncomputable def zl7 (CX:CXT) (X:Cx) (E:XK):Prop:=∀(pins:List (Addr × Obj)) (σ:St) (H:Hp) (s:Shared) (e:Value) (s':Shared),Inv X pins σ H s->CX X.stack H s E e s'->X.xe e s'
section
variable {X:Cx}{CX:CXT}{k:Nat}{f C:Addr}{fd:FuncData}{ps:List Str}{sp:Sp}{dvs:List V}{ds:List Value}{E:XK}{x m:Str}{p pos apos:Pos}{e o:Expr}{es:List Expr}{ta:TE}{t:TA}
theorem zyk {pins:List (Addr × Obj)}{σ:St}{H:Hp}{s:Shared}{Q:VK}{us:List Value}{vs:List V}(F:FnOk X.prog X.w X.K X.mg X.base CX k f fd ps sp) (hr:Room k X.A) (hb:Binds X.K fd ps ds) (hd:Vals dvs ds) (hx:zl7 CX X E)
  (I:Inv X pins σ H s) (r:Vals vs us) (h:sp (vs++dvs) H Q E):wpAny (model X.prog X.w) X.A (call (.ref f) us) (EP X pins σ Q) X.xe s:=by
 have r2:Vals (vs++dvs) (us++ds):=r.append hd
 have hl:(us++ds).length=ps.length:=by rw [←r2.length];exact F.len _ _ _ _ h
 refine wpAny_call (codeAny_mono (F.run X.A X.stack s H ⟨us,[]⟩ (us++ds) (vs++dvs) Q E hr I.env0 (hb s us I.kIn hl) r2 h) fun r s' hq=>?_)
 cases r with
 | error e=>exact hx pins σ H s e s' I hq
 | ok fl =>
  cases fl with
  | ret u=>exact I.after hq
  | next=>exact False.elim hq
  | brk=>exact False.elim hq
  | cont=>exact False.elim hq
theorem zyl (F:FnOk X.prog X.w X.K X.mg X.base CX k f fd ps sp) (hr:Room k X.A) (hg:Gl X x) (hm:X.mg x=some (.ref f)) (hk:PySem.W.keepIn X.K (.ref f)=true) (hb:Binds X.K fd ps ds) (hd:Vals dvs ds) (hx:zl7 CX X E)
  (ha:PA X (e :: es) t) (hdb:(x == ("__debug__":Str))=false:=by decide) (he:starEach (e :: es) X.env=(false,eval e X.env) :: starEach es X.env:=by rfl) (hpl:(backTo pos (starEach es X.env)).any (·.1)=false:=by rfl) :
  PE X (.Call (.Name x p) (e :: es) [] pos) (zyj sp dvs E t):=by
 intro pins s σ H Q I h
 refine wpAny_Call_Name_kw (zok I hg hm ?_ hdb)
 refine PySem.W.callWith_K (h₀:=X.base) I.ok.mod.kin hk (thn (ha pos pins s σ H _ I h) fun us s1 ⟨vs,H1,I1,r,q⟩=>⟨I1.kIn,?_⟩) he hpl
 exact zyk F hr hb hd hx I1 r q
end
section
variable {X:Cx}{CX:CXT}{k:Nat}{f C:Addr}{fd:FuncData}{ps ks:List Str}{sp:Sp}{E:XK}{x m:Str}{p pos apos kpos:Pos}{e o:Expr}{es:List Expr}{kws:List Keyword}{te ta:TE}{t tk:TA}{nm:Option Str}
variable {g:List Value->List Value->List Value}{gV:List V->List V->List V}
end
structure FnScope (N P:List Str) (sc:Scope):Prop where
 kind:sc.kind=.function
 co:sc.isCoroutine=false
 gen:sc.isGenerator=false
 nd:N.Nodup
 pre:N.take P.length=P
 par:∀x∈P,sc.names.lookup x=some .local∨sc.names.lookup x=some .cell
 nofree:∀y∈sc.names,y.2≠.free
theorem zov {kindOf:Str->Option NameKind}{x:Str}:∀{binds:List (Str × Value)}{m:Str->Option Value},(∀v,(x,v) ∉ binds)->bindL kindOf binds m x=m x
 | [],_,_=>rfl
 | (n,v) :: r,m,h=>by
  unfold bindL
  rw [zov fun w hw=>h w (List.mem_cons_of_mem _ hw)]
  split
  ·have:x≠n:=by rintro rfl;exact h v List.mem_cons_self
   simp [this]
  ·rfl
theorem zow {kindOf:Str->Option NameKind}{x:Str}:∀{binds:List (Str × Value)}{m:Str->Option Value},(∀v,(x,v) ∉ binds)->bindC kindOf binds m x=m x
 | [],_,_=>rfl
 | (n,v) :: r,m,h=>by
  unfold bindC
  rw [zow fun w hw=>h w (List.mem_cons_of_mem _ hw)]
  split
  ·rfl
  ·have:x≠n:=by rintro rfl;exact h v List.mem_cons_self
   simp [this]
theorem zox {kindOf:Str->Option NameKind}{x:Str}{v:Value}:∀{P:List Str}{vs:List Value}{i:Nat}{m:Str->Option Value},P.Nodup->P[i]? = some x->vs[i]? = some v->kindOf x=some .local ->
  bindL kindOf (P.zip vs) m x=some v
 | [],_,_,_,_,h,_,_=>by simp at h
 | _ :: _,[],_,_,_,_,h,_=>by simp at h
 | p :: P,w :: vs,0,m,nd,h1,h2,hk=>by
  simp at h1 h2;subst h1;subst h2
  show bindL kindOf ((p,w) :: P.zip vs) m p=_
  unfold bindL
  rw [zov fun v hv=>(List.nodup_cons.mp nd).1 (List.of_mem_zip hv).1,if_pos hk]
  simp
 | p :: P,w :: vs,i+1,m,nd,h1,h2,hk=>by
  show bindL kindOf ((p,w) :: P.zip vs) m x=_
  unfold bindL
  exact zox (i:=i) (List.nodup_cons.mp nd).2 (by simpa using h1) (by simpa using h2) hk
theorem zoy {kindOf:Str->Option NameKind}{x:Str}{v:Value}:∀{P:List Str}{vs:List Value}{i:Nat}{m:Str->Option Value},P.Nodup->P[i]? = some x->vs[i]? = some v->kindOf x≠some .local ->
  bindC kindOf (P.zip vs) m x=some v
 | [],_,_,_,_,h,_,_=>by simp at h
 | _ :: _,[],_,_,_,_,h,_=>by simp at h
 | p :: P,w :: vs,0,m,nd,h1,h2,hk=>by
  simp at h1 h2;subst h1;subst h2
  show bindC kindOf ((p,w) :: P.zip vs) m p=_
  unfold bindC
  rw [zow fun v hv=>(List.nodup_cons.mp nd).1 (List.of_mem_zip hv).1,if_neg hk]
  simp
 | p :: P,w :: vs,i+1,m,nd,h1,h2,hk=>by
  show bindC kindOf ((p,w) :: P.zip vs) m x=_
  unfold bindC
  exact zoy (i:=i) (List.nodup_cons.mp nd).2 (by simpa using h1) (by simpa using h2) hk
noncomputable def start (N:List Str) (vs:List V):St:=vs.map some++List.replicate (N.length-vs.length) none
noncomputable def zgc (CX:CXT) (P:Program) (w:World) (K:QFg) (mg:Str->Option Value) (base:Heap) (N:List Str) (qual:Str) (scope:Scope) (f:Addr) (cd:Value) (A:Around) (outer:List Env) (s:Shared) (H:Hp) (E:XK):Cx where
 prog:=P
 w:=w
 K:=K
 mg:=mg
 base:=base
 A:=A.deeper (envOfC qual scope s.heap.objs.size f cd)
 N:=N
 s₀:=s
 H₀:=H
 env:=envOfC qual scope s.heap.objs.size f cd
 outer:=outer
 stack:=envOfC qual scope s.heap.objs.size f cd :: outer
 ex:=[]
 calm:=true
 fn:=fun _=>true
 pn:=[]
 xe:=fun e s'=>wpAny (model P w) (A.deeper (envOfC qual scope s.heap.objs.size f cd)) (leaving (envOfC qual scope s.heap.objs.size f cd) e) (fun _ s''=>CX outer H s E e s'') (fun e' s''=>CX outer H s E e' s'') s'
theorem zoz {sc:Scope}{n:Nat}{x:Str}(h:sc.names.lookup x=some .cell):∃c,(cellsFrom n sc.names []).lookup x=some c:=by
 have q:=PySem.W.cellsFrom_some sc.names n [] (.inl h)
 exact Option.isSome_iff_exists.mp q
theorem zym {CX:CXT}{P:Program}{w:World}{K:QFg}{mg:Str->Option Value}{base:Heap}{N ps:List Str}{qual:Str}{scope:Scope}{f:Addr}{cd:Value}{A:Around}{outer:List Env}{s s1:Shared}{H:Hp}{E:XK}{us:List Value}{vs:List V}
  (S:FnScope N ps scope) (hd:A.handled=none) (e0:Env0 P w K mg base A outer s H) (hl:vs.length=ps.length) (r:Vals vs us)
  (x:InCallC s s.heap.objs.size (bindL (envOfC qual scope s.heap.objs.size f cd).kindOf (ps.zip us) fun _=>none) (cellsFrom (s.heap.objs.size+1) scope.names []) (bindC (envOfC qual scope s.heap.objs.size f cd).kindOf (ps.zip us) fun _=>none) s1) :
  Inv (zgc CX P w K mg base N qual scope f cd A outer s H E) [] (start N vs) H s1:=by
 have hpl:ps.length<=N.length:=by have:=congrArg List.length S.pre;rw [List.length_take] at this;omega
 obtain ⟨h1,tk,rfl,hk⟩:=x.done
 have noA:∀b:Addr,b ∉ (zgc CX P w K mg base N qual scope f cd A outer s H E).ex:=fun b z=>absurd (show b∈([]:List Addr) from z) (by simp)
 refine ⟨⟨e0.mod,S.kind,rfl,rfl,qlr _,fun y z c h1 h2=>?_,fun y hy=>?_,fun y c _ h=>?_,fun _=>hd,Around.frames_deeper e0.frames,.inr ⟨rfl,rfl⟩,fun b z=>absurd z (noA b),e0.bs,e0.bsz,fun b _ _=>noA b,fun b z=>absurd z (noA b),e0.funs,e0.frf⟩,
  rfl,e0.bare,Un.kept hk,⟨_,x.toInCall.ns,fun i y v h1 h2 h3=>?_⟩,fun y c h=>⟨_,x.cell y c h⟩,e0.hok.fresh (qlr _),fun y c h=>?_,fun p hp=>absurd (show p∈([]:List (Addr × Obj)) from hp) (by simp),e0.hok.kept hk,?_⟩
 ·exact name_of_addr x.apart (PySem.mem_of_lookup h1) (PySem.mem_of_lookup h2)
 ·have hy:scope.names.lookup y=some .cell∨scope.names.lookup y=some .free:=hy
  rcases hy with hy|hy
  ·exact zoz hy
  ·exact absurd rfl (S.nofree _ (PySem.mem_of_lookup hy))
 ·exact Nat.le_of_lt (x.above y c (PySem.mem_of_lookup h))
 ·have hi:i<vs.length:=by
   unfold start at h2
   by_cases hi:i<vs.length
   ·exact hi
   ·rw [List.getElem?_append_right (by simpa using hi)] at h2
    rw [List.getElem?_replicate] at h2
    split at h2 <;> cases h2
  have ha:vs[i]? = some v:=by
   unfold start at h2
   rw [List.getElem?_append_left (by simpa using hi),qgm] at h2
   cases e:vs[i]? with
   | none=>rw [e] at h2;cases h2
   | some a=>rw [e] at h2;cases h2;rfl
  obtain ⟨u,hu,rv⟩:=r.get ha
  have hp:ps[i]? = some y:=by
   rw [←S.pre,List.getElem?_take_of_lt (by omega)];exact h1
  have ndP:ps.Nodup:=by rw [←S.pre];exact S.nd.sublist (List.take_sublist _ _)
  refine ⟨u,rv,?_⟩
  rcases S.par y (qmg hp) with k|k
  ·exact .inl ⟨k,zox ndP hp hu k⟩
  ·obtain ⟨c,e⟩:=zoz (n:=s.heap.objs.size+1) k
   refine .inr ⟨.inl k,c,e,?_⟩
   have q:=x.cell y c e
   rw [zoy ndP hp hu (by show scope.names.lookup y≠_;rw [k];decide)] at q
   exact q
 ·exact e0.hok.fresh (Nat.le_of_lt (x.above y c (PySem.mem_of_lookup h)))
 ·unfold start
  show _=N.length
  rw [qla,qlm,List.length_replicate]
  omega
theorem zyn {CX:CXT}{P:Program}{w:World}{K:QFg}{mg:Str->Option Value}{base:Heap}{k:Nat}{f:Addr}{name qual:Str}{params:Arguments}{body:List Stmt}{scope:Scope}{dV kV doc pm cdv ct oc:Value}{an od:Option Addr}
  {osl:Array (Option Value)} {N ps:List Str} {sp:Sp} (lk:K.lookup f=some ⟨oc,od,.func (PySem.W.fnOf name qual params body scope dV kV doc pm an cdv ct),osl⟩) (hcd:PySem.W.codeIn K cdv qual=true) (S:FnScope N ps scope)
  (len:∀vs H Q E,sp vs H Q E->vs.length=ps.length)
  (hbody:∀(A:Around) (outer:List Env) (s:Shared) (H:Hp) (vs:List V) (Q:VK) (E:XK),Room k (A.deeper (envOfC qual scope s.heap.objs.size f cdv))->sp vs H Q E ->
   ∃t,PSs (zgc CX P w K mg base N qual scope f cdv A outer s H E) body t/\t { nx:=fun _ H'=>Q .non H',rt:=Q } (start N vs) H) :
  FnOk P w K mg base CX (k+1) f (PySem.W.fnOf name qual params body scope dV kV doc pm an cdv ct) ps sp:=by
 refine ⟨len,fun A outer s H args us vs Q E hr e0 hb r hsp=>?_⟩
 have hl:=len _ _ _ _ hsp
 have KX:K.In s.heap:=e0.mod.kin.keeps fun b o e=>(e0.bs b o e).1
 have lim:s.heap.NoLimit:=e0.mod.nolimit.keeps fun b o e=>(e0.bs b o e).1
 have hkind:∀y∈ps.zip us,scope.names.lookup y.1=some .local∨(scope.names.lookup y.1=some .cell/\((cellsFrom (s.heap.objs.size+1) scope.names []).lookup y.1).isSome=true):=fun hx2_ hy=>by
  obtain ⟨n,v⟩:=hx2_
  rcases S.par n (List.of_mem_zip hy).1 with q|q
  ·exact .inl q
  ·exact .inr ⟨q,PySem.W.cellsFrom_some _ _ _ (.inl q)⟩
 refine codeAny_call_function hr.depth (KX _ _ lk) rfl S.co S.gen rfl (PySem.W.codeRec_of KX hcd) (hb _ _ _ _ ?_)
 refine wpAny_newFunctionEnv_cells S.kind hkind fun env he s1 x=>?_
 subst he
 refine ⟨lim.keeps x.toInCall.keep,codeAny_func ?_⟩
 obtain ⟨t,ht,hq⟩:=hbody A outer s H vs Q E (hr.deeper _) hsp
 have I:Inv (zgc CX P w K mg base N qual scope f cdv A outer s H E) [] (start N vs) H s1:=zym S hr.hd e0 hl r x
 refine wpAny_mono (ht [] s1 (start N vs) H _ I hq) (fun fl s' hs=>?_) fun e s' hs=>hs
 have fin:∀{σ':St} {H':Hp} {v:V} {u:Value},Inv (zgc CX P w K mg base N qual scope f cdv A outer s H E) [] σ' H' s'->RelV v u->Q v H'->CE outer P w H s Q u s' :=
  fun {σ' H' v u} J rv q=>⟨v,H',J.os,J.bare,J.base,J.hok,rv,q⟩
 cases fl with
 | ret u =>
  obtain ⟨v,σ',H',J,rv,q⟩:=hs
  exact fin J rv q
 | next =>
  obtain ⟨σ',H',J,q⟩:=hs
  exact fin (v:=V.non) (u:=Value.none) J rfl q
 | brk =>
  obtain ⟨_,_,_,q⟩:=hs
  exact False.elim q
 | cont =>
  obtain ⟨_,_,_,q⟩:=hs
  exact False.elim q
section
variable {X:Cx}{x:Str}{p pos:Pos}{e:Expr}{es:List Expr}{t:TA}{id T:String}{r:List V->Hp->VK->Prop}
noncomputable def tCB (r:List V->Hp->VK->Prop) (t:TA):TE:=fun σ H Q=>t σ H fun vs H1=>r vs H1 Q
theorem zo0 (hc:CallR X (.builtin id) r) (hg:Gl X x) (hm:X.mg x=none) (hv:bootBuiltins x=some (.builtin id)) (ha:PA X (e :: es) t) (hn:x≠"__name__":=by decide) (hdb:(x == ("__debug__":Str))=false:=by decide)
  (he:starEach (e :: es) X.env=(false,eval e X.env) :: starEach es X.env:=by rfl) (hpl:(backTo pos (starEach es X.env)).any (·.1)=false:=by rfl):PE X (.Call (.Name x p) (e :: es) [] pos) (tCB r t):=by
 intro pins s σ H Q I h
 refine wpAny_Call_Name_kw (zga I hg hm hv ?_ hn hdb)
 exact PyProof.Rows.callWith_builtin1 (thn (ha pos pins s σ H _ I h) fun us s1 ⟨vs,H1,I1,r1,q1⟩=>hc pins s1 σ H1 vs us Q I1 r1 q1) he hpl
theorem zl8 (hc:CallR X (.type T) r) (hg:Gl X x) (hm:X.mg x=none) (hv:bootBuiltins x=some (.type T)) (ha:PA X (e :: es) t) (hn:x≠"__name__":=by decide) (hdb:(x == ("__debug__":Str))=false:=by decide)
  (he:starEach (e :: es) X.env=(false,eval e X.env) :: starEach es X.env:=by rfl) (hpl:(backTo pos (starEach es X.env)).any (·.1)=false:=by rfl):PE X (.Call (.Name x p) (e :: es) [] pos) (tCB r t):=by
 intro pins s σ H Q I h
 refine wpAny_Call_Name_kw (zga I hg hm hv ?_ hn hdb)
 exact PyProof.Rows.callWith_type1 (thn (ha pos pins s σ H _ I h) fun us s1 ⟨vs,H1,I1,r1,q1⟩=>hc pins s1 σ H1 vs us Q I1 r1 q1) he hpl
end
end L2
namespace HT
open PySem PyProof.Rows
section
open PySem.SeqAt
open PySem.AutoSeq1 (wpAny_loadPart')
open PySem.MeetsSeq PySem.MeetsSeq2 PySem.MeetsSeq3
end
section
variable {prog:Program}{w:World}{A:Around}{E:Value->Shared->Prop}{s:Shared}
theorem cat_tup {t b:Addr}{vs ws:List Value}{Q:Value->Shared->Prop}(ht:IsTup s.heap t vs.toArray) (hb:IsTup s.heap b ws.toArray) (hv:vs≠[])
  (h1:ws=[]->Q (.ref t) s) (h2:ws≠[]->Q (.ref s.heap.objs.size) { s with heap:=s.heap.push { cls:=.type "tuple",data:=.seq (vs++ws).toArray } })
  (hsz:vs.length+ws.length<=sizeLine):wpAny (model prog w) A (binaryOp .Add (.ref t) (.ref b)) Q E s:=by
 obtain ⟨⟨cls,dd,data,sl⟩,ho,hc,n,hd⟩:=id ht
 obtain ⟨⟨cls2,dd2,data2,sl2⟩,ho2,hc2,n2,hd2⟩:=id hb
 simp only at hc hd hc2 hd2
 subst hc hd hc2 hd2
 have e:vs.toArray++ws.toArray=(vs++ws).toArray:=by simp
 by_cases hw:ws=[]
 ·exact concat_meets ⟨_,ho,rfl⟩ ⟨_,ho2,rfl⟩ noFill_tuple_add seq_tuple_add PySem.F.slot_tuple_add PySem.F.entry_tuple_add (PySem.F.args_tuple_add_2 _ _)
   (tuple_addW1 t b vs.toArray ws.toArray n n2 dd dd2 sl sl2 (by simpa using hv) (by simp [hw])) ⟨ho,ho2,h1 hw⟩
 ·refine concat_meets ⟨_,ho,rfl⟩ ⟨_,ho2,rfl⟩ noFill_tuple_add seq_tuple_add PySem.F.slot_tuple_add PySem.F.entry_tuple_add (PySem.F.args_tuple_add_2 _ _)
   (tuple_addW2 t b vs.toArray ws.toArray n n2 dd dd2 sl sl2 (by simpa using hv) (by simpa using hw) (by rw [List.size_toArray,List.size_toArray];exact hsz)) ⟨ho,ho2,?_⟩
  rw [e]
  exact h2 hw
noncomputable def sIx (n d:Nat):Option Int->Nat
 | none=>d
 | some v=>if v<0 then (v+(n:Int)).toNat else min v.toNat n
theorem sIx_none (n d:Nat):sIx n d none=d:=rfl
theorem sIx_nat (n d k:Nat):sIx n d (some (k:Int))=min k n:=by
 show (if (k:Int)<0 then ((k:Int)+(n:Int)).toNat else min (k:Int).toNat n)=min k n
 rw [if_neg (by omega),Int.toNat_natCast]
theorem zyo (n d:Nat) (hd:d<=n) (o:Option Int):sIx n d o<=n:=by
 cases o with
 | none=>exact hd
 | some v =>
  show (if v<0 then (v+(n:Int)).toNat else min v.toNat n)<=n
  by_cases hv:v<0
  ·rw [if_pos hv];omega
  ·rw [if_neg hv];exact Nat.min_le_right _ _
theorem zo1 (v:Int) (n d:Nat):(if v<0 then max (v+(n:Int)) 0 else min v (n:Int))=((sIx n d (some v):Nat):Int):=by
 show (if v<0 then max (v+(n:Int)) 0 else min v (n:Int))=(((if v<0 then (v+(n:Int)).toNat else min v.toNat n):Nat):Int)
 by_cases hv:v<0
 ·simp only [if_pos hv];omega
 ·simp only [if_neg hv];omega
theorem zyp (lo hi:Option Int) (n:Nat):Builtin.Slice.sliceAdjust lo hi 1 (n:Int)=(((sIx n 0 lo:Nat):Int),((sIx n n hi:Nat):Int)):=by
 have h1:¬((1:Int)<0):=by omega
 unfold Builtin.Slice.sliceAdjust
 simp only [h1,if_false]
 refine Prod.ext ?_ ?_
 ·cases lo with
  | none=>rfl
  | some v=>exact zo1 v n 0
 ·cases hi with
  | none=>rfl
  | some v=>exact zo1 v n n
theorem zyq (i j:Nat):Builtin.Slice.slicePlaces (i:Int) (j:Int) 1=j-i:=by
 unfold Builtin.Slice.slicePlaces
 have h1:(1:Int) > 0:=by omega
 simp only [h1,if_true,Int.ediv_one]
 split <;> omega
theorem zo2 {v:Value}{o:Option Int}{Q:Option Int->Shared->Prop}(p:IsPart v o) (h:Q o s):wpAny (model prog w) A (Builtin.Slice.slicePartIndex v) Q E s:=by
 cases p with
 | none=>exact slicePart_none h
 | int i t=>exact slicePart_int h
theorem zo3 {sl:Addr}{vl vu:Value}{lo hi:Option Int}{n:Nat}{Q:Int × Int × Nat->Shared->Prop}(hs:s.heap.IsSliceOf sl vl vu .none) (pl:IsPart vl lo) (pu:IsPart vu hi)
  (h:Q (((sIx n 0 lo:Nat):Int),1,sIx n n hi-sIx n 0 lo) s):wpAny (model prog w) A (Builtin.Slice.sliceApplied (.ref sl) (pure (n:Int))) Q E s:=by
 obtain ⟨os,hos,hcs,hds⟩:=id hs
 unfold Builtin.Slice.sliceApplied Builtin.Slice.sliceFields
 refine wpAny_bind (wpAny_bind (wpAny_field hos hds (x:=vl) rfl (wpAny_bind (wpAny_field hos hds (x:=vu) rfl (wpAny_bind (wpAny_field hos hds (x:=.none) rfl (wpAny_pure ?_)))))))
 refine wpAny_bind (slicePart_none ?_)
 show wpAny _ _ (if ((1:Int) == 0)=true then _ else _) _ _ s
 rw [if_neg (by decide)]
 refine wpAny_bind (zo2 pl (wpAny_bind (zo2 pu (wpAny_bind (wpAny_pure ?_)))))
 show wpAny _ _ (match Builtin.Slice.sliceAdjust lo hi 1 (n:Int) with|(lo,hi)=>pure (lo,(1:Int),Builtin.Slice.slicePlaces lo hi 1)) _ _ s
 rw [zyp lo hi n]
 show wpAny _ _ (pure (((sIx n 0 lo:Nat):Int),(1:Int),Builtin.Slice.slicePlaces ((sIx n 0 lo:Nat):Int) ((sIx n n hi:Nat):Int) 1)) _ _ s
 rw [zyq]
 exact wpAny_pure h
theorem zyr (xs:Array Value) (i k:Nat):((List.range k).filterMap fun (m:Nat)=>xs[((i:Int)+(m:Int)*1).toNat]?).toArray=((xs.toList.drop i).take k).toArray:=by
 have e:(fun (m:Nat)=>xs[((i:Int)+(m:Int)*1).toNat]?)=fun m=>xs[i+m]?:=by
  funext m
  have:((i:Int)+(m:Int)*1).toNat=i+m:=by omega
  rw [this]
 rw [e]
 have:=pick_run xs i k
 rw [List.filterMap_map] at this
 have e2:((fun x=>xs[x]?) ∘ fun x=>i+x)=fun m=>xs[i+m]?:=rfl
 rw [e2] at this
 rw [this]
theorem getItem_tuple_cut {t sl:Addr}{items:Array Value}{vl vu:Value}{lo hi:Option Int}{Q:Value->Shared->Prop}(ht:IsTup s.heap t items) (hs:s.heap.IsSliceOf sl vl vu .none) (pl:IsPart vl lo) (pu:IsPart vu hi)
  (hw:¬(sIx items.size 0 lo=0/\sIx items.size items.size hi=items.size))
  (h:Q (.ref s.heap.objs.size) { s with heap:=s.heap.push { cls:=.type "tuple",data:=.seq ((items.toList.drop (sIx items.size 0 lo)).take (sIx items.size items.size hi-sIx items.size 0 lo)).toArray } })
  (hsz:items.size<=sizeLine):wpAny (model prog w) A (getItem (.ref t) (.ref sl)) Q E s:=by
 have htake:sizeOk (.seq ((items.toList.drop (sIx items.size 0 lo)).take (sIx items.size items.size hi-sIx items.size 0 lo)).toArray):=by
  show ((items.toList.drop (sIx items.size 0 lo)).take (sIx items.size items.size hi-sIx items.size 0 lo)).toArray.size<=sizeLine
  rw [List.size_toArray,List.length_take,List.length_drop,Array.length_toList]
  omega
 have hj:sIx items.size items.size hi<=items.size:=zyo _ _ (qlr _) hi
 obtain ⟨os,hos,hcs,hds⟩:=id hs
 have hTs:s.TypeIs (.ref sl) "slice":=⟨os,hos,hcs⟩
 unfold getItem
 try with_reducible refine wpAny_holding ?_
 first|refine wpAny_bind (wpAny_pure ?_)|skip
 refine wpAny_bind (wpAny_sequenceKey ht.typeIs (by decide) ?_)
 refine wpAny_bind (wpAny_callSpecial?_slot (name:=Str.ofString "__getitem__") ht.typeIs PyProof.Rows.slot_tuple_getitem
  (wpAny_call_entry PyProof.Rows.slot_tuple_getitem ht.typeIs entry_tuple_getitem ?_ (args_tuple_getitem _ _)))
 show wpAny _ _ (Builtin.Tuple.tupleItemsOf (.ref t) >>= _) _ _ s
 refine wpAny_bind (tupleItemsOf_ ht ?_)
 refine wpAny_bind (wpAny_typeOf hTs ?_)
 rw [if_pos (by decide)]
 refine wpAny_bind (zo3 hs pl pu ?_)
 have hno:¬((((sIx items.size 0 lo:Nat):Int) == 0 && (1:Int) == 1 && (sIx items.size items.size hi-sIx items.size 0 lo) == items.size)=true):=by
  intro q
  rw [Bool.and_eq_true,Bool.and_eq_true] at q
  have q1:((sIx items.size 0 lo:Nat):Int)=0:=eq_of_beq q.1.1
  have q2:sIx items.size items.size hi-sIx items.size 0 lo=items.size:=eq_of_beq q.2
  exact hw ⟨by omega,by omega⟩
 show wpAny _ _ (if (((sIx items.size 0 lo:Nat):Int) == 0 && (1:Int) == 1 && (sIx items.size items.size hi-sIx items.size 0 lo) == items.size)=true then _ else _) _ _ s
 rw [if_neg hno,zyr]
 first
  | exact wpAny_bind (m:=Builtin.Tuple.tupleExact _) (wpAny_newObj_type (wpAny_pure ⟨_,rfl,wpAny_pure h⟩) htake)
  | exact wpAny_bind (m:=Builtin.Tuple.tupleExact _) (wpAny_newObj_type (wpAny_bind (wpAny_pure (wpAny_pure ⟨_,rfl,wpAny_pure h⟩))) htake)
  | exact wpAny_bind (wpAny_bind (m:=Builtin.Tuple.tupleExact _) (wpAny_newObj_type (wpAny_pure (wpAny_pure ⟨_,rfl,wpAny_pure h⟩)) htake))
  | exact wpAny_bind (wpAny_bind (m:=Builtin.Tuple.tupleExact _) (wpAny_newObj_type (wpAny_pure ⟨_,rfl,wpAny_pure h⟩) htake))
end
end HT
namespace L2
open PySem PySem.Spec PyProof.Rows
noncomputable abbrev TO:=St->Hp->(Option Int->Hp->Prop)->Prop
noncomputable def PO (X:Cx) (e:Option Expr) (t:TO):Prop :=
 ∀(pins:List (Addr × Obj)) (s:Shared) (σ:St) (H:Hp) (Q:Option Int->Hp->Prop),Inv X pins σ H s->t σ H Q ->
  wpAny (model X.prog X.w) X.A (evalPart e X.env) (fun u s'=>∃o H',Inv X pins σ H' s'/\IsPart u o/\Q o H') X.xe s
noncomputable def zys:TO:=fun _ H Q=>Q none H
noncomputable def zyt (t:TE):TO:=fun σ H Q=>t σ H fun x H1=>∃i,x=.int i/\Q (some i) H1
section
variable {X:Cx}{e:Expr}{te:TE}{lo hi:Option Expr}{tl th:TO}{pos p2:Pos}
theorem zyu:PO X none zys:=by
 intro pins s σ H Q I h
 rw [evalPart_none]
 exact wpAny_pure ⟨none,H,I,.none,h⟩
theorem zyv (h:PE X e te):PO X (some e) (zyt te):=by
 intro pins s σ H Q I hw
 rw [evalPart_some]
 refine thn (h pins s σ H _ I hw) fun u s1 ⟨x,H1,I1,r1,q1⟩=>?_
 obtain ⟨i,rfl,q⟩:=q1
 obtain ⟨t,rfl⟩:=r1
 exact ⟨some i,H1,I1,.int i t,q⟩
noncomputable def SlR (X:Cx) (r:V->Option Int->Option Int->Hp->VK->Prop):Prop :=
 ∀(pins:List (Addr × Obj)) (s:Shared) (σ:St) (H:Hp) (x:V) (v vl vu:Value) (lo hi:Option Int) (sl:Addr) (Q:VK),Inv X pins σ H s->RelV x v->s.heap.IsSliceOf sl vl vu .none->IsPart vl lo->IsPart vu hi->r x lo hi H Q ->
  ∃T id,typeLookup (.type T) "__getitem__" = pure (some (.builtin id))/\s.TypeIs v T/\wpAny (model X.prog X.w) X.A (getItem v (.ref sl)) (EP X pins σ Q) X.xe s
theorem SlR.or {r r':V->Option Int->Option Int->Hp->VK->Prop}(h:SlR X r) (h':SlR X r'):SlR X (fun x lo hi H Q=>r x lo hi H Q∨r' x lo hi H Q):=by
 intro pins s σ H x v vl vu lo hi sl Q I rx hs pl pu q
 rcases q with q|q
 ·exact h pins s σ H x v vl vu lo hi sl Q I rx hs pl pu q
 ·exact h' pins s σ H x v vl vu lo hi sl Q I rx hs pl pu q
noncomputable def tSl (r:V->Option Int->Option Int->Hp->VK->Prop) (te:TE) (tl th:TO):TE:=fun σ H Q=>te σ H fun x H1=>tl σ H1 fun l H2=>th σ H2 fun u H3=>r x l u H3 Q
theorem zyw {r:V->Option Int->Option Int->Hp->VK->Prop}(hr:SlR X r) (he:PE X e te) (hl:PO X lo tl) (hu:PO X hi th):PE X (.Subscript e (.Slice lo hi none p2) pos) (tSl r te tl th):=by
 intro pins s σ H Q I h
 refine Subscript_ (thn (he pins s σ H _ I h) fun v s1 ⟨x,H1,I1,r1,q1⟩=>?_)
 refine wpAny_Slice (thn (hl pins s1 σ H1 _ I1 q1) fun vl s2 ⟨l,H2,I2,pl,q2⟩=>thn (hu pins s2 σ H2 _ I2 q2) fun vu s3 ⟨u,H3,I3,pu,q3⟩=>?_)
 rw [evalPart_none]
 refine wpAny_pure ?_
 have I4:Inv X pins σ H3 { s3 with heap:=s3.heap.push { cls:=.type "slice",data:=.fields #[vl,vu,.none] } }:=I3.kept (t':=s3.toks) fun b ob q=>qps _ q
 obtain ⟨T,id,hT,ht,hg⟩:=hr pins { s3 with heap:=s3.heap.push { cls:=.type "slice",data:=.fields #[vl,vu,.none] } } σ H3 x v vl vu l u s3.heap.objs.size Q I4 r1 (Heap.IsSliceOf.new ..) pl pu q3
 show wpAny (model X.prog X.w) X.A (subscriptTail e (.Slice lo hi none p2) v (.ref s3.heap.objs.size)) (EP X pins σ Q) X.xe { s3 with heap:=s3.heap.push { cls:=.type "slice",data:=.fields #[vl,vu,.none] } }
 exact tail_any (ops:=[.ref s3.heap.objs.size,v]) ht hT hg (by with_unfolding_all rfl)
noncomputable def zfc (xs:List V) (lo hi:Option Int):List V:=(xs.drop (HT.sIx xs.length 0 lo)).take (HT.sIx xs.length xs.length hi-HT.sIx xs.length 0 lo)
theorem zo4 (xs:List V) (lo hi:Option Int):(zfc xs lo hi).length<=xs.length:=by
 unfold zfc
 rw [List.length_take,List.length_drop]
 omega
noncomputable def zyx (K:QFg):V->Option Int->Option Int->Hp->VK->Prop:=fun x lo hi H Q=>∃a xs,x=.ref a/\SqT K H a xs /\
 ¬(HT.sIx xs.length 0 lo=0/\HT.sIx xs.length xs.length hi=xs.length)/\∀p,H p=none->Q (.ref p) (upd H p (.tup (zfc xs lo hi)))
theorem sl_tup:SlR X (zyx X.K):=by
 intro pins s σ H x v vl vu lo hi sl Q I rx hs pl pu h
 obtain ⟨a,xs,rfl,hx,hw,q⟩:=h
 cases rx
 obtain ⟨its,r,ht,hz⟩:=I.tuple hx
 have hlen:its.toArray.size=xs.length:=by rw [List.size_toArray];exact r.length.symm
 refine ⟨"tuple",_,PyProof.Rows.slot_tuple_getitem.lookup,ht.typeIs,?_⟩
 refine HT.getItem_tuple_cut ht hs pl pu (by rw [hlen];exact hw) ?_ (by rw [hlen];exact hz)
 rw [hlen]
 refine ⟨.ref s.heap.objs.size,_,I.laid (t':=s.toks) (o:=.tup (zfc xs lo hi)) (fun b ob q=>qps _ q) (qlr _) ?_,rfl,q _ (I.hok.fresh (qlr _))⟩
 exact ⟨Nat.le_trans (zo4 xs lo hi) hz,_,(r.drop (HT.sIx xs.length 0 lo)).take (HT.sIx xs.length xs.length hi-HT.sIx xs.length 0 lo),IsTD.new _ _⟩
noncomputable def zl9 (K:QFg):R2:=fun x y H Q=>∃a b xs ys,x=.ref a/\y=.ref b/\SqT K H a xs/\SqT K H b ys/\xs≠[]/\xs.length+ys.length<=sizeLine /\
 (ys=[]->Q (.ref a) H)/\(ys≠[]->∀p,H p=none->Q (.ref p) (upd H p (.tup (xs++ys))))
theorem Vals.nil_iff {xs:List V}{us:List Value}(r:Vals xs us):us=[]↔xs=[]:=by
 cases r with
 | nil=>simp
 | cons _ _=>simp
theorem op_catT:OpR X (binaryOp .Add) (zl9 X.K):=by
 intro pins s σ H x y v u Q I rx ry h
 obtain ⟨a,b,xs,ys,rfl,rfl,ha,hb,hx,hz,q1,q2⟩:=h
 cases rx
 cases ry
 obtain ⟨its,r1,p1,_⟩:=I.tuple ha
 obtain ⟨its2,r2,p2,_⟩:=I.tuple hb
 refine HT.cat_tup p1 p2 (fun z=>hx (r1.nil_iff.mp z)) (fun z=>⟨.ref a,H,I,rfl,q1 (r2.nil_iff.mp z)⟩) (fun z=>?_) (by rw [←r1.length,←r2.length];exact hz)
 refine ⟨.ref s.heap.objs.size,_,I.laid (t':=s.toks) (o:=.tup (xs++ys)) (fun b ob q=>qps _ q) (qlr _) ?_,rfl,q2 (fun w=>z (r2.nil_iff.mpr w)) _ (I.hok.fresh (qlr _))⟩
 exact ⟨by rw [qla];exact hz,_,r1.append r2,IsTD.new _ _⟩
end
noncomputable def ixN (n:Nat) (i:Int):Option Nat:=if 0<=i then (if i<n then some i.toNat else none) else if -(n:Int)<=i then some (i+n).toNat else none
noncomputable def atI {α:Type}(xs:List α) (i:Int):Option α:=(ixN xs.length i).bind fun j=>xs[j]?
theorem zyy {n:Nat}{i:Int}{j:Nat}(h:ixN n i=some j):seqIndex? i n=some j/\j<n/\-(n:Int)<=i/\i<n:=by
 unfold ixN at h
 by_cases h0:0<=i
 ·rw [if_pos h0] at h
  by_cases h1:i<n
  ·rw [if_pos h1] at h
   have e:i.toNat=j:=qoi h
   exact ⟨by rw [seqIndex_of h0 h1,e],by omega,by omega,h1⟩
  ·rw [if_neg h1] at h;cases h
 ·rw [if_neg h0] at h
  by_cases h1:-(n:Int)<=i
  ·rw [if_pos h1] at h
   have e:(i+n).toNat=j:=qoi h
   exact ⟨by rw [seqIndex_neg (by omega) h1,e],by omega,h1,by omega⟩
  ·rw [if_neg h1] at h;cases h
theorem atI_get {α:Type}{xs:List α}{i:Int}{v:α}(h:atI xs i=some v):∃j,seqIndex? i xs.length=some j/\xs[j]? = some v/\j<xs.length/\-(xs.length:Int)<=i/\i<xs.length:=by
 unfold atI at h
 cases e:ixN xs.length i with
 | none=>rw [e] at h;cases h
 | some j =>
  rw [e] at h
  obtain ⟨h1,h2,h3,h4⟩:=zyy e
  exact ⟨j,h1,h,h2,h3,h4⟩
noncomputable def zo5 (b:Expr):Prop:=∀o i,subscripted b false o i=operate [o,i] (getItem o i)
noncomputable def IxR (X:Cx) (r:R2):Prop :=
 ∀(value slice:Expr) (pins:List (Addr × Obj)) (s:Shared) (σ:St) (H:Hp) (x y:V) (v u:Value) (Q:VK),Inv X pins σ H s->RelV x v->RelV y u->r x y H Q ->
  subscripted slice false v u=operate [v,u] (getItem v u)->wpAny (model X.prog X.w) X.A (subscriptTail value slice v u) (EP X pins σ Q) X.xe s
noncomputable def MtR (X:Cx) (id:String) (r:V->List V->Hp->VK->Prop):Prop :=
 ∀(pins:List (Addr × Obj)) (s:Shared) (σ:St) (H:Hp) (x:V) (xs:List V) (v:Value) (us:List Value) (Q:VK),Inv X pins σ H s->RelV x v->Vals xs us->r x xs H Q ->
  wpAny (model X.prog X.w) X.A (call (.builtin id) (v :: us)) (EP X pins σ Q) X.xe s
section
variable {X:Cx}{a b:Expr}{ta tb:TE}{pos:Pos}
theorem IxR.or {r r':R2}(h:IxR X r) (h':IxR X r'):IxR X (fun x y H Q=>r x y H Q∨r' x y H Q):=by
 intro value slice pins s σ H x y v u Q I rx ry q hs
 rcases q with q|q
 ·exact h value slice pins s σ H x y v u Q I rx ry q hs
 ·exact h' value slice pins s σ H x y v u Q I rx ry q hs
theorem zyz {r:R2}(hr:IxR X r) (ha:PE X a ta) (hb:PE X b tb) (hs:zo5 b):PE X (.Subscript a b pos) (tOp r ta tb):=by
 intro pins s σ H Q I h
 exact Subscript_ (zl3 ha hb I h fun v u s2 x y H2 I2 rx ry q=>hr a b pins s2 σ H2 x y v u Q I2 rx ry q (hs _ _))
noncomputable def zo6 (K:QFg):R2:=fun x y H Q=>∃p xs i v,x=.ref p/\y=.int i/\SqL K H p xs/\atI xs i=some v/\Q v H
noncomputable def zo7 (K:QFg):R2:=fun x y H Q=>∃p xs i v,x=.ref p/\y=.int i/\SqT K H p xs/\atI xs i=some v/\Q v H
noncomputable def zma:R2:=fun x y H Q=>∃z i c,x=.str z/\y=.int i/\z.length<=sizeLine/\atI z.cps.toList i=some c/\Q (.str ⟨#[c]⟩) H
theorem ix_list:IxR X (zo6 X.K):=by
 intro value slice pins s σ H x y v u Q I rx ry h hs
 obtain ⟨p,xs,i,z,rfl,rfl,hq,he,q⟩:=h
 cases rx
 obtain ⟨t,rfl⟩:=ry
 obtain ⟨its,r,pl,hz⟩:=I.list hq
 obtain ⟨j,h1,h2,h3,h4,h5⟩:=atI_get he
 obtain ⟨w,ew,rw'⟩:=r.get h2
 have hl:=r.length
 have hn:=zim
 have fin:EP X pins σ Q w s:=⟨z,H,I,rw',q⟩
 by_cases h0:0<=i
 ·have hj:i.toNat=j:=by
   rw [seqIndex_of h0 h5] at h1
   exact qoi h1
  exact item_listR pl.isList h0 (by omega) (by rw [hj];simpa using ew) fin hs
 ·have hj:(i+(its.toArray.size:Int)).toNat=j:=by
   rw [seqIndex_neg (by omega) h4] at h1
   rw [List.size_toArray,←hl]
   exact qoi h1
  exact subscriptTail_builtinR (x:=w) pl.isList.typeIs slot_list_getitem.lookup
   (wpAny_getItem_list_neg (Q:=fun r s'=>r=w/\EP X pins σ Q r s') pl.isList (by omega) (by rw [List.size_toArray] <;> omega) (by omega) (by rw [hj];simpa using ew) ⟨rfl,fin⟩) hs
theorem ix_tup:IxR X (zo7 X.K):=by
 intro value slice pins s σ H x y v u Q I rx ry h hs
 obtain ⟨p,xs,i,z,rfl,rfl,hq,he,q⟩:=h
 cases rx
 obtain ⟨t,rfl⟩:=ry
 obtain ⟨its,r,pl,hz⟩:=I.tuple hq
 obtain ⟨j,h1,h2,h3,h4,h5⟩:=atI_get he
 obtain ⟨w,ew,rw'⟩:=r.get h2
 have hl:=r.length
 have hn:=zim
 have fin:EP X pins σ Q w s:=⟨z,H,I,rw',q⟩
 exact subscriptTail_builtinR (x:=w) pl.typeIs slot_tuple_getitem.lookup
  (getItem_tuple (j:=j) (Q:=fun r s'=>r=w/\EP X pins σ Q r s') pl (by omega) (by omega) (by rw [List.size_toArray,←hl];exact h1) (by simpa using ew) ⟨rfl,fin⟩) hs
theorem zy0:IxR X zma:=by
 intro value slice pins s σ H x y v u Q I rx ry h hs
 obtain ⟨z,i,c,rfl,rfl,hz,he,q⟩:=h
 obtain ⟨t,rfl⟩:=rx
 obtain ⟨t',rfl⟩:=ry
 obtain ⟨j,h1,h2,h3,h4,h5⟩:=atI_get he
 have hl:z.cps.toList.length=z.length:=by simp [Str.length]
 rw [hl] at h1 h4 h5
 have hn:=zim
 exact tail_any (typeIs_str s z t) slot_str_getitem.lookup (getItem_str (c:=c) (by
  have e1:decide (i < -(2 ^ 63:Int))=false:=decide_eq_false (by omega)
  have e2:decide (i ≥ 2 ^ 63)=false:=decide_eq_false (by omega)
  rw [e1,e2,Bool.or_false]) (by rw [h1];simpa using h2) ⟨.str ⟨#[c]⟩,H,I.tok _,⟨_,rfl⟩,q⟩) hs
noncomputable def rIx (K:QFg):R2:=fun x y H Q=>zo6 K x y H Q∨zo7 K x y H Q∨zma x y H Q
theorem zy1:IxR X (rIx X.K):=ix_list.or (ix_tup.or zy0)
theorem zy2 (lo hi:Option Int) (n:Nat):(sliceBounds lo hi none n).1=((HT.sIx n 0 lo:Nat):Int)/\(sliceBounds lo hi none n).2.1=((HT.sIx n n hi:Nat):Int)/\(sliceBounds lo hi none n).2.2=1:=by
 refine ⟨?_,?_,rfl⟩
 ·cases lo with
  | none=>simp [sliceBounds,HT.sIx]
  | some i =>
   simp only [sliceBounds,HT.sIx,Option.getD_none,show (1:Int) > 0 by decide,if_true]
   by_cases h:i<0
   ·simp only [h,if_true] <;> omega
   ·simp only [h,if_false] <;> omega
 ·cases hi with
  | none=>simp [sliceBounds,HT.sIx]
  | some i =>
   simp only [sliceBounds,HT.sIx,Option.getD_none,show (1:Int) > 0 by decide,if_true]
   by_cases h:i<0
   ·simp only [h,if_true] <;> omega
   ·simp only [h,if_false] <;> omega
theorem zy3 (its:List Value) (lo hi:Option Int):slicePick its.toArray lo hi none=((its.drop (HT.sIx its.length 0 lo)).take (HT.sIx its.length its.length hi-HT.sIx its.length 0 lo)).toArray:=by
 obtain ⟨h1,h2,h3⟩:=zy2 lo hi its.toArray.size
 unfold slicePick
 rw [h1,h2,h3]
 simp only [sliceRange_one,pick_run,List.size_toArray] <;> rfl
noncomputable def zy4 (K:QFg):V->Option Int->Option Int->Hp->VK->Prop:=fun x lo hi H Q=>∃a xs,x=.ref a/\SqL K H a xs/\∀p,H p=none->Q (.ref p) (upd H p (.lst (zfc xs lo hi)))
theorem zy5:SlR X (zy4 X.K):=by
 intro pins s σ H x v vl vu lo hi sl Q I rx hs pl pu h
 obtain ⟨a,xs,rfl,hx,q⟩:=h
 cases rx
 obtain ⟨its,r,ht,hz⟩:=I.list hx
 have hlen:=r.length
 refine ⟨"list",_,slot_list_getitem.lookup,ht.isList.typeIs,?_⟩
 refine wpAny_getItem_list_slice ht.isList hs pl pu .none (by simp) ?_ (by rw [List.size_toArray] <;> omega)
 rw [zy3,←hlen]
 refine ⟨.ref s.heap.objs.size,_,I.laid (t':=s.toks) (o:=.lst (zfc xs lo hi)) (fun b ob q=>qps _ q) (qlr _) ?_,rfl,q _ (I.hok.fresh (qlr _))⟩
 exact ⟨Nat.le_trans (zo4 xs lo hi) hz,_,0,(r.drop (HT.sIx xs.length 0 lo)).take (HT.sIx xs.length xs.length hi-HT.sIx xs.length 0 lo),Heap.get?_push_size _ rfl⟩
noncomputable def zfd:V->Bool
 | .non=>true
 | .bl _=>true
 | .int _=>true
 | .str _=>true
 | _=>false
noncomputable def eqV:V->V->Bool
 | .non,.non=>true
 | .bl a,.bl b=>a == b
 | .bl a,.int b=>(if a then 1 else 0) == b
 | .int a,.bl b=>a == (if b then 1 else 0)
 | .int a,.int b=>a == b
 | .str a,.str b=>a == b
 | _,_=>false
theorem zy6 {A:Around}{s:Shared}{y x:V}{u v:Value}(ry:RelV y u) (rx:RelV x v) (fy:zfd y=true) (fx:zfd x=true):SeqAt.EqAt A s u v (eqV y x):=by
 cases y with
 | non =>
  cases ry
  cases x with
  | non=>cases rx;exact SeqAt.EqAt.same _
  | bl b=>cases rx;exact SeqAt.EqAt.none_bool b
  | int b=>obtain ⟨t,rfl⟩:=rx;exact SeqAt.EqAt.none_int b t
  | str b=>obtain ⟨t,rfl⟩:=rx;exact SeqAt.EqAt.none_str b t
  | _=>exact absurd (show false=true from fx) Bool.false_ne_true
 | bl a =>
  cases ry
  cases x with
  | non=>cases rx;exact SeqAt.EqAt.bool_none a
  | bl b=>cases rx;exact SeqAt.EqAt.bool_bool a b
  | int b=>obtain ⟨t,rfl⟩:=rx;exact SeqAt.EqAt.bool_int a b t
  | str b=>obtain ⟨t,rfl⟩:=rx;exact SeqAt.EqAt.bool_str a b t
  | _=>exact absurd (show false=true from fx) Bool.false_ne_true
 | int a =>
  obtain ⟨t',rfl⟩:=ry
  cases x with
  | non=>cases rx;exact SeqAt.EqAt.int_none a t'
  | bl b=>cases rx;exact SeqAt.EqAt.int_bool a t' b
  | int b=>obtain ⟨t,rfl⟩:=rx;exact SeqAt.EqAt.int_int a t' b t
  | str b=>obtain ⟨t,rfl⟩:=rx;exact SeqAt.EqAt.int_str a t' b t
  | _=>exact absurd (show false=true from fx) Bool.false_ne_true
 | str a =>
  obtain ⟨t',rfl⟩:=ry
  cases x with
  | non=>cases rx;exact SeqAt.EqAt.str_none a t'
  | bl b=>cases rx;exact SeqAt.EqAt.str_bool a t' b
  | int b=>obtain ⟨t,rfl⟩:=rx;exact SeqAt.EqAt.str_int a t' b t
  | str b=>obtain ⟨t,rfl⟩:=rx;exact SeqAt.EqAt.str_str a t' b t
  | _=>exact absurd (show false=true from fx) Bool.false_ne_true
 | _=>exact absurd (show false=true from fy) Bool.false_ne_true
noncomputable def eqU (x:V) (u:Value):Bool:=match u with
 | .none=>eqV .non x
 | .bool b=>eqV (.bl b) x
 | .int i _=>eqV (.int i) x
 | .str z _=>eqV (.str z) x
 | _=>false
theorem zo8 {x y:V}{u:Value}(r:RelV y u) (f:zfd y=true):eqU x u=eqV y x:=by
 cases y with
 | non=>cases r;rfl
 | bl b=>cases r;rfl
 | int i=>obtain ⟨t,rfl⟩:=r;rfl
 | str z=>obtain ⟨t,rfl⟩:=r;rfl
 | _=>exact absurd (show false=true from f) Bool.false_ne_true
theorem zmb {x:V}:∀{xs:List V}{us:List Value},Vals xs us->xs.all zfd=true->us.any (eqU x)=xs.any fun y=>eqV y x
 | _,_,.nil,_=>rfl
 | y :: xs,u :: us,.cons r t,f=>by
  rw [List.all_cons,Bool.and_eq_true] at f
  rw [List.any_cons,List.any_cons,zo8 r f.1,zmb t f.2]
theorem zmc {A:Around}{s:Shared}{x:V}{v:Value}(rx:RelV x v) (fx:zfd x=true):∀{xs:List V}{us:List Value},Vals xs us->xs.all zfd=true->∀u∈us,SeqAt.EqAt A s u v (eqU x u)
 | _,_,.nil,_=>fun u hu=>by cases hu
 | y :: xs,u :: us,.cons r t,f=>fun u' hu=>by
  rw [List.all_cons,Bool.and_eq_true] at f
  rcases List.mem_cons.mp hu with rfl|hu
  ·rw [zo8 r f.1];exact zy6 r rx f.1 fx
  ·exact zmc rx fx t f.2 u' hu
noncomputable def inV (x:V) (xs:List V):Bool:=xs.any fun y=>eqV y x
noncomputable def rIn (K:QFg) (neg:Bool):R2:=fun x y H Q=>∃p xs,y=.ref p/\(SqL K H p xs∨SqT K H p xs)/\zfd x=true/\xs.all zfd=true/\Q (.bl (if neg then !inV x xs else inV x xs)) H
theorem zy7:OpR X (compareOp .In) (rIn X.K false):=by
 intro pins s σ H x y v u Q I rx ry h
 obtain ⟨p,xs,rfl,hq,fx,fs,q⟩:=h
 cases ry
 rcases hq with hq|hq
 ·obtain ⟨its,r,pl,hz⟩:=I.list hq
  refine SeqAt.in_listAt (eqU x) pl.isList (fun w hw=>zmc rx fx r fs w (by simpa using hw)) ⟨.bl _,H,I,rfl,?_⟩
  rw [show its.toArray.any (eqU x)=its.any (eqU x) by simp,zmb r fs]
  exact q
 ·obtain ⟨its,r,pl,hz⟩:=I.tuple hq
  refine SeqAt.in_tupleAt (eqU x) pl (fun w hw=>zmc rx fx r fs w (by simpa using hw)) ⟨.bl _,H,I,rfl,?_⟩
  rw [show its.toArray.any (eqU x)=its.any (eqU x) by simp,zmb r fs]
  exact q
theorem call_len_seq:CallR X (.builtin "len") (fun xs H Q=>∃p ys,xs=[.ref p]/\(SqL X.K H p ys∨SqT X.K H p ys)/\Q (.int ys.length) H):=by
 intro pins s σ H xs us Q I r h
 obtain ⟨p,ys,rfl,hq,q⟩:=h
 obtain ⟨u,rfl,rx⟩:=zef r
 cases rx
 have hn:=zim
 rcases hq with hq|hq
 ·obtain ⟨its,r',pl,hz⟩:=I.list hq
  have hlen:=r'.length
  exact Calls.call_len_list pl.isList (by simp only [List.size_toArray] <;> omega) ⟨.int ys.length,H,I.tok _,⟨s.toks+1,by rw [List.size_toArray,hlen]⟩,q⟩
 ·obtain ⟨its,r',pl,hz⟩:=I.tuple hq
  have hlen:=r'.length
  exact len_tuple pl (by simp only [List.size_toArray] <;> omega) ⟨.int ys.length,H,I.tok _,⟨s.toks+1,by rw [List.size_toArray,hlen]⟩,q⟩
theorem zy8:CallR X (.builtin "len") (fun xs H Q=>∃z,xs=[.str z]/\z.length<=sizeLine/\Q (.int z.length) H):=by
 intro pins s σ H xs us Q I r h
 obtain ⟨z,rfl,hz,q⟩:=h
 obtain ⟨u,rfl,t,rfl⟩:=zef r
 have hn:=zim
 exact len_str (by omega) ⟨.int z.length,H,I.tok _,⟨_,rfl⟩,q⟩
theorem CallR.or {f:Value}{r r':List V->Hp->VK->Prop}(h:CallR X f r) (h':CallR X f r'):CallR X f (fun xs H Q=>r xs H Q∨r' xs H Q):=by
 intro pins s σ H xs us Q I rs q
 rcases q with q|q
 ·exact h pins s σ H xs us Q I rs q
 ·exact h' pins s σ H xs us Q I rs q
theorem zy9:CallR X (.type "tuple") (fun xs H Q=>∃p ys,xs=[.ref p]/\((SqL X.K H p ys/\∀l,H l=none->Q (.ref l) (upd H l (.tup ys)))∨(SqT X.K H p ys/\Q (.ref p) H))):=by
 intro pins s σ H xs us Q I r h
 obtain ⟨p,ys,rfl,h⟩:=h
 obtain ⟨u,rfl,rx⟩:=zef r
 cases rx
 rcases h with ⟨hq,q⟩|⟨hq,q⟩
 ·obtain ⟨its,r',pl,hz⟩:=I.list hq
  have hlen:=r'.length
  refine call_tuple_list pl.isList (fun h' kp=>?_) (by simp only [List.size_toArray] <;> omega)
  have I1:Inv X pins σ H { s with heap:=h' }:=I.kept (t':=s.toks) kp
  have I2:Inv X pins σ (upd H h'.objs.size (.tup ys)) { s with heap:=h'.push { cls:=.type "tuple",data:=.seq its.toArray } } :=
   I1.laid (t':=s.toks) (fun b o e=>qps _ e) (qlr _) (show ObjOk X.prog X.w _ _ _ (.tup ys) from ⟨hz,its,r',IsTD.new _ _⟩)
  exact ⟨.ref h'.objs.size,_,I2,rfl,q _ (I1.hok.fresh (qlr _))⟩
 ·obtain ⟨its,r',pl,hz⟩:=I.tuple hq
  exact call_tuple_same pl ⟨.ref p,H,I,rfl,q⟩
noncomputable def tyV (K:QFg) (T:String) (x:V) (H:Hp):Prop:=match x with
 | .str _=>T = "str"
 | .int _=>T = "int"
 | .ref p=>(T = "list"/\∃xs,SqL K H p xs)∨(T = "tuple"/\∃o,K.lookup p=some o/\o.cls=.type "tuple"/\o.dict=none) ∨
   (T = "dict"/\((∃kvs,H p=some (.dK kvs))∨∃kvs,H p=some (.dT kvs)))∨(T = "set"/\∃S n,H p=some (.set S n))
 | _=>False
theorem zo9 {pins:List (Addr × Obj)}{σ:St}{H:Hp}{s:Shared}{T:String}{x:V}{v:Value}(I:Inv X pins σ H s) (r:RelV x v) (ty:tyV X.K T x H) :
  s.TypeIs v T/\∀a,v=.ref a->∃ob,s.heap.get? a=some ob/\ob.dict=none:=by
 cases x with
 | str z =>
  obtain ⟨t,rfl⟩:=r
  cases (show T = "str" from ty)
  exact ⟨typeIs_str s z t,fun _ e=>nomatch e⟩
 | int i =>
  obtain ⟨t,rfl⟩:=r
  cases (show T = "int" from ty)
  exact ⟨typeIs_int s i t,fun _ e=>nomatch e⟩
 | ref p =>
  cases r
  rcases ty with ⟨rfl,xs,hq⟩|⟨rfl,o,hk,hc,hd⟩|⟨rfl,hk⟩|⟨rfl,S,n,hk⟩
  ·obtain ⟨its,_,pl,_⟩:=I.list hq
   refine ⟨pl.isList.typeIs,fun a e=>?_⟩
   cases e
   obtain ⟨o,n,e,c,hd,_⟩:=pl
   exact ⟨o,e,hd⟩
  ·refine ⟨⟨o,I.kIn p o hk,hc⟩,fun a e=>?_⟩
   cases e
   exact ⟨o,I.kIn _ o hk,hd⟩
  ·have z:∃o,s.heap.get? p=some o/\o.ExactDict:=by
    rcases hk with ⟨kvs,hk⟩|⟨kvs,hk⟩
    ·obtain ⟨_,_,_,_,o,_,_,e,ex,_⟩:=I.hok p _ hk
     exact ⟨o,e,ex⟩
    ·obtain ⟨_,_,_,_,o,_,_,e,ex,_⟩:=I.hok p _ hk
     exact ⟨o,e,ex⟩
   obtain ⟨o,e,ex⟩:=z
   refine ⟨⟨o,e,ex.1⟩,fun a e2=>?_⟩
   cases e2
   exact ⟨o,e,ex.2.1⟩
  ·obtain ⟨o,_,_,_,e,ex,_⟩:=I.hok p _ hk
   refine ⟨⟨o,e,ex.1⟩,fun a e2=>?_⟩
   cases e2
   exact ⟨o,e,ex.2.1⟩
 | _=>exact False.elim ty
noncomputable def zza (K:QFg) (T:String) (r:V->List V->Hp->VK->Prop) (to:TE):TE:=fun σ H Q=>to σ H fun x H1=>tyV K T x H1/\r x [] H1 Q
noncomputable def tBM (K:QFg) (T:String) (r:V->List V->Hp->VK->Prop) (to:TE) (t:TA):TE:=fun σ H Q=>to σ H fun x H1=>tyV K T x H1/\t σ H1 fun xs H2=>r x xs H2 Q
variable {o e:Expr}{es:List Expr}{to:TE}{t:TA}{name:Str}{apos cpos:Pos}{T id:String}{r:V->List V->Hp->VK->Prop}
theorem zzb (pa:PlainAttrs T) (slot:Slot T name id) (hty:typeOf (.builtin id)=pure (.type "method_descriptor")) (hm:MtR X id r) (ho:PE X o to)
  (hbase:attributeBase o name X.env (eval o X.env)=eval o X.env:=by rfl) (hline:(apos.endLine == cpos.line)=true:=by rfl):PE X (.Call (.Attribute o name apos) [] [] cpos) (zza X.K T r to):=by
 intro pins s σ H Q I h
 refine wpAny_Call_method0_late hbase hline (thn (ho pins s σ H _ I h) fun v s1 ⟨x,H1,I1,r1,ty,q1⟩=>?_)
 obtain ⟨h1,h2⟩:=zo9 I1 r1 ty
 exact ⟨T,id,pa,slot,hty,h1,h2,Calls.callWith_builtin rfl (PySem.evalArgs_none (hm pins s1 σ H1 x [] v [] Q I1 r1 .nil q1))⟩
theorem zpa (pa:PlainAttrs T) (slot:Slot T name id) (hty:typeOf (.builtin id)=pure (.type "method_descriptor")) (hm:MtR X id r) (ho:PE X o to) (ha:PA X (e :: es) t)
  (hbase:attributeBase o name X.env (eval o X.env)=eval o X.env:=by rfl)
  (hfew:((backTo cpos (starEach (e :: es) X.env)).all (fun x=>!x.1) && (backToKw cpos (keywordEach [] X.env)).all (fun x=>x.1.isSome)
   && decide ((e :: es).length+([]:List Keyword).length+(if ([]:List Keyword).isEmpty then 0 else 1)<30))=true:=by rfl)
  (hline:(apos.endLine == cpos.line)=true:=by rfl) (hs:starEach (e :: es) X.env=(false,eval e X.env) :: starEach es X.env:=by rfl) (hplain:(backTo cpos (starEach es X.env)).any (·.1)=false:=by rfl) :
  PE X (.Call (.Attribute o name apos) (e :: es) [] cpos) (tBM X.K T r to t):=by
 intro pins s σ H Q I h
 refine wpAny_Call_method_late hbase hfew hline rfl (thn (ho pins s σ H _ I h) fun v s1 ⟨x,H1,I1,r1,ty,q1⟩=>?_)
 obtain ⟨h1,h2⟩:=zo9 I1 r1 ty
 refine ⟨T,id,pa,slot,hty,h1,h2,?_⟩
 have hA:=ha cpos pins s1 σ H1 _ I1 q1
 rw [hs] at hA ⊢
 refine Calls.callWith_builtin (by show (false || (backTo cpos (starEach es X.env)).any (·.1))=false;rw [hplain] <;> rfl) (Calls.evalArgs_plain ?_)
 exact thn hA fun us s2 ⟨vs,H2,I2,r2,q2⟩=>hm pins s2 σ H2 x vs v us Q I2 r1 r2 q2
end
noncomputable def MtM (X:Cx) (id:String) (r:V->List V->Hp->VK->Prop):Prop :=
 ∀(pins:List (Addr × Obj)) (s:Shared) (σ:St) (H:Hp) (x:V) (xs:List V) (v:Value) (us:List Value) (Q:VK),Inv X pins σ H s->RelV x v->Vals xs us->r x xs H Q ->
  wpAny (model X.prog X.w) X.A (call (.builtin id) (v :: us)) (EP X pins σ Q) X.xe s
theorem Vals.one:∀{x:V}{us:List Value},Vals [x] us->∃u,us=[u]/\RelV x u
 | _,_,.cons r .nil=>⟨_,rfl,r⟩
theorem Vals.two {x y:V}{us:List Value}(h:Vals [x,y] us):∃u v,us=[u,v]/\RelV x u/\RelV y v:=by
 cases h with
 | cons r t =>
  cases t with
  | cons q t2=>cases t2;exact ⟨_,_,rfl,r,q⟩
theorem Vals.zero:∀{us:List Value},Vals [] us->us=[]
 | _,.nil=>rfl
theorem Vals.eraseIdx:∀{xs:List V}{us:List Value}(i:Nat),Vals xs us->Vals (xs.eraseIdx i) (us.eraseIdx i)
 | _,_,_,.nil=>.nil
 | _,_,0,.cons _ t=>t
 | _,_,i+1,.cons r t=>.cons r (Vals.eraseIdx i t)
theorem Vals.rep {xs:List V}{us:List Value}(h:Vals xs us):∀k:Nat,Vals (List.replicate k xs).flatten (List.replicate k us).flatten
 | 0=>.nil
 | k+1=>by
  rw [List.replicate_succ,List.replicate_succ,List.flatten_cons,List.flatten_cons]
  exact Vals.append h (Vals.rep h k)
theorem zpb {α:Type}:∀(l:List α) (i:Nat),(l.eraseIdx i).length<=l.length
 | [],_=>qlr _
 | _ :: _,0=>Nat.le_succ _
 | _ :: r,i+1=>Nat.succ_le_succ (zpb r i)
theorem zpc (its:List Value):∀(k:Nat) (acc:List Value),
  List.foldl (fun x1 x2=>x1++x2) acc.toArray (List.replicate k its.toArray)=(acc++(List.replicate k its).flatten).toArray
 | 0,acc=>by simp
 | k+1,acc=>by
  have e:acc.toArray++its.toArray=(acc++its).toArray:=by simp
  have e2:(acc++its)++(List.replicate k its).flatten=acc++(List.replicate (k+1) its).flatten:=by
   rw [List.replicate_succ,List.flatten_cons,List.append_assoc]
  rw [←e2,←zpc its k (acc++its),←e,List.replicate_succ,List.foldl_cons]
section
variable {X:Cx}{pins:List (Addr × Obj)}{σ:St}{H:Hp}{s:Shared}{l b:Addr}{xs ys zs:List V}
theorem Inv.lset {its its':List Value}{n:Nat}{f:Array Value->Array Value}{t':Nat}(I:Inv X pins σ H s) (hH:H l=some (.lst xs))
  (e:s.heap.get? l=some { cls:=.type "list",data:=.seq its.toArray n }) (hf:f its.toArray=its'.toArray) (hv:Vals ys its') (hz:ys.length<=sizeLine) :
  Inv X pins σ (upd H l (.lst ys)) { s with heap:=s.heap.update l (Obj.mapSeq f),toks:=t' }:=by
 have q:=PySem.IsL.update e f
 rw [hf] at q
 refine I.write (x:=l) (e:=l) (by rw [hH];exact trivial) (.inl rfl) (fun b' u hb hu=>(Heap.get?_update_other s.heap (Obj.mapSeq f) (Ne.symm hb)).trans hu) ⟨_,q⟩ ?_
 exact ⟨hz,its',_,hv,q⟩
theorem Inv.lnew {its:List Value}{t':Nat}(I:Inv X pins σ H s) (hv:Vals ys its) (hz:ys.length<=sizeLine) :
  Inv X pins σ (upd H s.heap.objs.size (.lst ys)) { s with heap:=s.heap.push { cls:=.type "list",data:=.seq its.toArray },toks:=t' } :=
 I.laid (fun _ _ q=>qps _ q) (qlr _) ⟨hz,its,0,hv,Heap.get?_push_size _ rfl⟩
theorem Inv.fresh (I:Inv X pins σ H s):H s.heap.objs.size=none:=I.hok.fresh (qlr _)
theorem Inv.lstM (I:Inv X pins σ H s) (hH:H l=some (.lst xs)):xs.length<=sizeLine/\∃(its:List Value) (n:Nat),Vals xs its/\xs.length=its.length/\s.heap.get? l=some { cls:=.type "list",data:=.seq its.toArray n }:=by
 obtain ⟨z,its,n,r,e⟩:=I.hok l _ hH
 exact ⟨z,its,n,r,r.length,e⟩
end
section
variable {X:Cx}
noncomputable def zpd:V->List V->Hp->VK->Prop:=fun x vs H Q=>∃l xs y,x=.ref l/\vs=[y]/\H l=some (.lst xs)/\xs.length<sizeLine/\Q .non (upd H l (.lst (xs++[y])))
theorem zmd:MtM X "list.append" zpd:=by
 intro pins s σ H x vs v us Q I rx rv h
 obtain ⟨l,xs,y,rfl,rfl,hH,hz,q⟩:=h
 cases rx
 obtain ⟨u,rfl,ru⟩:=rv.one
 obtain ⟨z,its,n,r,hl,e⟩:=I.lstM hH
 refine call_meets F.slot_list_append ⟨_,e,rfl⟩ F.entry_list_append (F.args_list_append_2 _ _) (PySem.list_append l its.toArray n u (by rw [List.size_toArray];omega)) ⟨e,?_⟩
 refine ⟨.non,_,I.lset (its':=its++[u]) hH e (by simp) (r.append (.cons ru .nil)) ?_,rfl,q⟩
 rw [qla,List.length_singleton]
 omega
noncomputable def zpe:V->List V->Hp->VK->Prop:=fun x vs H Q=>∃l xs i k y,x=.ref l/\vs=[.int i]/\H l=some (.lst xs)/\-(2 ^ 63)<=i/\i<2 ^ 63/\seqIndex? i xs.length=some k/\xs[k]? = some y/\Q y (upd H l (.lst (xs.eraseIdx k)))
theorem zzc:MtM X "list.pop" zpe:=by
 intro pins s σ H x vs v us Q I rx rv h
 obtain ⟨l,xs,i,k,y,rfl,rfl,hH,h1,h2,hk,hy,q⟩:=h
 cases rx
 obtain ⟨u,rfl,ru⟩:=rv.one
 obtain ⟨t,rfl⟩:=ru
 obtain ⟨z,its,n,r,hl,e⟩:=I.lstM hH
 obtain ⟨w,hw,rw'⟩:=r.get hy
 refine call_meets F.slot_list_pop ⟨_,e,rfl⟩ F.entry_list_pop (F.args_list_pop_2 _ _)
  (MeetsSeq.list_pop_at l its.toArray n i t k w (fitsIndex_both h1 h2) (by rw [List.size_toArray,←hl];exact hk) (by rw [←Array.getElem?_toList];exact hw) (by rw [List.size_toArray];omega)) ⟨e,?_⟩
 refine ⟨y,_,I.lset (its':=its.eraseIdx k) hH e ?_ (r.eraseIdx k) ?_,rw',q⟩
 ·show its.toArray.eraseIdxIfInBounds k=(its.eraseIdx k).toArray
  rw [List.eraseIdxIfInBounds_toArray]
 ·have:=zpb xs k
  omega
noncomputable def zpf:R2:=fun x y H Q=>∃l b xs zs,x=.ref l/\y=.ref b/\H l=some (.lst xs)/\H b=some (.lst zs)/\xs.length+zs.length<=sizeLine/\∀p,H p=none->Q (.ref p) (upd H p (.lst (xs++zs)))
theorem zzd:OpR X (binaryOp .Add) zpf:=by
 intro pins s σ H x y v u Q I rx ry h
 obtain ⟨l,b,xs,zs,rfl,rfl,hH,hB,hz,q⟩:=h
 cases rx
 cases ry
 obtain ⟨z,its,n,r,hl,e⟩:=I.lstM hH
 obtain ⟨z2,its2,n2,r2,hl2,e2⟩:=I.lstM hB
 refine PySem.P.add_list e e2 ?_ (by rw [List.size_toArray,List.size_toArray];omega)
 have ea:its.toArray++its2.toArray=(its++its2).toArray:=by simp
 rw [ea]
 exact ⟨.ref _,_,I.lnew (t':=s.toks) (r.append r2) (by rw [qla];omega),rfl,q _ I.fresh⟩
theorem zpg {α:Type}(xs:List α) (k:Nat):(List.replicate k xs).flatten.length=k*xs.length:=by
 induction k with
 | zero=>simp
 | succ k ih=>rw [List.replicate_succ,List.flatten_cons,qla,ih,Nat.succ_mul,Nat.add_comm]
end
section
variable {prog:Program}{w:World}{A:Around}{E:Value->Shared->Prop}{s:Shared}
end
section
variable {X:Cx}
end
end L2
namespace Att
open PySem PySem.W PySem.Calls PyProof.Rows
theorem zze {P:Params}{h:Heap}:∀(ns:List Int) (vs:List Value),WellAll P h vs (ns.map WData.int)->IntsAre vs ns:=by
 intro ns
 induction ns with
 | nil =>
  intro vs w
  rw [List.map_nil] at w
  cases w
  exact .nil
 | cons n ns ih =>
  intro vs w
  rw [List.map_cons] at w
  cases w with
  | cons a b =>
   cases a
   exact .cons _ _ (ih _ b)
theorem zzf {l:OpenLaw}{n:Nat}(hn:l.most=some n) {P:Params}{h:Heap}{args:List WData}{vals:List Value}
  (hpre:l.row.toRowW.claim.pre args=true) (hwl:WellAll P h vals args) :
  ∃a vs ns,vals=[Value.ref a]/\args=[WData.list (ns.map WData.int)]/\h.get? a=some { cls:=.type "list",data:=.seq vs.toArray }/\IntsAre vs ns/\ns.length<=n:=by
 have hsh:WShape.hasAll [] args [.list .int]=true:=(pre_splitW hpre).1
 have hc:l.pre.holds [] { args:=args }=true:=(pre_splitW hpre).2
 obtain ⟨d,r,rfl,h1,h2⟩:=hasAllW_cons hsh
 obtain rfl:=hasAllW_nil h2
 obtain ⟨xs,rfl,h3⟩:=hasW_list h1
 obtain ⟨ns,rfl⟩:=items_int h3
 have hlen:ns.length<=n:=by
  unfold OpenLaw.pre at hc
  have h4:(WTm.not (.lt (.lit (.int (n:Int))) (.len (.arg 0)))).holds [] { args:=[.list (ns.map .int)] }=true:=by
   have h4:=(holds_andW hc).1
   rw [hn] at h4
   exact h4
  have h5:=condW_of h4 (w_not (w_lt w_lit (w_len_list (w_arg rfl))))
  rw [qlm] at h5
  refine Nat.le_of_not_lt fun q=>?_
  have q':(n:Int)<((ns.length:Nat):Int):=by omega
  first
   | (rw [decide_eq_true q'] at h5;exact absurd h5 (by decide))
   | (simp at h5;omega)
 cases hwl with
 | cons w1 w2 =>
  cases w2
  cases w1 with
  | list ho hall=>exact ⟨_,_,ns,rfl,rfl,ho,zze ns _ hall,hlen⟩
theorem zzg (l:OpenLaw) (args:List WData):l.row.toRowW.claim.post args (.bool true) args=true :=
 postW_of (r:=l.row.toRowW) (X:=(true == true))
  (show WShape.has [] (.bool true) .bool=true by first|rfl|decide|simp [WShape.has,WShape.arms,WShape.armsAll])
  (show (WTm.eq .res (.lit (.bool true))).value [] { args:=args,res:=some (.bool true),after:=args }=some (.bool (true == true)) from w_eq_bool (w_res rfl) w_lit) rfl
theorem attach_call {l:OpenLaw}{n:Nat}{q:Program}{loose:List Str}{XP:(Str->Option Value)->Heap->Prop}{YP:World->Heap->Prop}{d:DefRec}
  (hn:l.most=some n) (hdf:d.params.defaults=[])
  (call:∀(w:World) (s₀ s₁:Shared) (mg mb:Str->Option Value) (fa:Addr) (o:Obj) (pm cd doc:Value) (a:Addr) (vs:List Value) (ns:List Int),
   Ground q loose [] XP w s₀ mg mb s₁.heap->YP w s₁.heap ->
   s₁.heap.get? fa=some o->o.data=.func (docDef d.name d.params d.body d.scope pm cd doc)->s₁.heap.CodeRec cd d.name->mg d.name=some (.ref fa) ->
   s₁.heap.get? a=some { cls:=.type "list",data:=.seq vs.toArray }->IntsAre vs ns->ns.length<=n->s₁.gens = #[] ->
   codeAny (model l.prog w) callerA (.call (.ref fa) ⟨[.ref a],[]⟩) (fun r s'=>r=.ok (.ret (.bool true))/\OldK s₁.heap s'.heap/\s'.os=s₁.os/\AllBare s'.gens) s₁) :
  WalkO q loose XP YP l.row.toRowW d [] (fun f vs=>PySem.call f vs):=by
 intro w s₀ s₁ mg mb G Y fa o pm cd doc dV kV ho hd hcd hD hmg hg args vals as hpre hlay hrd hwl hlo
 obtain rfl:dV=.none:=Dflts.none hD hdf
 obtain rfl:kV=.none:=Dflts.noKw hD
 obtain ⟨a,vs,ns,rfl,rfl,hobj,hints,hlen⟩:=zzf hn hpre hwl
 refine enter_call (codeAny_mono (call w s₀ s₁ mg mb fa o pm cd doc a vs ns G Y ho (fd_plain hd) hcd hmg hobj hints hlen hg) fun r s' hq=>?_)
 obtain ⟨rfl,h2,h3,h4⟩:=hq
 exact ⟨.inl ⟨.bool true,.bool true,[],rfl,fun _=>rfl,.bool true,zzg l _,fun _=>⟨List.Pairwise.nil,fun _ hm=>(nomatch hm)⟩⟩,h2,h3,h4⟩
section
variable {prog:Program}{w:World}{A:Around}{E:Value->Shared->Prop}{s:Shared}{K:Frag}
end
end Att
namespace L2
open PySem PySem.Spec PyProof.Rows
theorem zph:∀{vs:List Value}{ns:List Int},IntsAre vs ns->Vals (ns.map V.int) vs
 | _,_,.nil=>.nil
 | _,_,.cons n t h=>.cons ⟨t,rfl⟩ (zph h)
noncomputable def zkl (H:Hp):Prop:=∀b,H b=none∨∃o xs,H b=some (.frz o (.lst xs))
theorem zzh {P:Program}{w:World}{K:QFg}{mg mb:Str->Option Value}{CX:CXT}{k:Nat}{fa a:Addr}{fd:FuncData}{x:Str}{sp:Sp}{s₁:Shared}{vs:List Value}{ns:List Int}
  (KX:K.In s₁.heap) (hns:s₁.heap.Ns mainGlobals mg) (hb:s₁.heap.Ns builtinsNs mb) (hbb:∀x:Str,x≠"__name__"->mb x=bootBuiltins x) (hlim:s₁.heap.NoLimit) (hg:s₁.gens = #[])
  (ha:s₁.heap.get? a=some { cls:=.type "list",data:=.seq vs.toArray }) (hi:IntsAre vs ns) (hl:ns.length<=sizeLine) (hr:Room k callerA)
  (F:∀base:Heap,K.In base->base.Ns mainGlobals mg->FnOk P w K mg base CX k fa fd [x] sp) (hbind:∀(s:Shared) (u:Value),BindsTo s fd ⟨[u],[]⟩ [(x,u)])
  (hsp:∀H:Hp,zkl H->SqL K H a (ns.map V.int)->sp [.ref a] H (fun v _=>v=.bl true) fun _ _ _=>False)
  (hCX:∀H e s',CX [] H s₁ (fun _ _ _=>False) e s'->False) :
  codeAny (model P w) callerA (.call (.ref fa) ⟨[.ref a],[]⟩) (fun r s'=>r=.ok (.ret (.bool true))/\OldK s₁.heap s'.heap/\s'.os=s₁.os/\AllBare s'.gens) s₁:=by
 have rv:=zph hi
 have lenV:=hi.length
 have core:∀H:Hp,zkl H->SqL K H a (ns.map V.int)->HOk P w H s₁.heap->(∀b,H b≠none->b=a)->(H a≠none->K.lookup a=none) ->
   codeAny (model P w) callerA (.call (.ref fa) ⟨[.ref a],[]⟩) (fun r s'=>r=.ok (.ret (.bool true))/\OldK s₁.heap s'.heap/\s'.os=s₁.os/\AllBare s'.gens) s₁:=by
  intro H hO hS hok hA hK
  have base_of:∀{b:Addr} {o:Obj},s₁.heap.get? b=some o->H b=none->(zfq s₁.heap H).get? b=some o:=fun e n=>zvz e n
  have noA:∀{b:Addr} {o:Obj} {es:Array DictEntry} {ep:Nat},s₁.heap.get? b=some o->o.data=.dict es ep->H b=none:=fun {b o es ep} e d=>by
   cases q:H b with
   | none=>rfl
   | some u =>
    have e':b=a:=hA b (by rw [q];simp)
    subst e'
    rw [ha] at e;cases e
    have d':Data.seq vs.toArray _=Data.dict es ep:=d
    cases d'
  have nsK:∀{b:Addr} {m:Str->Option Value},s₁.heap.Ns b m->(zfq s₁.heap H).Ns b m:=fun {b m} ⟨o,es,ep,e,d,r⟩=>⟨o,es,ep,base_of e (noA e d),d,r⟩
  have hKb:K.In (zfq s₁.heap H):=fun b o e=>base_of (KX b o e) (by
   cases q:H b with
   | none=>rfl
   | some u =>
    have e':b=a:=hA b (by rw [q];simp)
    subst e'
    rw [hK (by rw [q];simp)] at e;cases e)
  have hM:Mod K mg (zfq s₁.heap H):=⟨hKb,nsK hns,⟨mb,nsK hb,hbb⟩,let ⟨mc,h1,h2⟩:=hlim;⟨mc,nsK h1,h2⟩⟩
  have e0:Env0 P w K mg (zfq s₁.heap H) callerA [] s₁ H:=⟨rfl,hM,fun b o e=>zv0 e,Nat.le_of_eq (zvy _ _),trivial,fun b hb=>absurd (show b∈([]:List Addr) from hb) (by simp),hok,.of_eq hg⟩
  refine codeAny_mono ((F _ hKb (nsK hns)).run callerA [] s₁ H ⟨[.ref a],[]⟩ [.ref a] [.ref a] _ _ hr e0 (hbind s₁ (.ref a)) (.cons rfl .nil) (hsp H hO hS)) fun r s' h=>?_
  cases r with
  | error e=>exact (hCX H e s' h).elim
  | ok fl =>
   cases fl with
   | next=>exact False.elim h
   | brk=>exact False.elim h
   | cont=>exact False.elim h
   | ret u =>
    obtain ⟨v,H',os,bare,un,hok',r',q⟩:=h
    have q':v=.bl true:=q
    subst q'
    obtain rfl:u=Value.bool true:=r'
    refine ⟨rfl,OldK.of_keep fun b o e=>?_,os,bare⟩
    cases q:H b with
    | none=>exact un.keep b o e q (by intro z;exact absurd (show b∈([]:List Addr) from z) (by simp)) (by simp)
    | some u =>
     rcases hO b with z|⟨ob,xs,z⟩
     ·rw [q] at z;cases z
     ·have z2:=un.frzs b ob _ z
      obtain ⟨e1,_⟩:=hok b _ z
      obtain ⟨e2,_⟩:=hok' b _ z2
      rw [e] at e1;cases e1
      exact e2
 cases hk:K.lookup a with
 | some o =>
  have e:=KX a o hk
  rw [ha] at e
  cases e
  refine core (fun _=>none) (fun _=>.inl rfl) (.inr ⟨_,vs.toArray,_,hk,rfl,rfl,rfl,by rw [List.size_toArray,lenV];exact hl,by simpa using rv⟩) (fun b u z=>by have z':(none:Option HO)=some u:=z;cases z') (fun b z=>absurd rfl z) fun z=>absurd rfl z
 | none =>
  refine core (fun b=>if b=a then some (.frz { cls:=.type "list",data:=.seq vs.toArray } (.lst (ns.map V.int))) else none) (fun b=>?_) (.inl (.inr ⟨{ cls:=.type "list",data:=.seq vs.toArray },if_pos rfl⟩)) (fun b u z=>?_) (fun b z=>?_) fun _=>hk
  ·by_cases hb:b=a
   ·exact .inr ⟨_,_,if_pos hb⟩
   ·exact .inl (if_neg hb)
  ·by_cases hb:b=a
   ·have z':=(if_pos hb).symm.trans z
    cases z'
    subst hb
    exact ⟨ha,by rw [qlm];exact hl,vs,_,rv,ha⟩
   ·have z':=(if_neg hb).symm.trans z
    cases z'
  ·by_cases hb:b=a
   ·exact hb
   ·exact absurd (if_neg hb) z
theorem walk_of {l:PySem.W.OpenLaw}{n k:Nat}{q:Program}{loose:List Str}{XP:(Str->Option Value)->Heap->Prop}{YP:World->Heap->Prop}{d:DefRec}{K:Params->QFg}{CX:World->CXT}{sp:World->Sp}{x:Str}
  (hn:l.most=some n) (hn2:n<=sizeLine) (hdf:d.params.defaults=[]) (hr:Room k callerA)
  (hY:∀(w:World) (h:Heap),YP w h->(K w.params).In h)
  (F:∀(w:World) (mg:Str->Option Value) (fa:Addr) (h:Heap),(K w.params).In h->h.Ns mainGlobals mg->mg d.name=some (.ref fa) ->
   ∃fd:FuncData,(∀(s:Shared) (u:Value),BindsTo s fd ⟨[u],[]⟩ [(x,u)]) /\
    ∀base:Heap,(K w.params).In base->base.Ns mainGlobals mg->FnOk l.prog w (K w.params) mg base (CX w) k fa fd [x] (sp w))
  (hsp:∀(w:World) (H:Hp) (a:Addr) (ns:List Int),ns.length<=n->zkl H->SqL (K w.params) H a (ns.map V.int)->sp w [.ref a] H (fun v _=>v=.bl true) fun _ _ _=>False)
  (hCX:∀(w:World) (H:Hp) (s:Shared) (e:Value) (s':Shared),CX w [] H s (fun _ _ _=>False) e s'->False) :
  PySem.W.WalkO q loose XP YP l.row.toRowW d [] (fun f vs=>PySem.call f vs):=by
 refine Att.attach_call hn hdf fun w s₀ s₁ mg mb fa o pm cd doc a vs ns G Y ho hd hcd hmg hobj hints hlen hg=>?_
 have KX:=hY w _ Y
 obtain ⟨fd,hb,hF⟩:=F w mg fa _ KX G.T.g hmg
 exact zzh KX G.T.g G.T.b G.T.builtins G.T.nolimit hg hobj hints (Nat.le_trans hlen hn2) hr hF hb (fun H hO hS=>hsp w H a ns hlen hO hS) fun H e s'=>hCX w H s₁ e s'
noncomputable def zhr (s:Stmt):Arguments:=match s with
 | .FunctionDef _ a _ _ _ _ _ _ _ _=>a
 | _=>{ posonlyargs:=[],args:=[],vararg:=none,kwonlyargs:=[],kw_defaults:=[],kwarg:=none,defaults:=[] }
noncomputable def zfr (s:Stmt):List Stmt:=match s with
 | .FunctionDef _ _ b _ _ _ _ _ _ _=>b
 | _=>[]
noncomputable def za6 (s:Stmt):Scope:=match s with
 | .FunctionDef _ _ _ _ _ _ sc _ _ _=>sc
 | _=>{ kind:=.function,names:=[],isGenerator:=false,isCoroutine:=false }
noncomputable abbrev CX0:CXT:=fun _ _ _ _ _ _=>False
noncomputable abbrev E0:XK:=fun _ _ _=>False
theorem zzi {X:Cx}:zl7 CX0 X E0:=fun _ _ _ _ _ _ _ h=>h.elim
structure Fun (K:QFg) (x qual:Str) (st:Stmt) (f:Addr) (fd:FuncData):Prop where
 ex:∃(oc:Value) (od:Option Addr) (kV doc pm:Value) (an:Option Addr) (cdv ct:Value) (osl:Array (Option Value)),
  fd=PySem.W.fnOf x qual (zhr st) (zfr st) (za6 st) .none kV doc pm an cdv ct/\K.lookup f=some ⟨oc,od,.func fd,osl⟩/\PySem.W.codeIn K cdv qual=true
 kp:PySem.W.keepIn K (.ref f)=true
section
variable {P:Program}{w:World}{K:QFg}{mg:Str->Option Value}{base:Heap}
theorem Fun.binds {x qual:Str}{st:Stmt}{f:Addr}{fd:FuncData}{ps:List Str}(F:Fun K x qual st f fd)
  (h:∀(kV doc pm:Value) (an:Option Addr) (cdv ct:Value) (us:List Value),us.length=ps.length->bindArgs (PySem.W.fnOf x qual (zhr st) (zfr st) (za6 st) .none kV doc pm an cdv ct) ⟨us,[]⟩=pure (ps.zip us)):Binds K fd ps []:=by
 obtain ⟨oc,od,kV,doc,pm,an,cdv,ct,osl,rfl,lk,hcd⟩:=F.ex
 exact .all (h kV doc pm an cdv ct)
theorem zzj {x qual:Str}{st:Stmt}{f:Addr}{oc:Value}{od an:Option Addr}{osl:Array (Option Value)}{kV doc pm cdv ct:Value}(l:K.lookup f=some ⟨oc,od,.func (PySem.W.fnOf x qual (zhr st) (zfr st) (za6 st) .none kV doc pm an cdv ct),osl⟩)
  (c:PySem.W.codeIn K cdv qual=true) (k:PySem.W.keepIn K (.ref f)=true):Fun K x qual st f (PySem.W.fnOf x qual (zhr st) (zfr st) (za6 st) .none kV doc pm an cdv ct):=⟨⟨oc,od,kV,doc,pm,an,cdv,ct,osl,rfl,l,c⟩,k⟩
end
section
variable {X:Cx}
end
theorem zeg {A B:Prop}(h:B):if false=true then A else B:=by
 rw [if_neg Bool.false_ne_true]
 exact h
theorem zeh {A B:Prop}(h:A):if true=true then A else B:=by
 rw [if_pos rfl]
 exact h
section
variable {κ:Type} [DecidableEq κ]
noncomputable def zc2 (kvs:List (κ × V)) (k:κ):Option V:=(kvs.find? fun kv=>decide (kv.1=k)).map (·.2)
noncomputable def zcp (kvs:List (κ × V)) (k:κ) (v:V):List (κ × V) :=
 if (kvs.any fun kv=>decide (kv.1=k))=true then kvs.map (fun kv=>if kv.1=k then (kv.1,v) else kv) else kvs++[(k,v)]
theorem zin {p:κ × V}{r:List (κ × V)}{k:κ}(e:p.1=k):zc2 (p :: r) k=some p.2:=by simp [zc2,List.find?_cons,e]
theorem zio {p:κ × V}{r:List (κ × V)}{k:κ}(e:¬p.1=k):zc2 (p :: r) k=zc2 r k:=by simp [zc2,List.find?_cons,e]
theorem zpi (k:κ):∀kvs:List (κ × V),(kvs.any fun kv=>decide (kv.1=k))=(zc2 kvs k).isSome
 | []=>rfl
 | p :: r=>by
  rw [List.any_cons]
  by_cases e:p.1=k
  ·simp only [zin e,decide_eq_true e,Bool.true_or,Option.isSome_some]
  ·rw [zio e,decide_eq_false e,Bool.false_or];exact zpi k r
theorem zme (kvs:List (κ × V)) (k:κ) (v:V):(zcp kvs k v).length<=kvs.length+1:=by
 unfold zcp
 split
 ·rw [qlm];omega
 ·rw [qla,List.length_cons,List.length_nil];omega
theorem RelO.isSome_eq {o:Option V}{u:Option Value}(r:RelO o u):o.isSome=u.isSome:=by
 cases o with
 | none=>cases u with
  | none=>rfl
  | some _=>exact (show False from r).elim
 | some _=>cases u with
  | none=>exact (show False from r).elim
  | some _=>rfl
theorem KV.val {kvs:List (κ × V)}{vs:List (κ × Value)}(r:KV kvs vs) (k:κ):RelO (zc2 kvs k) (valueAt vs k):=by
 unfold KV at r
 induction r with
 | nil=>exact True.intro
 | @cons p q ps qs h t ih =>
  obtain ⟨h1,h2⟩:=h
  by_cases e:p.1=k
  ·have e':q.1=k:=h1.symm.trans e
   have b:valueAt (q :: qs) k=some q.2:=by simp [valueAt,List.find?_cons,e']
   rw [zin e,b];exact h2
  ·have e':¬q.1=k:=fun z=>e (h1.trans z)
   have b:valueAt (q :: qs) k=valueAt qs k:=by simp [valueAt,List.find?_cons,e']
   rw [zio e,b];exact ih
theorem KV.any {kvs:List (κ × V)}{vs:List (κ × Value)}(r:KV kvs vs) (k:κ):(kvs.any fun kv=>decide (kv.1=k))=vs.any fun kv=>decide (kv.1=k):=by
 unfold KV at r
 induction r with
 | nil=>rfl
 | cons h t ih=>rw [List.any_cons,List.any_cons,ih,h.1]
theorem KV.repl {kvs:List (κ × V)}{vs:List (κ × Value)}(r:KV kvs vs) (k:κ) {y:V}{u:Value}(ry:RelV y u) :
  KV (kvs.map fun kv=>if kv.1=k then (kv.1,y) else kv) (vs.map fun kv=>if kv.1=k then (kv.1,u) else kv):=by
 unfold KV at r ⊢
 induction r with
 | nil=>exact .nil
 | @cons p q ps qs h t ih =>
  rw [List.map_cons,List.map_cons]
  refine .cons ?_ ih
  obtain ⟨h1,h2⟩:=h
  by_cases e:p.1=k
  ·rw [if_pos e,if_pos (h1.symm.trans e)];exact ⟨h1,ry⟩
  ·rw [if_neg e,if_neg (fun z=>e (h1.trans z))];exact ⟨h1,h2⟩
theorem KV.put {kvs:List (κ × V)}{vs:List (κ × Value)}(r:KV kvs vs) (k:κ) {y:V}{u:Value}(ry:RelV y u):KV (zcp kvs k y) (stored vs k u):=by
 unfold zcp stored
 rw [r.any k]
 by_cases e:(vs.any fun kv=>decide (kv.1=k))=true
 ·rw [if_pos e,if_pos e];exact r.repl k ry
 ·rw [if_neg e,if_neg e];exact Paired.snoc r ⟨rfl,ry⟩
theorem KV.keys {kvs:List (κ × V)}{vs:List (κ × Value)}(r:KV kvs vs):kvs.map (·.1)=vs.map (·.1):=by
 unfold KV at r
 induction r with
 | nil=>rfl
 | cons h t ih=>rw [List.map_cons,List.map_cons,ih,h.1]
theorem KV.length {kvs:List (κ × V)}{vs:List (κ × Value)}(r:KV kvs vs):kvs.length=vs.length:=Paired.length r
end
theorem zkm {P:Program}{w:World}{k:Key}{u:Value}(r:RelV (kV k) u):(zdl P w).is k u=true:=by
 cases k with
 | inl i=>obtain ⟨t,e⟩:=(show ∃t,u=Value.int i t from r);subst e;exact zvv P w i t
 | inr x=>obtain ⟨t,e⟩:=(show ∃t,u=Value.str x t from r);subst e;exact zvw P w x t
theorem zpj {P:Program}{w:World}:∀{ks:List Key}{us:List Value},Vals (ks.map kV) us->ItemsAre (zdl P w) ks us
 | [],_,r=>by rw [List.map_nil] at r;cases r;exact .nil
 | k :: ks,_,r=>by
  rw [List.map_cons] at r
  cases r with
  | cons h t=>exact .cons (zkm h) (zpj t)
noncomputable abbrev KT (H:Hp):List (List Key × V)->List (List Key × Addr × Value)->Prop:=Paired fun p q=>p.1=q.1/\H q.2.1=some (.tup (p.1.map kV))/\RelV p.2 q.2.2
theorem KT.val {H:Hp}{kvs:List (List Key × V)}{xs:List (List Key × Addr × Value)}(r:KT H kvs xs) (k:List Key):RelO (zc2 kvs k) ((atKey xs k).map (·.2)):=by
 induction r with
 | nil=>exact True.intro
 | @cons p q ps qs h t ih =>
  obtain ⟨h1,_,h2⟩:=h
  by_cases e:p.1=k
  ·have e':q.1=k:=h1.symm.trans e
   have b:atKey (q :: qs) k=some q.2:=by simp [atKey,List.find?_cons,e']
   rw [zin e,b];exact h2
  ·have e':¬q.1=k:=fun z=>e (h1.trans z)
   have b:atKey (q :: qs) k=atKey qs k:=by simp [atKey,List.find?_cons,e']
   rw [zio e,b];exact ih
theorem KT.repl {H:Hp}{kvs:List (List Key × V)}{xs:List (List Key × Addr × Value)}(r:KT H kvs xs) (k:List Key) {y:V}{u:Value}(ry:RelV y u) :
  KT H (kvs.map fun kv=>if kv.1=k then (kv.1,y) else kv) (xs.map (putAt k u)):=by
 induction r with
 | nil=>exact .nil
 | @cons p q ps qs h t ih =>
  rw [List.map_cons,List.map_cons]
  refine .cons ?_ ih
  obtain ⟨h1,h2,h3⟩:=h
  unfold putAt
  by_cases e:p.1=k
  ·rw [if_pos e,if_pos (h1.symm.trans e)];exact ⟨h1,h2,ry⟩
  ·rw [if_neg e,if_neg (fun z=>e (h1.trans z))];exact ⟨h1,h2,h3⟩
theorem KT.put {H:Hp}{kvs:List (List Key × V)}{xs:List (List Key × Addr × Value)}(r:KT H kvs xs) (k:List Key) {b:Addr}{y:V}{u:Value}(hb:H b=some (.tup (k.map kV))) (ry:RelV y u) :
  KT H (zcp kvs k y) (storedH xs k b u):=by
 have e:(kvs.any fun kv=>decide (kv.1=k))=(atKey xs k).isSome:=by
  rw [zpi,(r.val k).isSome_eq,Option.isSome_map]
 unfold zcp storedH
 rw [e]
 by_cases q:(atKey xs k).isSome=true
 ·rw [if_pos q,if_pos q];exact r.repl k ry
 ·rw [if_neg q,if_neg q];exact Paired.snoc r ⟨rfl,hb,ry⟩
theorem KT.keeps {H H':Hp}{kvs:List (List Key × V)}{xs:List (List Key × Addr × Value)}(r:KT H kvs xs) (ht:∀b ys,H b=some (.tup ys)->H' b=some (.tup ys)):KT H' kvs xs :=
 Paired.mapP r fun _ _ z=>⟨z.1,ht _ _ z.2.1,z.2.2⟩
section
variable {P:Program}{w:World}{H:Hp}{h:Heap}{a:Addr}
theorem zpk {u:HO}(ok:HOk P w H h) (e:Rd H a u):ObjOk P w H h a u:=e.ok ok
theorem zkn {kvs:List (Key × V)}(ok:HOk P w H h) (e:Rd H a (.dK kvs)):kvs.length<=sizeLine/\(a == sysModules)=false/\∃vs,KV kvs vs/\h.DictOf (zdl P w) a vs :=
 show ObjOk P w H h a (.dK kvs) from zpk ok e
theorem zpl {kvs:List (Key × V)}(ok:HOk P w H h) (e:H a=some (.dK kvs)):kvs.length<=sizeLine/\(a == sysModules)=false/\∃vs,KV kvs vs/\h.DictOf (zdl P w) a vs:=zkn ok (.inl e)
theorem zmf {ks:List Key}(ok:HOk P w H h) (e:H a=some (.tup (ks.map kV))):(tupleKind (zdl P w)).is h ks a:=by
 obtain ⟨_,its,r,o,h1,h2,n,h3,_⟩:=(show ObjOk P w H h a (.tup (ks.map kV)) from ok a _ e)
 exact ⟨o,its.toArray,n,h1,h2,h3,by simpa using zpj r⟩
theorem zmg {kvs:List (List Key × V)}(ok:HOk P w H h) (e:Rd H a (.dT kvs)):kvs.length<=sizeLine/\(a == sysModules)=false /\
  ∃xs,KT H kvs xs/\h.DictOfH (tupleKind (zdl P w)) a xs:=by
 obtain ⟨z,y,xs,r,o,es,ep,h1,h2,h3,h4,h5⟩:=(show ObjOk P w H h a (.dT kvs) from zpk ok e)
 refine ⟨z,y,xs,r,o,es,ep,h1,h2,h3,h4,fun x hx=>?_,h5⟩
 have all:∀{l:List (List Key × V)} {m:List (List Key × Addr × Value)},KT H l m->∀x∈m,(tupleKind (zdl P w)).is h x.1 x.2.1:=by
  intro l m q
  induction q with
  | nil=>intro x hx;exact nomatch hx
  | @cons p q ps qs hq t ih =>
   intro x hx
   rcases List.mem_cons.mp hx with e|hx
   ·subst e
    exact zmf ok (by rw [←hq.1];exact hq.2.1)
   ·exact ih x hx
 exact all r x hx
theorem zzk {kvs:List (List Key × V)}(ok:HOk P w H h) (e:H a=some (.dT kvs)):kvs.length<=sizeLine/\(a == sysModules)=false /\
  ∃xs,KT H kvs xs/\h.DictOfH (tupleKind (zdl P w)) a xs:=zmg ok (.inl e)
end
noncomputable def DGet (H:Hp) (a:Addr) (y:V) (r:Option V):Prop :=
 (∃kvs k,Rd H a (.dK kvs)/\y=kV k/\r=zc2 kvs k)∨∃kvs k b,Rd H a (.dT kvs)/\y=.ref b/\H b=some (.tup (k.map kV))/\r=zc2 kvs k
noncomputable def DPut (H:Hp) (a:Addr) (y v:V) (H':Hp):Prop :=
 (∃kvs k,H a=some (.dK kvs)/\y=kV k/\kvs.length<sizeLine/\H' = upd H a (.dK (zcp kvs k v))) ∨
 ∃kvs k b,H a=some (.dT kvs)/\y=.ref b/\H b=some (.tup (k.map kV))/\kvs.length<sizeLine/\H' = upd H a (.dT (zcp kvs k v))
theorem DGet.k {H:Hp}{a:Addr}{kvs:List (Key × V)}{k:Key}(e:H a=some (.dK kvs)):DGet H a (kV k) (zc2 kvs k):=.inl ⟨kvs,k,.inl e,rfl,rfl⟩
theorem DPut.k {H:Hp}{a:Addr}{kvs:List (Key × V)}{k:Key}{v:V}(e:H a=some (.dK kvs)) (hl:kvs.length<sizeLine):DPut H a (kV k) v (upd H a (.dK (zcp kvs k v))):=.inl ⟨kvs,k,e,rfl,hl,rfl⟩
theorem DPut.t {H:Hp}{a b:Addr}{kvs:List (List Key × V)}{k:List Key}{v:V}(e:H a=some (.dT kvs)) (eb:H b=some (.tup (k.map kV))) (hl:kvs.length<sizeLine) :
  DPut H a (.ref b) v (upd H a (.dT (zcp kvs k v))):=.inr ⟨kvs,k,b,e,rfl,eb,hl,rfl⟩
section
variable {X:Cx}{pins:List (Addr × Obj)}{σ:St}{H:Hp}{s:Shared}{a:Addr}{y v:V}{u r:Value}{o:Option V}{A:Around}{E:Value->Shared->Prop}
theorem Inv.big (I:Inv X pins σ H s):sysModules<s.heap.objs.size:=by
 have h:mainGlobals<s.heap.objs.size:=(I.mod.glob.keeps I.bk).lt
 exact Nat.lt_trans (by decide) h
theorem zzl {Q:Value->Shared->Prop}(hu:A.units+1<cLine) (I:Inv X pins σ H s) (g:DGet H a y (some v)) (ry:RelV y u) (h:∀w' s',Inv X pins σ H s'->RelV v w'->Q w' s') :
  wpAny (model X.prog X.w) A (getItem (.ref a) u) Q E s:=by
 rcases g with ⟨kvs,k,e,ey,l⟩|⟨kvs,k,b,e,ey,eb,l⟩
 ·subst ey
  obtain ⟨z,hd,vs,rel,dd⟩:=zkn I.hok e
  obtain ⟨w',hw,rw'⟩:=RelO.some_of (v:=v) (o:=valueAt vs k) (by rw [l];exact rel.val k)
  exact wpAny_getItem_of (zkm ry) dd.mapOf hw (h w' _ (I.tok _) rw')
 ·subst ey
  cases (show u=Value.ref b from ry)
  obtain ⟨z,hd,xs,rel,dd⟩:=zmg I.hok e
  obtain ⟨w',hw,rw'⟩:=RelO.some_of (v:=v) (o:=(atKey xs k).map (·.2)) (by rw [l];exact rel.val k)
  obtain ⟨p,hp,hp2⟩:=Option.map_eq_some_iff.mp hw
  refine wpAny_getItem_heap (tupleKind_room_in1 hu) (zmf I.hok eb) dd hp ?_
  rw [hp2]
  exact h w' _ (I.tok _) rw'
theorem zmh {h':Heap}{t':Nat}{ob:HO}(I:Inv X pins σ H s) (mu:Mut (H a)) (hs:Heap.SameBut a s.heap h') (he:∃q,h'.get? a=some q) (new:ObjOk X.prog X.w (upd H a ob) h' a ob) :
  Inv X pins σ (upd H a ob) { s with heap:=h',toks:=t' } :=
 I.write (x:=a) (e:=a) mu (.inl rfl) (fun b q hb z=>(hs.2 b hb).trans z) he new
theorem zpm {P:Program}{w:World}{H':Hp}{h':Heap}{kvs:List (Key × V)}{vs:List (Key × Value)}(z:kvs.length<=sizeLine) (hd:(a == sysModules)=false) (rel:KV kvs vs) (dd:h'.DictOf (zdl P w) a vs) :
  ObjOk P w H' h' a (.dK kvs):=⟨z,hd,vs,rel,dd⟩
theorem zzm {H':Hp}{Q:Unit->Shared->Prop}(hu:A.units+1<cLine) (I:Inv X pins σ H s) (g:DPut H a y v H') (ry:RelV y u) (rv:RelV v r) (h:∀s',Inv X pins σ H' s'->Q () s') :
  wpAny (model X.prog X.w) A (setItem (.ref a) u r) Q E s:=by
 rcases g with ⟨kvs,k,e,ey,l,eH⟩|⟨kvs,k,b,e,ey,eb,l,eH⟩
 ·subst ey eH
  obtain ⟨z,hd,vs,rel,dd⟩:=zpl I.hok e
  have hz:vs.length<=sizeLine:=by rw [←rel.length];exact z
  have hl:(zcp kvs k v).length<=sizeLine:=by have:=zme kvs k v;omega
  refine wpAny_setItem_pairs (hsz:=hz) (zkm ry) dd fun h' dd' hs=>h _ ?_
  have he:∃q,h'.get? a=some q:=let ⟨q,_,_,hq,_⟩:=dd';⟨q,hq⟩
  exact zmh I (by rw [e];exact True.intro) hs he (zpm hl hd (rel.put k rv) dd')
 ·subst ey eH
  cases (show u=Value.ref b from ry)
  obtain ⟨z,hd,xs,rel,dd⟩:=zzk I.hok e
  have hz:xs.length<=sizeLine:=by rw [←Paired.length rel];exact z
  have hl:(zcp kvs k v).length<=sizeLine:=by have:=zme kvs k v;omega
  refine wpAny_setItem_heap (hsz:=hz) (tupleKind_room_in1 hu) (zmf I.hok eb) dd fun h' dd' hs=>h _ ?_
  obtain ⟨q,es,ep,hq,h2,h3,h4,_,h5⟩:=dd'
  refine zmh I (by rw [e];exact True.intro) hs ⟨q,hq⟩ ⟨hl,hd,_,(rel.put k eb rv).keeps fun c ys ec=>?_,q,es,ep,hq,h2,h3,h4,h5⟩
  rw [za7 (zf9 ec e (fun z=>nomatch z))]
  exact ec
end
section
variable {X:Cx}{pins:List (Addr × Obj)}{σ:St}{H:Hp}{s:Shared}{a:Addr}{kvs:List (Key × V)}{k:Key}{u:Value}{A:Around}{E:Value->Shared->Prop}
end
noncomputable def zko (i:Expr):Prop:=∀ov iv,subscripted i false ov iv=operate [ov,iv] (getItem ov iv)
theorem zzn {prog:Program}{w:World}{A:Around}{E:Value->Shared->Prop}{s:Shared}{env:Env}{value slice:Expr}{pos:Pos}{T id:String}{Q:Value->Shared->Prop}
  (hl:typeLookup (.type T) "__getitem__" = pure (some (.builtin id))) (hs:zko slice)
  (h:wpAny (model prog w) A (eval value env) (fun o s₁=>wpAny (model prog w) A (eval slice env) (fun i s₂=>s₂.TypeIs o T/\wpAny (model prog w) A (getItem o i) Q E s₂) E s₁) E s) :
  wpAny (model prog w) A (eval (.Subscript value slice pos) env) Q E s:=by
 refine Subscript_ (wpAny_mono h (fun o s₁ h₁=>wpAny_mono h₁ (fun i s₂ h₂=>?_) fun _ _ x=>x) fun _ _ x=>x)
 obtain ⟨hT,h₂⟩:=h₂
 unfold subscriptTail
 refine wpAny_bind ?_
 rw [getitemInPython_of_ne hT.not_modules]
 refine wpAny_bind (wpAny_specialOf hT hl ?_)
 have fin:wpAny (model prog w) A (subscripted slice false o i) (fun r s₃=>wpAny (model prog w) A (letTemporaryGo value o r >>= fun _=>pure r) Q E s₃) E s₂:=by
  rw [hs o i]
  exact wpAny_operating (wpAny_mono h₂ (fun r s₃ h₃=>wpAny_bind (wpAny_letTemporaryGo (wpAny_pure h₃))) fun _ _ x=>x)
 first
  | exact wpAny_pure (wpAny_bind fin)
  | exact wpAny_bind (wpAny_pure (wpAny_bind fin))
  | exact wpAny_bind fin
theorem zzo {X:Cx}{pins:List (Addr × Obj)}{σ:St}{H:Hp}{s:Shared}{a:Addr}{y:V}{o:Option V}(I:Inv X pins σ H s) (g:DGet H a y o):s.TypeIs (.ref a) "dict":=by
 rcases g with ⟨kvs,k,e,_,_⟩|⟨kvs,k,b,e,_,_,_⟩
 ·obtain ⟨_,_,vs,_,dd⟩:=zkn I.hok e
  exact dd.typeIs
 ·obtain ⟨_,_,xs,_,dd⟩:=zmg I.hok e
  exact dd.typeIs
noncomputable def zzp (td ty:TE):TE:=fun σ H Q=>td σ H fun x H1=>ty σ H1 fun y H2=>∃a v,x=.ref a/\DGet H2 a y (some v)/\Q v H2
noncomputable def zzq (td ty tv:TE):TS:=fun D σ H=>tv σ H fun v H1=>td σ H1 fun x H2=>ty σ H2 fun y H3=>∃a H4,x=.ref a/\DPut H3 a y v H4/\D.nx σ H4
section
variable {X:Cx}{o i e value:Expr}{pos pos' tpos:Pos}{td ty tv:TE}
theorem zpn (hu:X.A.units+1<cLine) (ho:PE X o td) (hi:PE X i ty) (hs:zko i):PE X (.Subscript o i pos) (zzp td ty):=by
 intro pins s σ H Q I h
 refine zzn PySem.F.slot_dict_getitem.lookup hs (thn (ho pins s σ H _ I h) fun u s1 ⟨x,H1,I1,rx,q1⟩=>thn (hi pins s1 σ H1 _ I1 q1) fun iv s2 ⟨y,H2,I2,ry,a,v,ex,g,q2⟩=>?_)
 subst ex
 obtain rfl:u=Value.ref a:=rx
 exact ⟨zzo I2 g,zzl hu I2 g ry fun w' s3 I3 rw'=>⟨v,H2,I3,rw',q2⟩⟩
theorem zpo (hu:X.A.units+1<cLine) (ho:PE X o td) (hi:PE X i ty) (hv:PE X value tv) (hs:swapsWith value (some (.Subscript o i pos')) pos.line X.env=pure false) :
  PS X (.Assign [.Subscript o i pos'] value pos) (zzq td ty tv):=by
 intro pins s σ H D I h
 refine wpAny_Assign_Subscript (thn (hv pins s σ H _ I h) fun r s1 ⟨v,H1,I1,rv,q1⟩=>thn (ho pins s1 σ H1 _ I1 q1) fun u s2 ⟨x,H2,I2,rx,q2⟩=>thn (hi pins s2 σ H2 _ I2 q2) fun iv s3 ⟨y,H3,I3,ry,a,H4,ex,g,q3⟩=>?_) hs
 subst ex
 obtain rfl:u=Value.ref a:=rx
 exact zzm hu I3 g ry rv fun s4 I4=>⟨σ,H4,I4,q3⟩
end
theorem zzr {P:Program}{w:World}{H:Hp}(h:Heap) (hb:sysModules<h.objs.size):ObjOk P w H (h.push { cls:=.type "dict",data:=.dict #[] }) h.objs.size (.dK []) :=
 ⟨Nat.zero_le _,beq_eq_false_iff_ne.mpr (Ne.symm (Nat.ne_of_lt hb)),[],.nil,Heap.DictOf.new h⟩
section
variable {X:Cx}{pos:Pos}
end
noncomputable def zmi:List (TE × TE)->St->Hp->(List (V × V)->Hp->Prop)->Prop
 | [],_,H,Q=>Q [] H
 | (tk,tv) :: r,σ,H,Q=>tk σ H fun x H1=>tv σ H1 fun y H2=>zmi r σ H2 fun ps H3=>Q ((x,y) :: ps) H3
noncomputable abbrev VV:List (V × V)->List (Value × Value)->Prop:=Paired fun p q=>RelV p.1 q.1/\RelV p.2 q.2
noncomputable def PPs (X:Cx) (pos:Pos) (keys:List (Option Expr)) (values:List Expr) (trs:List (TE × TE)):Prop :=
 ∀(pins:List (Addr × Obj)) (s:Shared) (σ:St) (H:Hp) (Q:List (V × V)->Hp->Prop),Inv X pins σ H s->zmi trs σ H Q ->
  wpAny (model X.prog X.w) X.A (evalPairs (pairTrees keys values X.env pos)) (fun vs s'=>∃ps H',Inv X pins σ H' s'/\VV ps vs/\Q ps H') X.xe s
theorem zzs {X:Cx}{pos:Pos}:PPs X pos [] [] []:=fun pins s σ H Q I h=>pairTrees_nil_walk ⟨[],H,I,.nil,h⟩
theorem zmj {X:Cx}{pos:Pos}{k v:Expr}{ks:List (Option Expr)}{vs:List Expr}{tk tv:TE}{trs:List (TE × TE)}(hk:PE X k tk) (hv:PE X v tv) (hr:PPs X pos ks vs trs) :
  PPs X pos (some k :: ks) (v :: vs) ((tk,tv) :: trs):=fun pins s σ H Q I h =>
 pairTrees_cons_walk (thn (hk pins s σ H _ I h) fun u s1 ⟨x,H1,I1,rx,q1⟩=>thn (hv pins s1 σ H1 _ I1 q1) fun w2 s2 ⟨y,H2,I2,ry,q2⟩ =>
  thn (hr pins s2 σ H2 _ I2 q2) fun ws s3 ⟨ps,H3,I3,rel,q3⟩=>⟨(x,y) :: ps,H3,I3,.cons ⟨rx,ry⟩ rel,q3⟩)
noncomputable def zgq (kvs more:List (Key × V)):List (Key × V):=more.foldl (fun acc kv=>zcp acc kv.1 kv.2) kvs
theorem KV.merge:∀{more:List (Key × V)}{rs:List (Key × Value)}{kvs:List (Key × V)}{vs:List (Key × Value)},KV more rs->KV kvs vs->KV (zgq kvs more) (merged vs rs):=by
 intro more rs kvs vs r
 unfold KV at r
 induction r generalizing kvs vs with
 | nil=>intro q;exact q
 | @cons p q ps qs h t ih =>
  intro r0
  have e:KV (zcp kvs p.1 p.2) (stored vs q.1 q.2):=by
   have:=r0.put p.1 h.2
   rw [←h.1];exact this
  exact ih e
theorem zpp:∀(more kvs:List (Key × V)),(zgq kvs more).length<=kvs.length+more.length
 | [],kvs=>by show kvs.length<=kvs.length+0;omega
 | p :: r,kvs=>by
  have h1:=zpp r (zcp kvs p.1 p.2)
  have h2:=zme kvs p.1 p.2
  show (zgq (zcp kvs p.1 p.2) r).length<=_
  rw [List.length_cons];omega
theorem zpq {P:Program}{w:World}:∀{kvs:List (Key × V)}{ws:List (Value × Value)},VV (kvs.map fun kv=>(kV kv.1,kv.2)) ws->∃rs,Carries (zdl P w) ws rs/\KV kvs rs
 | [],_,r=>by rw [List.map_nil] at r;cases r;exact ⟨[],True.intro,.nil⟩
 | p :: kvs,_,r=>by
  rw [List.map_cons] at r
  cases r with
  | @cons a b as bs h t =>
   obtain ⟨rs,c,q⟩:=zpq (P:=P) (w:=w) t
   obtain ⟨b1,b2⟩:=b
   exact ⟨(p.1,b2) :: rs,⟨zkm h.1,rfl,c⟩,.cons ⟨rfl,h.2⟩ q⟩
noncomputable def zzt (trs:List (TE × TE)):TE:=fun σ H Q=>∀p,H p=none->zmi trs σ (upd H p (.dK [])) fun ps H2=>H2 p=some (.dK [])/\∃kvs:List (Key × V),ps=kvs.map (fun kv=>(kV kv.1,kv.2))/\kvs.length<=15/\Q (.ref p) (upd H2 p (.dK (zgq [] kvs)))
theorem zzu {X:Cx}{pos:Pos}{keys:List (Option Expr)}{values:List Expr}{trs:List (TE × TE)}(h:PPs X pos keys values trs) (hall:keys.all (·.isSome)=true) (hl:keys.length=values.length) (h0:keys≠[])
  (h15:keys.length<=15):PE X (.Dict keys values pos) (zzt trs):=by
 intro pins s σ H Q I q
 have hn:=I.hok.fresh (qlr s.heap.objs.size)
 have I1:=I.laid (a:=s.heap.objs.size) (o:=.dK []) (h':=s.heap.push { cls:=.type "dict",data:=.dict #[] }) (t':=s.toks) (fun _ _ q=>qps _ q) (qlr _) (zzr s.heap I.big)
 refine wpAny_Dict_walk (knd:=zdl X.prog X.w) hall hl h0 h15 (thn (h pins _ σ _ _ I1 (q _ hn)) fun ws s2 ⟨ps,H2,I2,rel,e,kvs,ep,lk,q2⟩=>?_)
 subst ep
 obtain ⟨rs,c,rk⟩:=zpq (P:=X.prog) (w:=X.w) rel
 obtain ⟨z,hd,vs0,r0,dd⟩:=zpl I2.hok e
 cases r0
 refine ⟨rs,c,dd,fun h' dd' hs=>⟨.ref s.heap.objs.size,_,?_,rfl,q2⟩⟩
 have hz:(zgq [] kvs).length<=sizeLine:=by
  have h1:=zpp kvs []
  rw [List.length_nil] at h1
  rw [sizeLine_eq];omega
 have he:∃q,h'.get? s.heap.objs.size=some q:=let ⟨q,_,_,hq,_⟩:=dd';⟨q,hq⟩
 exact zmh I2 (by rw [e];exact True.intro) hs he (zpm hz hd (rk.merge .nil) dd')
section
variable {X:Cx}{pins:List (Addr × Obj)}{σ:St}{H:Hp}{s:Shared}{a:Addr}{y d:V}{u r:Value}{o:Option V}{A:Around}{E:Value->Shared->Prop}
end
section
variable {X:Cx}{o e f:Expr}{apos cpos:Pos}{td ty tx:TE}
end
section
variable {X:Cx}{pins:List (Addr × Obj)}{σ:St}{H:Hp}{s:Shared}{a:Addr}{kvs:List (Key × V)}{A:Around}{E:Value->Shared->Prop}
end
section
variable {X:Cx}{pins:List (Addr × Obj)}{σ:St}{H:Hp}{s:Shared}{a:Addr}{y:V}{u:Value}{A:Around}{E:Value->Shared->Prop}
end
section
variable {X:Cx}
end
section
variable {κ:Type} [DecidableEq κ]
end
end L2
namespace L3
noncomputable abbrev St:=L2.St
open PySem PySem.Spec PyProof.Rows L2
inductive D where
 | non|bl (b:Bool)|int (i:Int)|str (x:Str)|tup (xs:List D)|ref (n:Nat)|fn (a:Addr)
inductive Ob where
 | lst (xs:List D)|flst (xs:List D)|iset (f:Int->Bool) (n:Nat)|dct (kvs:List (Key × D))|fdct (kvs:List (Key × D))|tdct (kvs:List (List Key × D))|ftdct (kvs:List (List Key × D))|tset (ks:List (List Int))|fnc (x:Str)|exc (c:Str)
noncomputable def Ob.mut:Ob->Bool
 | .flst _=>false
 | .fnc _=>false
 | _=>true
noncomputable abbrev Sto:=List Ob
noncomputable abbrev Lo:=List (Option D)
mutual
inductive RD (ρ:List Addr) (H:Hp):D->V->Prop where
 | non:RD ρ H .non .non
 | bl (b:Bool):RD ρ H (.bl b) (.bl b)
 | int (i:Int):RD ρ H (.int i) (.int i)
 | str (x:Str):RD ρ H (.str x) (.str x)
 | tup {xs:List D} {a:Addr} {vs:List V}:H a=some (.tup vs)->RDs ρ H xs vs->RD ρ H (.tup xs) (.ref a)
 | ref {n:Nat} {a:Addr}:ρ[n]? = some a->RD ρ H (.ref n) (.ref a)
 | fn (a:Addr):RD ρ H (.fn a) (.ref a)
inductive RDs (ρ:List Addr) (H:Hp):List D->List V->Prop where
 | nil:RDs ρ H [] []
 | cons {x:D} {v:V} {xs:List D} {vs:List V}:RD ρ H x v->RDs ρ H xs vs->RDs ρ H (x :: xs) (v :: vs)
end
structure Ext0 (ρ:List Addr) (H:Hp) (ρ':List Addr) (H':Hp):Prop where
 pre:∀(n:Nat) (a:Addr),ρ[n]? = some a->ρ'[n]? = some a
 tup:∀a vs,H a=some (.tup vs)->H' a=some (.tup vs)
 frz:∀a o u,H a=some (.frz o u)->H' a=some (.frz o u)
structure Ext (ρ:List Addr) (H:Hp) (ρ':List Addr) (H':Hp):Prop extends Ext0 ρ H ρ' H' where
 out:∀a (vs:HO),H a=some vs->(∀n:Nat,ρ[n]?≠some a)->H' a=some vs/\∀n:Nat,ρ'[n]?≠some a
theorem Ext.refl (ρ:List Addr) (H:Hp):Ext ρ H ρ H:=⟨⟨fun _ _ h=>h,fun _ _ h=>h,fun _ _ _ h=>h⟩,fun _ _ h n=>⟨h,n⟩⟩
theorem Ext.trans {ρ ρ1 ρ2:List Addr}{H H1 H2:Hp}(a:Ext ρ H ρ1 H1) (b:Ext ρ1 H1 ρ2 H2):Ext ρ H ρ2 H2 :=
 ⟨⟨fun n x h=>b.pre n x (a.pre n x h),fun n x h=>b.tup n x (a.tup n x h),fun n o x h=>b.frz n o x (a.frz n o x h)⟩,fun x vs h n=>let ⟨h1,n1⟩:=a.out x vs h n;b.out x vs h1 n1⟩
section
variable {ρ ρ':List Addr}{H H':Hp}
mutual
theorem RD.mono0 (e:Ext0 ρ H ρ' H'):∀{d:D}{v:V},RD ρ H d v->RD ρ' H' d v
 | _,_,.non=>.non
 | _,_,.bl b=>.bl b
 | _,_,.int i=>.int i
 | _,_,.str x=>.str x
 | _,_,.tup h r=>.tup (e.tup _ _ h) (RDs.mono0 e r)
 | _,_,.ref h=>.ref (e.pre _ _ h)
 | _,_,.fn a=>.fn a
theorem RDs.mono0 (e:Ext0 ρ H ρ' H'):∀{d:List D}{v:List V},RDs ρ H d v->RDs ρ' H' d v
 | _,_,.nil=>.nil
 | _,_,.cons r q=>.cons (RD.mono0 e r) (RDs.mono0 e q)
end
theorem RD.mono {d:D}{v:V}(r:RD ρ H d v) (e:Ext ρ H ρ' H'):RD ρ' H' d v:=r.mono0 e.toExt0
theorem RDs.mono {d:List D}{v:List V}(r:RDs ρ H d v) (e:Ext ρ H ρ' H'):RDs ρ' H' d v:=r.mono0 e.toExt0
theorem RDs.length:∀{d:List D}{v:List V},RDs ρ H d v->d.length=v.length
 | _,_,.nil=>rfl
 | _,_,.cons _ q=>congrArg (· + 1) (RDs.length q)
theorem RDs.get:∀{d:List D}{v:List V}{i:Nat}{x:D},RDs ρ H d v->d[i]? = some x->∃u,v[i]? = some u/\RD ρ H x u
 | _,_,_,_,.nil,e=>by simp at e
 | _,_,0,_,.cons r _,e=>by simp at e;subst e;exact ⟨_,rfl,r⟩
 | _,_,i+1,x,.cons _ q,e=>by
  obtain ⟨u,h1,h2⟩:=RDs.get (i:=i) (x:=x) q (by simpa using e)
  exact ⟨u,by simpa using h1,h2⟩
theorem RDs.set {x:D}{u:V}(r:RD ρ H x u):∀{d:List D}{v:List V}(i:Nat),RDs ρ H d v->RDs ρ H (d.set i x) (v.set i u)
 | _,_,_,.nil=>.nil
 | _,_,0,.cons _ q=>.cons r q
 | _,_,i+1,.cons p q=>.cons p (RDs.set r i q)
theorem RDs.append:∀{d e:List D}{v w:List V},RDs ρ H d v->RDs ρ H e w->RDs ρ H (d++e) (v++w)
 | _,_,_,_,.nil,q=>q
 | _,_,_,_,.cons r p,q=>.cons r (RDs.append p q)
theorem RDs.take:∀{d:List D}{v:List V}(n:Nat),RDs ρ H d v->RDs ρ H (d.take n) (v.take n)
 | _,_,0,_=>.nil
 | _,_,_+1,.nil=>.nil
 | _,_,n+1,.cons r t=>.cons r (RDs.take n t)
theorem RDs.drop:∀{d:List D}{v:List V}(n:Nat),RDs ρ H d v->RDs ρ H (d.drop n) (v.drop n)
 | _,_,0,r=>r
 | _,_,_+1,.nil=>.nil
 | _,_,n+1,.cons _ t=>RDs.drop n t
theorem RDs.rep {xs:List D}{us:List V}(h:RDs ρ H xs us):∀k:Nat,RDs ρ H (List.replicate k xs).flatten (List.replicate k us).flatten
 | 0=>.nil
 | k+1=>by
  rw [List.replicate_succ,List.replicate_succ,List.flatten_cons,List.flatten_cons]
  exact RDs.append h (RDs.rep h k)
theorem RDs.one {x:D}{vs:List V}(h:RDs ρ H [x] vs):∃v,vs=[v]/\RD ρ H x v:=by
 cases h with
 | cons r q=>cases q;exact ⟨_,rfl,r⟩
theorem RDs.two {x y:D}{vs:List V}(h:RDs ρ H [x,y] vs):∃v u,vs=[v,u]/\RD ρ H x v/\RD ρ H y u:=by
 cases h with
 | cons r q=>obtain ⟨u,rfl,r2⟩:=q.one;exact ⟨_,_,rfl,r,r2⟩
end
noncomputable def Fz (K:QFg) (H:Hp) (a:Addr) (xs:List V):Prop:=(∃o,H a=some (.frz o (.lst xs))) ∨
  ∃(o:Obj) (its:Array Value) (n:Nat),K.lookup a=some o/\o.cls=.type "list"/\o.dict=none/\o.data=.seq its n/\its.size<=sizeLine/\Vals xs its.toList
theorem Fz.sq {K:QFg}{H:Hp}{a:Addr}{xs:List V}(h:Fz K H a xs):SqL K H a xs:=by
 rcases h with ⟨o,h⟩|h
 ·exact .inl (.inr ⟨o,h⟩)
 ·exact .inr h
noncomputable def ObR (K:QFg) (ρ:List Addr) (H:Hp):Ob->Addr->Prop
 | .lst xs,a=>∃vs,H a=some (.lst vs)/\RDs ρ H xs vs
 | .flst xs,a=>∃vs,Fz K H a vs/\RDs ρ H xs vs
 | .iset f n,a=>H a=some (.set f n)
 | .dct kvs,a=>∃vs,H a=some (.dK ((kvs.map (·.1)).zip vs))/\RDs ρ H (kvs.map (·.2)) vs
 | .fdct kvs,a=>∃o vs,H a=some (.frz o (.dK ((kvs.map (·.1)).zip vs)))/\RDs ρ H (kvs.map (·.2)) vs
 | .tdct kvs,a=>∃vs,H a=some (.dT ((kvs.map (·.1)).zip vs))/\RDs ρ H (kvs.map (·.2)) vs
 | .ftdct kvs,a=>∃o vs,H a=some (.frz o (.dT ((kvs.map (·.1)).zip vs)))/\RDs ρ H (kvs.map (·.2)) vs
 | .tset ks,a=>∃xs:List (List Int × Addr),ks=xs.map (·.1)/\H a=some (.ext (TS.TSet a xs))/\∀p∈xs,H p.2=some (.tup (p.1.map V.int))
 | .fnc x,a=>PySem.W.nsIn K mainGlobals x=some (some (.ref a))/\∃o,K.lookup a=some o
 | .exc c,a=>∃C,PySem.W.nsIn K mainGlobals c=some (some (.ref C))/\H a=some (.ext (fun h=>∃o,h.get? a=some o/\o.cls=.ref C))
structure Sim (K:QFg) (ρ:List Addr) (S:Sto) (H:Hp):Prop where
 len:ρ.length=S.length
 nd:∀(i j:Nat) (a:Addr) (o1 o2:Ob),ρ[i]? = some a->ρ[j]? = some a->S[i]? = some o1->S[j]? = some o2->o1.mut=true->o2.mut=true->i=j
 at':∀(n:Nat) (a:Addr) (o:Ob),ρ[n]? = some a->S[n]? = some o->ObR K ρ H o a
section
variable {K:QFg}{ρ ρ':List Addr}{H:Hp}{S:Sto}
theorem zc5 {p:Addr}{o:HO}(hp:H p=none):Ext ρ H ρ (upd H p o) :=
 ⟨⟨fun _ _ h=>h,fun a vs h=>by rw [za7 (zb9 h hp)];exact h,fun a o vs h=>by rw [za7 (zb9 h hp)];exact h⟩,fun a vs h n=>⟨by rw [za7 (zb9 h hp)];exact h,n⟩⟩
theorem zfe {p:Addr}{o:HO}{ys:List V}(hp:H p=some (.lst ys)):Ext0 ρ H ρ (upd H p o) :=
 ⟨fun _ _ h=>h,fun a vs h=>by rw [za7 (zf9 h hp (by intro z;cases z))];exact h,fun a o vs h=>by rw [za7 (zf9 h hp (by intro z;cases z))];exact h⟩
noncomputable def zgr (u:HO):Prop:=(∀vs,u≠.tup vs)/\∀o v,u≠.frz o v
theorem zpr (ys:List V):zgr (.lst ys):=⟨fun _ z=>(by cases z),fun _ _ z=>(by cases z)⟩
theorem zgd {p:Addr}{o u:HO}(hp:H p=some u) (hu:zgr u):Ext0 ρ H ρ (upd H p o) :=
 ⟨fun _ _ h=>h,fun a vs h=>by rw [za7 (zf9 h hp (fun z=>hu.1 vs z.symm))];exact h,fun a o vs h=>by rw [za7 (zf9 h hp (fun z=>hu.2 o vs z.symm))];exact h⟩
theorem zmk {p:Addr}{o u:HO}{n:Nat}(hn:ρ[n]? = some p) (hp:H p=some u) (hu:zgr u):Ext ρ H ρ (upd H p o) :=
 ⟨zgd hp hu,fun a vs h hm=>⟨by rw [za7 (fun z=>hm n (by rw [z];exact hn))];exact h,hm⟩⟩
theorem zkp {p:Addr}{o:HO}{ys:List V}{n:Nat}(hn:ρ[n]? = some p) (hp:H p=some (.lst ys)):Ext ρ H ρ (upd H p o) :=
 ⟨zfe hp,fun a vs h hm=>⟨by rw [za7 (fun z=>hm n (by rw [z];exact hn))];exact h,hm⟩⟩
theorem ObR.laid {o:Ob}{a p:Addr}{u:HO}(h:ObR K ρ H o a) (hp:H p=none):ObR K ρ (upd H p u) o a:=by
 cases o with
 | lst xs =>
  obtain ⟨vs,e,r⟩:=h
  exact ⟨vs,by rw [za7 (zb9 e hp)];exact e,r.mono (zc5 hp)⟩
 | flst xs =>
  obtain ⟨vs,e,r⟩:=h
  refine ⟨vs,?_,r.mono (zc5 hp)⟩
  rcases e with ⟨o,e⟩|e
  ·exact .inl ⟨o,by rw [za7 (zb9 e hp)];exact e⟩
  ·exact .inr e
 | iset f n =>
  show upd H p u a=some (.set f n)
  have e:H a=some (.set f n):=h
  rw [za7 (zb9 e hp)];exact e
 | dct kvs =>
  obtain ⟨vs,e,r⟩:=h
  exact ⟨vs,by rw [za7 (zb9 e hp)];exact e,r.mono (zc5 hp)⟩
 | fdct kvs =>
  obtain ⟨o,vs,e,r⟩:=h
  exact ⟨o,vs,by rw [za7 (zb9 e hp)];exact e,r.mono (zc5 hp)⟩
 | tdct kvs =>
  obtain ⟨vs,e,r⟩:=h
  exact ⟨vs,by rw [za7 (zb9 e hp)];exact e,r.mono (zc5 hp)⟩
 | ftdct kvs =>
  obtain ⟨o,vs,e,r⟩:=h
  exact ⟨o,vs,by rw [za7 (zb9 e hp)];exact e,r.mono (zc5 hp)⟩
 | tset ks =>
  obtain ⟨xs,e0,e,r⟩:=h
  exact ⟨xs,e0,by rw [za7 (zb9 e hp)];exact e,fun p hq=>by rw [za7 (zb9 (r p hq) hp)];exact r p hq⟩
 | fnc x=>exact h
 | exc c =>
  obtain ⟨C,hc,e⟩:=h
  exact ⟨C,hc,by rw [za7 (zb9 e hp)];exact e⟩
theorem ObR.writtenG {o:Ob}{a p:Addr}{u u0:HO}(h:ObR K ρ H o a) (hp:H p=some u0) (hu:zgr u0) (hn:o.mut=true->a≠p):ObR K ρ (upd H p u) o a:=by
 cases o with
 | lst xs =>
  obtain ⟨vs,e,r⟩:=h
  exact ⟨vs,by rw [za7 (hn rfl)];exact e,r.mono0 (zgd hp hu)⟩
 | flst xs =>
  obtain ⟨vs,e,r⟩:=h
  refine ⟨vs,?_,r.mono0 (zgd hp hu)⟩
  rcases e with ⟨o,e⟩|e
  ·exact .inl ⟨o,by rw [za7 (zf9 e hp (fun z=>hu.2 _ _ z.symm))];exact e⟩
  ·exact .inr e
 | iset f n =>
  show upd H p u a=some (.set f n)
  rw [za7 (hn rfl)];exact h
 | dct kvs =>
  obtain ⟨vs,e,r⟩:=h
  exact ⟨vs,by rw [za7 (hn rfl)];exact e,r.mono0 (zgd hp hu)⟩
 | tdct kvs =>
  obtain ⟨vs,e,r⟩:=h
  exact ⟨vs,by rw [za7 (hn rfl)];exact e,r.mono0 (zgd hp hu)⟩
 | fdct kvs =>
  obtain ⟨o,vs,e,r⟩:=h
  exact ⟨o,vs,by rw [za7 (hn rfl)];exact e,r.mono0 (zgd hp hu)⟩
 | ftdct kvs =>
  obtain ⟨o,vs,e,r⟩:=h
  exact ⟨o,vs,by rw [za7 (hn rfl)];exact e,r.mono0 (zgd hp hu)⟩
 | tset ks =>
  obtain ⟨xs,e0,e,r⟩:=h
  exact ⟨xs,e0,by rw [za7 (hn rfl)];exact e,fun p hq=>(zgd (ρ:=ρ) hp hu).tup _ _ (r p hq)⟩
 | fnc x=>exact h
 | exc c =>
  obtain ⟨C,hc,e⟩:=h
  exact ⟨C,hc,by rw [za7 (hn rfl)];exact e⟩
theorem ObR.written {o:Ob}{a p:Addr}{u:HO}{ys:List V}(h:ObR K ρ H o a) (hp:H p=some (.lst ys)) (hn:o.mut=true->a≠p):ObR K ρ (upd H p u) o a:=h.writtenG hp (zpr ys) hn
theorem ObR.more {o:Ob}{a:Addr}(h:ObR K ρ H o a) (e:Ext0 ρ H ρ' H):ObR K ρ' H o a:=by
 cases o with
 | lst xs=>obtain ⟨vs,e1,r⟩:=h;exact ⟨vs,e1,r.mono0 e⟩
 | flst xs=>obtain ⟨vs,e1,r⟩:=h;exact ⟨vs,e1,r.mono0 e⟩
 | iset f n=>exact h
 | dct kvs=>obtain ⟨vs,e1,r⟩:=h;exact ⟨vs,e1,r.mono0 e⟩
 | tdct kvs=>obtain ⟨vs,e1,r⟩:=h;exact ⟨vs,e1,r.mono0 e⟩
 | fdct kvs=>obtain ⟨o,vs,e1,r⟩:=h;exact ⟨o,vs,e1,r.mono0 e⟩
 | ftdct kvs=>obtain ⟨o,vs,e1,r⟩:=h;exact ⟨o,vs,e1,r.mono0 e⟩
 | tset ks=>exact h
 | fnc x=>exact h
 | exc c=>exact h
theorem Sim.laid (s:Sim K ρ S H) {p:Addr}{u:HO}(hp:H p=none):Sim K ρ S (upd H p u) :=
 ⟨s.len,s.nd,fun n a o h1 h2=>(s.at' n a o h1 h2).laid hp⟩
theorem Sim.lst {n:Nat}{xs:List D}(s:Sim K ρ S H) (h:S[n]? = some (.lst xs)):∃a vs,ρ[n]? = some a/\H a=some (.lst vs)/\RDs ρ H xs vs:=by
 have hl:n<ρ.length:=by rw [s.len];exact (qme h).1
 obtain ⟨vs,e,r⟩:=s.at' n _ _ (qge hl) h
 exact ⟨_,vs,qge hl,e,r⟩
noncomputable def lstOf (S:Sto) (n:Nat):Option (List D):=match S[n]? with
 | some (.lst xs)=>some xs
 | some (.flst xs)=>some xs
 | _=>none
theorem Sim.lstOf {n:Nat}{xs:List D}(s:Sim K ρ S H) (h:L3.lstOf S n=some xs):∃a vs,ρ[n]? = some a/\SqL K H a vs/\RDs ρ H xs vs:=by
 unfold L3.lstOf at h
 cases e:S[n]? with
 | none=>rw [e] at h;cases h
 | some o =>
  have hl:n<ρ.length:=by rw [s.len];exact (qme e).1
  have q:=s.at' n _ _ (qge hl) e
  rw [e] at h
  cases o with
  | lst ys =>
   cases h
   obtain ⟨vs,e1,r⟩:=q
   exact ⟨_,vs,qge hl,.inl (.inl e1),r⟩
  | flst ys =>
   cases h
   obtain ⟨vs,e1,r⟩:=q
   exact ⟨_,vs,qge hl,e1.sq,r⟩
  | iset f n=>cases h
  | dct kvs=>cases h
  | fdct kvs=>cases h
  | ftdct kvs=>cases h
  | tset ks=>cases h
  | fnc x=>cases h
  | tdct kvs=>cases h
  | exc c=>cases h
theorem Sim.setG {n:Nat}{a:Addr}{o0 o1:Ob}{u0 u1:HO}(s:Sim K ρ S H) (ha:ρ[n]? = some a) (hS:S[n]? = some o0) (hm0:o0.mut=true) (hH:H a=some u0) (hu:zgr u0) (r:ObR K ρ (upd H a u1) o1 a):Sim K ρ (S.set n o1) (upd H a u1):=by
 have hl:n<S.length:=(qme hS).1
 have key:∀(m:Nat) (w:Ob),w.mut=true->(S.set n o1)[m]? = some w->∃w',S[m]? = some w'/\w'.mut=true:=fun m w hw h=>by
  by_cases hmn:n=m
  ·subst hmn;exact ⟨_,hS,hm0⟩
  ·rw [List.getElem?_set_ne hmn] at h;exact ⟨_,h,hw⟩
 refine ⟨by rw [List.length_set];exact s.len,fun i j b x1 x2 h1 h2 h3 h4 m1 m2=>?_,fun m b o h1 h2=>?_⟩
 ·obtain ⟨_,h3,q3⟩:=key i x1 m1 h3
  obtain ⟨_,h4,q4⟩:=key j x2 m2 h4
  exact s.nd i j b _ _ h1 h2 h3 h4 q3 q4
 by_cases hmn:n=m
 ·subst hmn
  rw [ha] at h1;cases h1
  rw [List.getElem?_set_self hl] at h2
  cases h2
  exact r
 ·rw [List.getElem?_set_ne hmn] at h2
  exact (s.at' m b o h1 h2).writtenG hH hu (fun e z=>hmn (s.nd n m a _ _ ha (by rw [h1,z]) hS h2 hm0 e))
theorem Sim.set {n:Nat}{a:Addr}{ys:List V}{xs zs:List D}{vs:List V}(s:Sim K ρ S H) (ha:ρ[n]? = some a) (hS:S[n]? = some (.lst zs)) (hH:H a=some (.lst ys)) (r:RDs ρ H xs vs):Sim K ρ (S.set n (.lst xs)) (upd H a (.lst vs)) :=
 s.setG ha hS rfl hH (zpr ys) ⟨vs,zcz,r.mono0 (zfe hH)⟩
theorem ext0_push {a:Addr}:Ext0 ρ H (ρ++[a]) H :=
 ⟨fun n b h=>by rw [List.getElem?_append_left (qme h).1];exact h,fun _ _ h=>h,fun _ _ _ h=>h⟩
theorem zc3 {α:Type}{l:List α}{a b:α}{n:Nat}(h:(l++[a])[n]? = some b):l[n]? = some b∨(n=l.length/\b=a):=by
 by_cases hl:n<l.length
 ·rw [List.getElem?_append_left hl] at h;exact .inl h
 ·rw [List.getElem?_append_right (by omega)] at h
  have:n-l.length=0:=by
   have:=(qme h).1
   simp at this;omega
  rw [this] at h;simp at h
  exact .inr ⟨by omega,h.symm⟩
theorem zps {a:Addr}{vs:List V}(ha:H a=none):Ext ρ H (ρ++[a]) (upd H a (.lst vs)) :=
 ⟨⟨ext0_push.pre (H:=H),fun b us h=>by rw [za7 (zb9 h ha)];exact h,fun b o us h=>by rw [za7 (zb9 h ha)];exact h⟩,fun b us h n=>⟨by rw [za7 (zb9 h ha)];exact h,fun i hi=>by
  rcases zc3 hi with hi|⟨_,e⟩
  ·exact n i hi
  ·rw [e,ha] at h;cases h⟩⟩
theorem zkq {a:Addr}{u:HO}(ha:H a=none):Ext ρ H (ρ++[a]) (upd H a u) :=
 ⟨⟨ext0_push.pre (H:=H),fun b us h=>by rw [za7 (zb9 h ha)];exact h,fun b o us h=>by rw [za7 (zb9 h ha)];exact h⟩,fun b us h n=>⟨by rw [za7 (zb9 h ha)];exact h,fun i hi=>by
  rcases zc3 hi with hi|⟨_,e⟩
  ·exact n i hi
  ·rw [e,ha] at h;cases h⟩⟩
theorem Sim.pushG {a:Addr}{o1:Ob}{u:HO}(s:Sim K ρ S H) (ha:H a=none) (r:ObR K (ρ++[a]) (upd H a u) o1 a):Sim K (ρ++[a]) (S++[o1]) (upd H a u):=by
 have no:∀(n:Nat) (o:Ob),o.mut=true->ρ[n]? = some a->S[n]? = some o->False:=fun n o hm h1 h2=>by
  have q:=s.at' n a _ h1 h2
  cases o with
  | lst xs=>obtain ⟨vs,e,_⟩:=q;rw [ha] at e;cases e
  | flst xs=>cases hm
  | iset f n=>have q:H a=_:=q;rw [ha] at q;cases q
  | dct kvs=>obtain ⟨vs,e,_⟩:=q;rw [ha] at e;cases e
  | tdct kvs=>obtain ⟨vs,e,_⟩:=q;rw [ha] at e;cases e
  | fdct kvs=>obtain ⟨o,vs,e,_⟩:=q;rw [ha] at e;cases e
  | ftdct kvs=>obtain ⟨o,vs,e,_⟩:=q;rw [ha] at e;cases e
  | tset ks=>obtain ⟨xs,_,e,_⟩:=q;rw [ha] at e;cases e
  | fnc x=>cases hm
  | exc c=>obtain ⟨C,_,e⟩:=q;rw [ha] at e;cases e
 refine ⟨by simp [s.len],fun i j b x1 x2 h1 h2 h3 h4 m1 m2=>?_,fun n b o h1 h2=>?_⟩
 ·rcases zc3 h3 with h3|⟨e3,_⟩ <;> rcases zc3 h4 with h4|⟨e4,_⟩
  ·have l1:=(qme h3).1
   have l2:=(qme h4).1
   rcases zc3 h1 with h1|⟨e1,f1⟩ <;> rcases zc3 h2 with h2|⟨e2,f2⟩
   ·exact s.nd i j b _ _ h1 h2 h3 h4 m1 m2
   ·have:=s.len;omega
   ·have:=s.len;omega
   ·have:=s.len;omega
  ·have l1:=(qme h3).1
   rcases zc3 h2 with h2|⟨e2,f2⟩
   ·have:=(qme h2).1;have:=s.len;omega
   ·subst f2
    rcases zc3 h1 with h1|⟨e1,_⟩
    ·exact (no i _ m1 h1 h3).elim
    ·have:=s.len;omega
  ·have l1:=(qme h4).1
   rcases zc3 h1 with h1|⟨e2,f2⟩
   ·have:=(qme h1).1;have:=s.len;omega
   ·subst f2
    rcases zc3 h2 with h2|⟨e1,_⟩
    ·exact (no j _ m2 h2 h4).elim
    ·have:=s.len;omega
  ·omega
 ·rcases zc3 h2 with h2|⟨e2,f2⟩
  ·rcases zc3 h1 with h1|⟨e1,f1⟩
   ·exact ((s.at' n b o h1 h2).laid ha).more ext0_push
   ·have:=(qme h2).1;have:=s.len;omega
  ·rcases zc3 h1 with h1|⟨e1,f1⟩
   ·have:=(qme h1).1;have:=s.len;omega
   ·subst f1 f2
    exact r
theorem Sim.push {a:Addr}{xs:List D}{vs:List V}(s:Sim K ρ S H) (ha:H a=none) (r:RDs ρ H xs vs):Sim K (ρ++[a]) (S++[.lst xs]) (upd H a (.lst vs)) :=
 s.pushG ha ⟨vs,zcz,r.mono (zps ha)⟩
theorem zbx {α:Type}(l:List α) (a:α):(l++[a])[l.length]? = some a:=by
 rw [List.getElem?_append_right (qlr _)];simp
end
structure RO (ρ:List Addr) (H:Hp) (l:Lo) (σ:St):Prop where
 len:l.length=σ.length
 get:∀(i:Nat) (d:D),l[i]? = some (some d)->∃v,σ[i]? = some (some v)/\RD ρ H d v
theorem RO.mono {ρ ρ':List Addr}{H H':Hp}{l:Lo}{σ:St}(r:RO ρ H l σ) (e:Ext ρ H ρ' H'):RO ρ' H' l σ :=
 ⟨r.len,fun i d h=>let ⟨v,h1,h2⟩:=r.get i d h;⟨v,h1,h2.mono e⟩⟩
theorem RO.set {ρ:List Addr}{H:Hp}{l:Lo}{σ:St}{d:D}{v:V}(r:RO ρ H l σ) (i:Nat) (h:RD ρ H d v):RO ρ H (l.set i (some d)) (σ.set i (some v)):=by
 refine ⟨by simp [r.len],fun j x hj=>?_⟩
 by_cases hij:i=j
 ·subst hij
  have hl:i<l.length:=by have:=(qme hj).1;simpa using this
  rw [List.getElem?_set_self hl] at hj
  cases hj
  exact ⟨v,List.getElem?_set_self (by rw [←r.len];exact hl),h⟩
 ·rw [List.getElem?_set_ne hij] at hj
  rw [List.getElem?_set_ne hij]
  exact r.get j x hj
noncomputable abbrev EM:=Lo->Sto->Option (D × Sto)
noncomputable abbrev TM:=Lo->Sto->Option (Bool × Sto)
noncomputable abbrev AM:=Lo->Sto->Option (List D × Sto)
noncomputable abbrev FM:=List D->Sto->Option (D × Sto)
inductive Fl where
 | nx|bk|ct|rt (d:D)
noncomputable abbrev SM:=Lo->Sto->Option (Fl × Lo × Sto)
noncomputable abbrev GM:=D->Lo->Sto->Option (Lo × Sto)
noncomputable abbrev GsM:=List D->Lo->Sto->Option (Lo × Sto)
noncomputable def Pv (K:QFg) (ρ:List Addr) (H:Hp) (v:D) (S:Sto) (Q:VK):Prop:=∀ρ' H' v',Ext ρ H ρ' H'->Sim K ρ' S H'->RD ρ' H' v v'->Q v' H'
theorem Pv.ext {K:QFg}{ρ ρ1:List Addr}{H H1:Hp}{v:D}{S:Sto}{Q:VK}(p:Pv K ρ H v S Q) (e:Ext ρ H ρ1 H1):Pv K ρ1 H1 v S Q:=fun ρ' H' v' e' s r=>p ρ' H' v' (e.trans e') s r
inductive te (K:QFg) (m:EM) (σ:St) (H:Hp) (Q:VK):Prop
 | mk (ρ:_) (l:_) (S:_) (v:_) (S':_) (_:Sim K ρ S H) (_:RO ρ H l σ) (_:m l S=some (v,S')) (_:Pv K ρ H v S' Q)
inductive tt (K:QFg) (m:TM) (σ:St) (H:Hp) (Q:Bool->Hp->Prop):Prop
 | mk (ρ:_) (l:_) (S:_) (v:_) (S':_) (_:Sim K ρ S H) (_:RO ρ H l σ) (_:m l S=some (v,S')) (_:∀ρ' H',Ext ρ H ρ' H'->Sim K ρ' S' H'->Q v H')
inductive ta (K:QFg) (m:AM) (σ:St) (H:Hp) (Q:List V->Hp->Prop):Prop
 | mk (ρ:_) (l:_) (S:_) (v:_) (S':_) (_:Sim K ρ S H) (_:RO ρ H l σ) (_:m l S=some (v,S')) (_:∀ρ' H' vs,Ext ρ H ρ' H'->Sim K ρ' S' H'->RDs ρ' H' v vs->Q vs H')
noncomputable def zge (ρ:List Addr) (H:Hp) (E:Ends) (σ:St):Fl->Prop
 | .nx=>E.nx σ H
 | .bk=>E.bk σ H
 | .ct=>E.ct σ H
 | .rt d=>∀v,RD ρ H d v->E.rt v H
inductive ts (K:QFg) (m:SM) (E:Ends) (σ:St) (H:Hp):Prop
 | mk (ρ:_) (l:_) (S:_) (f:_) (l':_) (S':_) (_:Sim K ρ S H) (_:RO ρ H l σ) (_:m l S=some (f,l',S')) (_:∀ρ' H' σ',Ext ρ H ρ' H'->Sim K ρ' S' H'->RO ρ' H' l' σ'->zge ρ' H' E σ' f)
inductive tg (K:QFg) (g:GM) (v:V) (σ:St) (H:Hp) (Q:St->Hp->Prop):Prop
 | mk (ρ:_) (l:_) (S:_) (d:_) (l':_) (S':_) (_:Sim K ρ S H) (_:RO ρ H l σ) (_:RD ρ H d v) (_:g d l S=some (l',S')) (_:∀ρ' H' σ',Ext ρ H ρ' H'->Sim K ρ' S' H'->RO ρ' H' l' σ'->Q σ' H')
inductive tgs (K:QFg) (g:GsM) (vs:List V) (σ:St) (H:Hp) (Q:St->Hp->Prop):Prop
 | mk (ρ:_) (l:_) (S:_) (ds:_) (l':_) (S':_) (_:Sim K ρ S H) (_:RO ρ H l σ) (_:RDs ρ H ds vs) (_:g ds l S=some (l',S')) (_:∀ρ' H' σ',Ext ρ H ρ' H'->Sim K ρ' S' H'->RO ρ' H' l' σ'->Q σ' H')
noncomputable def PE3 (X:Cx) (e:Expr) (m:EM):Prop:=PE X e (te X.K m)
noncomputable def PT3 (X:Cx) (e:Expr) (m:TM):Prop:=PT X e (tt X.K m)
noncomputable def PW3 (X:Cx) (e:Expr) (m:TM):Prop:=PW X e (tt X.K m)
noncomputable def PA3 (X:Cx) (es:List Expr) (m:AM):Prop:=PA X es (ta X.K m)
noncomputable def PS3 (X:Cx) (st:Stmt) (m:SM):Prop:=PS X st (ts X.K m)
noncomputable def zd2 (X:Cx) (st:List Stmt) (m:SM):Prop:=PSs X st (ts X.K m)
noncomputable def PG3 (X:Cx) (tg':Expr) (m:GM):Prop:=PG X tg' (tg X.K m)
noncomputable def zkr (X:Cx) (ts':List Expr) (m:GsM):Prop:=PGs X ts' (tgs X.K m)
theorem PE.imp {X:Cx}{e:Expr}{t u:TE}(h:PE X e t) (i:∀σ H Q,u σ H Q->t σ H Q):PE X e u:=fun pins s σ H Q I q=>h pins s σ H Q I (i _ _ _ q)
theorem PT.imp {X:Cx}{e:Expr}{t u:TT}(h:PT X e t) (i:∀σ H Q,u σ H Q->t σ H Q):PT X e u:=fun pins s σ H Q I q=>h pins s σ H Q I (i _ _ _ q)
theorem PW.imp {X:Cx}{e:Expr}{t u:TT}(h:PW X e t) (i:∀σ H Q,u σ H Q->t σ H Q):PW X e u:=fun wh pins s σ H Q I q=>h wh pins s σ H Q I (i _ _ _ q)
theorem PA.imp {X:Cx}{e:List Expr}{t u:TA}(h:PA X e t) (i:∀σ H Q,u σ H Q->t σ H Q):PA X e u:=fun pos pins s σ H Q I q=>h pos pins s σ H Q I (i _ _ _ q)
theorem PS.imp {X:Cx}{e:Stmt}{t u:TS}(h:PS X e t) (i:∀E σ H,u E σ H->t E σ H):PS X e u:=fun pins s σ H Q I q=>h pins s σ H Q I (i _ _ _ q)
theorem PSs.imp {X:Cx}{e:List Stmt}{t u:TS}(h:PSs X e t) (i:∀E σ H,u E σ H->t E σ H):PSs X e u:=fun pins s σ H Q I q=>h pins s σ H Q I (i _ _ _ q)
theorem PG.imp {X:Cx}{e:Expr}{t u:TG}(h:PG X e t) (i:∀v σ H Q,u v σ H Q->t v σ H Q):PG X e u:=fun pins s σ H v w Q I r q=>h pins s σ H v w Q I r (i _ _ _ _ q)
theorem PGs.imp {X:Cx}{e:List Expr}{t u:TGs}(h:PGs X e t) (i:∀v σ H Q,u v σ H Q->t v σ H Q):PGs X e u:=fun pins s σ H v w Q I r q=>h pins s σ H v w Q I r (i _ _ _ _ q)
inductive Bnd {α β:Type} (o:Option α) (f:α->Option β) (b:β):Prop
 | mk (a:α) (_:o=some a) (_:f a=some b)
theorem bnd {α β:Type}{o:Option α}{f:α->Option β}{b:β}(h:o.bind f=some b):Bnd o f b:=by
 obtain ⟨a,h1,h2⟩:=Option.bind_eq_some_iff.mp h
 exact ⟨a,h1,h2⟩
noncomputable def zaa (i:Nat):EM:=fun l S=>match l[i]? with
 | some (some d)=>some (d,S)
 | _=>none
noncomputable def eC (d:D):EM:=fun _ S=>some (d,S)
noncomputable def eOp (f:D->D->Sto->Option (D × Sto)) (a b:EM):EM:=fun l S=>(a l S).bind fun p=>(b l p.2).bind fun q=>f p.1 q.1 q.2
noncomputable def eUn (f:D->Sto->Option (D × Sto)) (a:EM):EM:=fun l S=>(a l S).bind fun p=>f p.1 p.2
noncomputable def zaf:AM:=fun _ S=>some ([],S)
noncomputable def zac (a:EM) (r:AM):AM:=fun l S=>(a l S).bind fun p=>(r l p.2).bind fun q=>some (p.1 :: q.1,q.2)
noncomputable def zag (f:FM) (as:AM):EM:=fun l S=>(as l S).bind fun p=>f p.1 p.2
noncomputable def tE (a:EM):TM:=fun l S=>(a l S).bind fun p=>match p.1 with
 | .bl b=>some (b,p.2)
 | _=>none
noncomputable def zev (a b:TM):TM:=fun l S=>(a l S).bind fun p=>if p.1=true then b l p.2 else some (false,p.2)
noncomputable def zff (a b:TM):TM:=fun l S=>(a l S).bind fun p=>if p.1=true then some (true,p.2) else b l p.2
noncomputable def zfs (a:TM):TM:=fun l S=>(a l S).bind fun p=>some (!p.1,p.2)
noncomputable def zgs (a b:EM):EM:=fun l S=>(a l S).bind fun p=>match p.1 with
 | .bl true=>b l p.2
 | .bl false=>some (.bl false,p.2)
 | _=>none
noncomputable def zhs (a b:EM):EM:=fun l S=>(a l S).bind fun p=>match p.1 with
 | .bl true=>some (.bl true,p.2)
 | .bl false=>b l p.2
 | _=>none
noncomputable def zks (a:EM):EM:=fun l S=>(a l S).bind fun p=>match p.1 with
 | .bl b=>some (.bl (!b),p.2)
 | _=>none
noncomputable def ziq (c:TM) (a b:EM):EM:=fun l S=>(c l S).bind fun p=>if p.1=true then a l p.2 else b l p.2
noncomputable def Op3 (K:QFg) (f:D->D->Sto->Option (D × Sto)) (r:R2):Prop :=
 ∀ρ S H x y x' y' v S' Q,Sim K ρ S H->RD ρ H x x'->RD ρ H y y'->f x y S=some (v,S')->Pv K ρ H v S' Q->r x' y' H Q
noncomputable def Fn3 (K:QFg) (f:FM) (r:List V->Hp->VK->Prop):Prop :=
 ∀ρ S H xs vs v S' Q,Sim K ρ S H->RDs ρ H xs vs->f xs S=some (v,S')->Pv K ρ H v S' Q->r vs H Q
noncomputable def Mt3 (K:QFg) (f:D->List D->Sto->Option (D × Sto)) (r:V->List V->Hp->VK->Prop):Prop :=
 ∀ρ S H x x' xs vs v S' Q,Sim K ρ S H->RD ρ H x x'->RDs ρ H xs vs->f x xs S=some (v,S')->Pv K ρ H v S' Q->r x' vs H Q
theorem zht {K:QFg}{f:D->D->Sto->Option (D × Sto)}{r:R2}(h:Op3 K f r) {a b:EM}(σ:St) (H:Hp) (Q:VK) (q:te K (eOp f a b) σ H Q):tOp r (te K a) (te K b) σ H Q:=by
 obtain ⟨ρ,l,S,v,S',sim,ro,hm,p⟩:=q
 obtain ⟨⟨x,S1⟩,h1,hm⟩:=bnd hm
 obtain ⟨⟨y,S2⟩,h2,hm⟩:=bnd hm
 exact ⟨ρ,l,S,x,S1,sim,ro,h1,fun ρ1 H1 x' e1 s1 r1=>⟨ρ1,l,S1,y,S2,s1,ro.mono e1,h2,fun ρ2 H2 y' e2 s2 r2=>h ρ2 S2 H2 x y x' y' v S' Q s2 (r1.mono e2) r2 hm (p.ext (e1.trans e2))⟩⟩
section
variable {X:Cx}{a b c:Expr}{es:List Expr}{ma mb:EM}{mA:AM}{pos:Pos}
theorem zab (i:Nat) {x:Str}(hN:X.N[i]? = some x:=by rfl) (hv:Vis X.env.scope x:=by first|exact Or.inl rfl|exact Or.inr (Or.inl rfl)|exact Or.inr (Or.inr rfl)) (hd:(x == ("__debug__":Str))=false:=by decide)
  (hcd:(x == ("__classdict__":Str))=false:=by decide):PE3 X (.Name x pos) (zaa i) :=
 PE.imp (zoj hN hv hd hcd) fun σ H Q hx1_=>by
  obtain ⟨ρ,l,S,v,S',sim,ro,hm,p⟩:=hx1_
  unfold zaa at hm
  split at hm
  ·rename_i d e
   cases hm
   obtain ⟨w,h1,h2⟩:=ro.get i _ e
   exact ⟨w,h1,p ρ H w (Ext.refl ..) sim h2⟩
  ·cases hm
theorem zir {K:QFg}{d:D}{v:V}(h:∀ρ H,RD ρ H d v) (σ:St) (H:Hp) (Q:VK) (q:te K (eC d) σ H Q):tC v σ H Q:=by
 obtain ⟨ρ,l,S,w,S',sim,ro,hm,p⟩:=q
 cases hm
 exact p ρ H v (Ext.refl ..) sim (h ρ H)
theorem zak {i j}:PE3 X (.Constant (.int i) j pos) (eC (.int i)):=PE.imp zlx (zir fun _ _=>.int i)
theorem zfg {i j}:PE3 X (.Constant (.bool i) j pos) (eC (.bl i)):=PE.imp zv4 (zir fun _ _=>.bl i)
theorem zdd {j}:PE3 X (.Constant .none j pos) (eC .non):=PE.imp zv5 (zir fun _ _=>.non)
theorem zco {i j}:PE3 X (.Constant (.str i) j pos) (eC (.str i)):=PE.imp zkh (zir fun _ _=>.str i)
theorem zml {x:Str}{i:Int}{t:Tok}(hg:Gl X x) (hm:X.mg x=some (.int i t)) (hd:(x == ("__debug__":Str))=false:=by decide):PE3 X (.Name x pos) (eC (.int i)) :=
 PE.imp (zv6 hg hm (v:=.int i) ⟨t,rfl⟩ hd) (zir fun _ _=>.int i)
theorem zfh {op:Operator}{f:D->D->Sto->Option (D × Sto)}{r:R2}(ho:OpR X (binaryOp op) r) (h3:Op3 X.K f r) (ha:PE3 X a ma) (hb:PE3 X b mb):PE3 X (.BinOp a op b pos) (eOp f ma mb):=PE.imp (zxn ho ha hb) (zht h3)
theorem zpt {op:CmpOp}{f:D->D->Sto->Option (D × Sto)}{r:R2}(ho:OpR X (compareOp op) r) (h3:Op3 X.K f r) (ha:PE3 X a ma) (hb:PE3 X b mb) (hm:behindInMarks op b=false):PE3 X (.Compare a [op] [b] pos) (eOp f ma mb):=PE.imp (zx1 ho ha hb hm) (zht h3)
theorem zpu {K:QFg}{m:EM}(σ:St) (H:Hp) (Q:Bool->Hp->Prop) (q:tt K (tE m) σ H Q):te K m σ H fun x H'=>∃k,x=.bl k/\Q k H':=by
 obtain ⟨ρ,l,S,v,S',sim,ro,hm,p⟩:=q
 obtain ⟨⟨x,S1⟩,h1,hm⟩:=bnd hm
 refine ⟨ρ,l,S,x,S1,sim,ro,h1,fun ρ' H' v' e s r=>?_⟩
 cases r with
 | bl k=>cases hm;exact ⟨_,rfl,p ρ' H' e s⟩
 | _=>cases hm
theorem zfi {op:CmpOp}{f:D->D->Sto->Option (D × Sto)}{r:R2}(ho:OpR X (compareOp op) r) (h3:Op3 X.K f r) (ha:PE3 X a ma) (hb:PE3 X b mb) (hm:behindInMarks op b=false):PT3 X (.Compare a [op] [b] pos) (tE (eOp f ma mb)) :=
 PT.imp (zx3 ho ha hb hm) fun σ H Q q=>zht h3 σ H _ (zpu σ H Q q)
theorem zgf {m:EM}(h:PE3 X a m) (he:∀whole,isTrue a X.env whole=(do let v ←whole;standAt a.pos;holding [v] (truthy v)):=by intro _;rfl):PT3 X a (tE m) :=
 PT.imp (zv8 h he) fun σ H Q q=>zpu σ H Q q
noncomputable def zhu (f g:D->D->Sto->Option (D × Sto)) (a b c:EM):EM:=fun l S=>(a l S).bind fun p=>(b l p.2).bind fun q=>(f p.1 q.1 q.2).bind fun r=>match r.1 with
 | .bl true=>(c l r.2).bind fun s=>g q.1 s.1 s.2
 | .bl false=>some (.bl false,r.2)
 | _=>none
theorem zzv {K:QFg}{f g:D->D->Sto->Option (D × Sto)}{r r':R2}(h:Op3 K f r) (h':Op3 K g r') {a b c:EM}(σ:St) (H:Hp) (Q:VK) (q:te K (zhu f g a b c) σ H Q):zou r r' (te K a) (te K b) (te K c) σ H Q:=by
 obtain ⟨ρ,l,S,v,S',sim,ro,hm,p⟩:=q
 obtain ⟨⟨x,S1⟩,h1,hm⟩:=bnd hm
 obtain ⟨⟨y,S2⟩,h2,hm⟩:=bnd hm
 obtain ⟨⟨z,S3⟩,h3,hm⟩:=bnd hm
 refine ⟨ρ,l,S,x,S1,sim,ro,h1,fun ρ1 H1 x' e1 s1 r1=>⟨ρ1,l,S1,y,S2,s1,ro.mono e1,h2,fun ρ2 H2 y' e2 s2 r2=>?_⟩⟩
 refine h ρ2 S2 H2 x y x' y' z S3 _ s2 (r1.mono e2) r2 h3 fun ρ3 H3 z' e3 s3 r3=>?_
 cases r3 with
 | bl k =>
  refine ⟨k,rfl,?_⟩
  cases k with
  | false =>
   cases hm
   exact zeg (p ρ3 H3 _ (e1.trans (e2.trans e3)) s3 (.bl false))
  | true =>
   obtain ⟨⟨w,S4⟩,h4,hm⟩:=bnd hm
   exact zeh ⟨ρ3,l,S3,w,S4,s3,ro.mono (e1.trans (e2.trans e3)),h4,fun ρ4 H4 w' e4 s4 r4=>h' ρ4 S4 H4 y w y' w' v S' Q s4 (r2.mono (e3.trans e4)) r4 hm (p.ext (e1.trans (e2.trans (e3.trans e4))))⟩
 | _=>cases hm
theorem zzw {op op':CmpOp}{f g:D->D->Sto->Option (D × Sto)}{r r':R2}{mc:EM}(ho:OpR X (compareOp op) r) (ho':OpR X (compareOp op') r') (h3:Op3 X.K f r) (h3':Op3 X.K g r') (ha:PE3 X a ma) (hb:PE3 X b mb) (hc:PE3 X c mc)
  (hm:lastMarks [op,op'] [b,c]=false:=by with_unfolding_all rfl):PE3 X (.Compare a [op,op'] [b,c] pos) (zhu f g ma mb mc):=PE.imp (zx4 ho ho' ha hb hc hm) (zzv h3 h3')
variable {t u:TM}{rest:List Expr}
theorem zzx {K:QFg}(σ:St) (H:Hp) (Q:Bool->Hp->Prop) (q:tt K (zev t u) σ H Q):L2.tAnd (tt K t) (tt K u) σ H Q:=by
 obtain ⟨ρ,l,S,v,S',sim,ro,hm,p⟩:=q
 obtain ⟨⟨x,S1⟩,h1,hm⟩:=bnd hm
 refine ⟨ρ,l,S,x,S1,sim,ro,h1,fun ρ1 H1 e1 s1=>?_⟩
 cases x with
 | true=>exact zeh ⟨ρ1,l,S1,v,S',s1,ro.mono e1,hm,fun ρ2 H2 e2 s2=>p ρ2 H2 (e1.trans e2) s2⟩
 | false=>cases hm;exact zeg (p ρ1 H1 e1 s1)
theorem zzy {K:QFg}(σ:St) (H:Hp) (Q:Bool->Hp->Prop) (q:tt K (zff t u) σ H Q):L2.tOr (tt K t) (tt K u) σ H Q:=by
 obtain ⟨ρ,l,S,v,S',sim,ro,hm,p⟩:=q
 obtain ⟨⟨x,S1⟩,h1,hm⟩:=bnd hm
 refine ⟨ρ,l,S,x,S1,sim,ro,h1,fun ρ1 H1 e1 s1=>?_⟩
 cases x with
 | false=>exact zeg ⟨ρ1,l,S1,v,S',s1,ro.mono e1,hm,fun ρ2 H2 e2 s2=>p ρ2 H2 (e1.trans e2) s2⟩
 | true=>cases hm;exact zeh (p ρ1 H1 e1 s1)
theorem zhv (ha:PT3 X a t):PW3 X (.BoolOp .And [a] pos) t:=zwa ha
theorem zis (ha:PT3 X a t):PW3 X (.BoolOp .Or [a] pos) t:=zwb ha
theorem zhw (ha:PT3 X a t) (hb:PW3 X (.BoolOp .And (b :: rest) pos) u):PW3 X (.BoolOp .And (a :: b :: rest) pos) (zev t u):=PW.imp (zwc ha hb) zzx
theorem zit (ha:PT3 X a t) (hb:PW3 X (.BoolOp .Or (b :: rest) pos) u):PW3 X (.BoolOp .Or (a :: b :: rest) pos) (zff t u):=PW.imp (zwd ha hb) zzy
theorem zew (h:PW3 X a t):PT3 X a t:=PW.pt h
theorem ziu (ha:PT3 X a t):PT3 X (.UnaryOp .Not a pos) (zfs t):=PT.imp (zwe ha) fun σ H Q hx2_=>by
 obtain ⟨ρ,l,S,v,S',sim,ro,hm,p⟩:=hx2_
 obtain ⟨⟨x,S1⟩,h1,hm⟩:=bnd hm
 cases hm
 exact ⟨ρ,l,S,x,S1,sim,ro,h1,p⟩
theorem zkt {op}(h:PE3 X a ma):PE3 X (.BoolOp op [a] pos) ma:=zwi h
theorem zmm (ha:PE3 X a ma) (hb:PE3 X (.BoolOp .And (b :: rest) pos) mb):PE3 X (.BoolOp .And (a :: b :: rest) pos) (zgs ma mb):=PE.imp (zwj ha hb) fun σ H Q hx3_=>by
 obtain ⟨ρ,l,S,v,S',sim,ro,hm,p⟩:=hx3_
 obtain ⟨⟨x,S1⟩,h1,hm⟩:=bnd hm
 refine ⟨ρ,l,S,x,S1,sim,ro,h1,fun ρ1 H1 x' e1 s1 r1=>?_⟩
 cases r1 with
 | bl k =>
  refine ⟨k,rfl,?_⟩
  cases k with
  | true=>exact zeh ⟨ρ1,l,S1,v,S',s1,ro.mono e1,hm,p.ext e1⟩
  | false=>cases hm;exact zeg (p ρ1 H1 _ e1 s1 (.bl false))
 | _=>cases hm
theorem zpv (ha:PE3 X a ma) (hb:PE3 X (.BoolOp .Or (b :: rest) pos) mb):PE3 X (.BoolOp .Or (a :: b :: rest) pos) (zhs ma mb):=PE.imp (zwk ha hb) fun σ H Q hx4_=>by
 obtain ⟨ρ,l,S,v,S',sim,ro,hm,p⟩:=hx4_
 obtain ⟨⟨x,S1⟩,h1,hm⟩:=bnd hm
 refine ⟨ρ,l,S,x,S1,sim,ro,h1,fun ρ1 H1 x' e1 s1 r1=>?_⟩
 cases r1 with
 | bl k =>
  refine ⟨k,rfl,?_⟩
  cases k with
  | false=>exact zeg ⟨ρ1,l,S1,v,S',s1,ro.mono e1,hm,p.ext e1⟩
  | true=>cases hm;exact zeh (p ρ1 H1 _ e1 s1 (.bl true))
 | _=>cases hm
theorem zzz (ha:PE3 X a ma):PE3 X (.UnaryOp .Not a pos) (zks ma):=PE.imp (zwl ha) fun σ H Q hx5_=>by
 obtain ⟨ρ,l,S,v,S',sim,ro,hm,p⟩:=hx5_
 obtain ⟨⟨x,S1⟩,h1,hm⟩:=bnd hm
 refine ⟨ρ,l,S,x,S1,sim,ro,h1,fun ρ1 H1 x' e1 s1 r1=>?_⟩
 cases r1 with
 | bl k=>cases hm;exact ⟨k,rfl,p ρ1 H1 _ e1 s1 (.bl _)⟩
 | _=>cases hm
theorem zz0 {mc:TM}(hc:PT3 X c mc) (ha:PE3 X a ma) (hb:PE3 X b mb):PE3 X (.IfExp c a b pos) (ziq mc ma mb):=PE.imp (zwm hc ha hb) fun σ H Q hx6_=>by
 obtain ⟨ρ,l,S,v,S',sim,ro,hm,p⟩:=hx6_
 obtain ⟨⟨x,S1⟩,h1,hm⟩:=bnd hm
 refine ⟨ρ,l,S,x,S1,sim,ro,h1,fun ρ1 H1 e1 s1=>?_⟩
 cases x with
 | true=>exact zeh ⟨ρ1,l,S1,v,S',s1,ro.mono e1,hm,p.ext e1⟩
 | false=>exact zeg ⟨ρ1,l,S1,v,S',s1,ro.mono e1,hm,p.ext e1⟩
theorem zah:PA3 X [] zaf:=PA.imp zl6 fun σ H Q hx7_=>by
 obtain ⟨ρ,l,S,v,S',sim,ro,hm,p⟩:=hx7_
 cases hm
 exact p ρ H [] (Ext.refl ..) sim .nil
theorem zad (ha:PE3 X a ma) (hr:PA3 X es mA) (hs:starEach (a :: es) X.env=(false,eval a X.env) :: starEach es X.env:=by rfl):PA3 X (a :: es) (zac ma mA):=PA.imp (zkk ha hr hs) fun σ H Q hx8_=>by
 obtain ⟨ρ,l,S,v,S',sim,ro,hm,p⟩:=hx8_
 obtain ⟨⟨x,S1⟩,h1,hm⟩:=bnd hm
 obtain ⟨⟨y,S2⟩,h2,hm⟩:=bnd hm
 cases hm
 exact ⟨ρ,l,S,x,S1,sim,ro,h1,fun ρ1 H1 x' e1 s1 r1=>⟨ρ1,l,S1,y,_,s1,ro.mono e1,h2,fun ρ2 H2 vs e2 s2 r2=>p ρ2 H2 _ (e1.trans e2) s2 (.cons (r1.mono e2) r2)⟩⟩
noncomputable def zbs:FM:=fun xs S=>if xs.length<=sizeLine then some (.tup xs,S) else none
noncomputable def zcq:FM:=fun xs S=>if xs.length<=sizeLine then some (.ref S.length,S++[.lst xs]) else none
theorem zbt {α:Type}{c:Prop} [Decidable c] {a b:α}(h:(if c then some a else none)=some b):c/\a=b:=by
 by_cases hc:c
 ·rw [if_pos hc] at h;exact ⟨hc,qoi h⟩
 ·rw [if_neg hc] at h;cases h
theorem ziv {K:QFg}{ρ:List Addr}{S:Sto}{H:Hp}{xs:List D}{vs:List V}{Q:VK}(sim:Sim K ρ S H) (r:RDs ρ H xs vs) (p:Pv K ρ H (.tup xs) S Q):∀a,H a=none->Q (.ref a) (upd H a (.tup vs)):=fun a ha =>
 p ρ _ _ (zc5 ha) (sim.laid ha) (.tup zcz (r.mono (zc5 ha)))
theorem ziw {K:QFg}{ρ:List Addr}{S:Sto}{H:Hp}{xs:List D}{vs:List V}{Q:VK}(sim:Sim K ρ S H) (r:RDs ρ H xs vs) (p:Pv K ρ H (.ref S.length) (S++[.lst xs]) Q):∀a,H a=none->Q (.ref a) (upd H a (.lst vs)):=fun a ha =>
 p (ρ++[a]) _ _ (zps ha) (sim.push ha r) (.ref (by rw [←sim.len];exact zbx ρ a))
theorem zca {x1}(h:PA3 X es mA):PE3 X (.Tuple es x1 pos) (zag zbs mA):=PE.imp (zyh h) fun σ H Q hx9_=>by
 obtain ⟨ρ,l,S,v,S',sim,ro,hm,p⟩:=hx9_
 obtain ⟨⟨x,S1⟩,h1,hm⟩:=bnd hm
 obtain ⟨hz,e⟩:=zbt hm
 cases e
 exact ⟨ρ,l,S,x,_,sim,ro,h1,fun ρ1 H1 vs e1 s1 r1=>⟨by rw [←r1.length];exact hz,ziv s1 r1 (p.ext e1)⟩⟩
theorem zc4 (h:PA3 X es mA):PE3 X (.List es pos) (zag zcq mA):=PE.imp (zyi h) fun σ H Q hx10_=>by
 obtain ⟨ρ,l,S,v,S',sim,ro,hm,p⟩:=hx10_
 obtain ⟨⟨x,S1⟩,h1,hm⟩:=bnd hm
 obtain ⟨hz,e⟩:=zbt hm
 cases e
 exact ⟨ρ,l,S,x,_,sim,ro,h1,fun ρ1 H1 vs e1 s1 r1=>⟨by rw [←r1.length];exact hz,ziw s1 r1 (p.ext e1)⟩⟩
theorem zpw {K:QFg}{f:FM}{r:List V->Hp->VK->Prop}(h3:Fn3 K f r) (σ:St) (H:Hp) (Q:VK) (q:te K (zag f mA) σ H Q):tCB r (ta K mA) σ H Q:=by
 obtain ⟨ρ,l,S,v,S',sim,ro,hm,p⟩:=q
 obtain ⟨⟨x,S1⟩,h1,hm⟩:=bnd hm
 exact ⟨ρ,l,S,x,S1,sim,ro,h1,fun ρ1 H1 vs e1 s1 r1=>h3 ρ1 S1 H1 x vs v S' Q s1 r1 hm (p.ext e1)⟩
theorem zgg {x:Str}{p:Pos}{id:String}{f:FM}{r:List V->Hp->VK->Prop}(hc:CallR X (.builtin id) r) (h3:Fn3 X.K f r) (hg:Gl X x) (hm:X.mg x=none) (hv:bootBuiltins x=some (.builtin id)) (ha:PA3 X (a :: es) mA) (hn:x≠"__name__":=by decide) (hdb:(x == ("__debug__":Str))=false:=by decide)
  (he:starEach (a :: es) X.env=(false,eval a X.env) :: starEach es X.env:=by rfl) (hpl:(backTo pos (starEach es X.env)).any (·.1)=false:=by rfl):PE3 X (.Call (.Name x p) (a :: es) [] pos) (zag f mA) :=
 PE.imp (zo0 hc hg hm hv ha hn hdb he hpl) (zpw h3)
theorem zku {x:Str}{p:Pos}{T:String}{f:FM}{r:List V->Hp->VK->Prop}(hc:CallR X (.type T) r) (h3:Fn3 X.K f r) (hg:Gl X x) (hm:X.mg x=none) (hv:bootBuiltins x=some (.type T)) (ha:PA3 X (a :: es) mA) (hn:x≠"__name__":=by decide) (hdb:(x == ("__debug__":Str))=false:=by decide)
  (he:starEach (a :: es) X.env=(false,eval a X.env) :: starEach es X.env:=by rfl) (hpl:(backTo pos (starEach es X.env)).any (·.1)=false:=by rfl):PE3 X (.Call (.Name x p) (a :: es) [] pos) (zag f mA) :=
 PE.imp (zl8 hc hg hm hv ha hn hdb he hpl) (zpw h3)
end
noncomputable def oI (C:Int->Int->Bool) (g:Int->Int->D):D->D->Sto->Option (D × Sto)
 | .int i,.int j,S=>if C i j=true then some (g i j,S) else none
 | _,_,_=>none
noncomputable def oI0 (g:Int->Int->D):D->D->Sto->Option (D × Sto)
 | .int i,.int j,S=>some (g i j,S)
 | _,_,_=>none
theorem zix {K:QFg}{C:Int->Int->Bool}{C':Int->Int->Prop}{g:Int->Int->D}{g':Int->Int->V}(hC:∀i j,C i j=true->C' i j) (hg:∀ρ H i j,RD ρ H (g i j) (g' i j)):Op3 K (oI C g) (rI C' g'):=by
 intro ρ S H x y x' y' v S' Q sim rx ry h p
 unfold oI at h
 split at h
 ·rename_i i j
  cases rx;cases ry
  obtain ⟨hc,e⟩:=zbt h
  cases e
  exact ⟨i,j,rfl,rfl,hC i j hc,p ρ H _ (Ext.refl ..) sim (hg ρ H i j)⟩
 ·cases h
theorem zgt {K:QFg}{g:Int->Int->D}{g':Int->Int->V}(hg:∀ρ H i j,RD ρ H (g i j) (g' i j)):Op3 K (oI0 g) (rI0 g'):=by
 intro ρ S H x y x' y' v S' Q sim rx ry h p
 unfold oI0 at h
 split at h
 ·rename_i i j
  cases rx;cases ry
  cases h
  exact ⟨i,j,rfl,rfl,p ρ H _ (Ext.refl ..) sim (hg ρ H i j)⟩
 ·cases h
theorem Op3.or {K:QFg}{f:D->D->Sto->Option (D × Sto)}{g:D->D->Sto->Option (D × Sto)}{r r':R2}(h:Op3 K f r) (h':Op3 K g r'):Op3 K (fun x y S=>match f x y S with|some v=>some v|none=>g x y S) (fun x y H Q=>r x y H Q∨r' x y H Q):=by
 intro ρ S H x y x' y' v S' Q sim rx ry hm p
 dsimp only at hm
 cases e:f x y S with
 | some w=>rw [e] at hm;cases hm;exact .inl (h ρ S H x y x' y' _ _ Q sim rx ry e p)
 | none=>rw [e] at hm;exact .inr (h' ρ S H x y x' y' _ _ Q sim rx ry hm p)
noncomputable abbrev zgh:=oI0 fun i j=>.int (i-j)
noncomputable abbrev zex:=oI (fun i j=>decide (0<j/\j<1073741824)) fun i j=>.int (i / j)
noncomputable abbrev zcr:=oI (fun i j=>decide (0<j)) fun i j=>.int (i % j)
noncomputable abbrev zgi:=oI (fun i j=>decide (0<=j/\j<=1000000/\i.natAbs<2 ^ 64)) fun i j=>.int (i ^ j.toNat)
noncomputable abbrev dLt:=oI0 fun i j=>.bl (decide (i<j))
noncomputable abbrev dLe:=oI0 fun i j=>.bl (decide (i<=j))
noncomputable abbrev dGt:=oI0 fun i j=>.bl (decide (j<i))
noncomputable abbrev dGe:=oI0 fun i j=>.bl (decide (j<=i))
section
variable {X:Cx}{a b:Expr}{ma mb:EM}{pos:Pos}
theorem zgu (ha:PE3 X a ma) (hb:PE3 X b mb):PE3 X (.BinOp a .Sub b pos) (eOp zgh ma mb):=zfh zxp (zgt fun _ _ _ _=>.int _) ha hb
theorem zgv (ha:PE3 X a ma) (hb:PE3 X b mb):PE3 X (.BinOp a .FloorDiv b pos) (eOp zex ma mb):=zfh zxq (zix (fun i j h=>by first|(unfold CMul;exact of_decide_eq_true h)|(unfold zkj;exact of_decide_eq_true h)|(unfold zhq;exact of_decide_eq_true h)|exact of_decide_eq_true h) fun _ _ _ _=>.int _) ha hb
theorem zei (ha:PE3 X a ma) (hb:PE3 X b mb):PE3 X (.BinOp a .Mod b pos) (eOp zcr ma mb):=zfh zxr (zix (fun i j h=>by first|(unfold CMul;exact of_decide_eq_true h)|(unfold zkj;exact of_decide_eq_true h)|(unfold zhq;exact of_decide_eq_true h)|exact of_decide_eq_true h) fun _ _ _ _=>.int _) ha hb
theorem zmn (ha:PE3 X a ma) (hb:PE3 X b mb):PE3 X (.BinOp a .Pow b pos) (eOp zgi ma mb):=zfh zxs (zix (fun i j h=>by first|(unfold CMul;exact of_decide_eq_true h)|(unfold zkj;exact of_decide_eq_true h)|(unfold zhq;exact of_decide_eq_true h)|exact of_decide_eq_true h) fun _ _ _ _=>.int _) ha hb
theorem zgw (ha:PE3 X a ma) (hb:PE3 X b mb):PT3 X (.Compare a [.Lt] [b] pos) (tE (eOp dLt ma mb)):=zfi zos (zgt fun _ _ _ _=>.bl _) ha hb (zeu b)
theorem zmo (ha:PE3 X a ma) (hb:PE3 X b mb):PT3 X (.Compare a [.Gt] [b] pos) (tE (eOp dGt ma mb)):=zfi zxy (zgt fun _ _ _ _=>.bl _) ha hb (zeu b)
theorem zz1 (ha:PE3 X a ma) (hb:PE3 X b mb):PT3 X (.Compare a [.GtE] [b] pos) (tE (eOp dGe ma mb)):=zfi zxz (zgt fun _ _ _ _=>.bl _) ha hb (zeu b)
end
noncomputable def sEq:D->D->Option Bool
 | .non,.non=>some true | .non,.int _=>some false | .int _,.non=>some false | .non,.bl _=>some false | .bl _,.non=>some false | .non,.str _=>some false | .str _,.non=>some false
 | .int i,.int j=>some (decide (i=j)) | .bl i,.bl j=>some (decide (i=j)) | .str i,.str j=>some (decide (i=j))
 | .int _,.str _=>some false | .str _,.int _=>some false | .bl _,.str _=>some false | .str _,.bl _=>some false
 | _,_=>none
noncomputable def dEq:D->D->Sto->Option (D × Sto):=fun x y S=>(sEq x y).bind fun b=>some (.bl b,S)
noncomputable def dNe:D->D->Sto->Option (D × Sto):=fun x y S=>(sEq x y).bind fun b=>some (.bl (!b),S)
theorem zpx {ρ:List Addr}{H:Hp}{x y:D}{x' y':V}{b:Bool}(rx:RD ρ H x x') (ry:RD ρ H y y') (h:sEq x y=some b):zl5 x' y' = true/\decide (x' = y')=b:=by
 cases rx <;> cases ry <;> first
  | (unfold sEq at h;cases h;exact ⟨rfl,by simp⟩)
  | (unfold sEq at h;cases h;exact ⟨rfl,by simp;rfl⟩)
  | (unfold sEq at h;cases h)
theorem zpy {K:QFg}:Op3 K dEq rEq:=by
 intro ρ S H x y x' y' v S' Q sim rx ry h p
 obtain ⟨b,h1,h⟩:=bnd h
 cases h
 obtain ⟨h2,h3⟩:=zpx rx ry h1
 exact ⟨h2,by rw [h3];exact p ρ H _ (Ext.refl ..) sim (.bl b)⟩
theorem zz2 {K:QFg}:Op3 K dNe rNe:=by
 intro ρ S H x y x' y' v S' Q sim rx ry h p
 obtain ⟨b,h1,h⟩:=bnd h
 cases h
 obtain ⟨h2,h3⟩:=zpx rx ry h1
 exact ⟨h2,by rw [h3];exact p ρ H _ (Ext.refl ..) sim (.bl _)⟩
noncomputable def zb7:D->Bool
 | .non=>true
 | _=>false
noncomputable def dIs:D->D->Sto->Option (D × Sto)
 | x,.non,S=>some (.bl (zb7 x),S)
 | _,_,_=>none
noncomputable def zd3:D->D->Sto->Option (D × Sto)
 | x,.non,S=>some (.bl (!zb7 x),S)
 | _,_,_=>none
theorem zpz {ρ:List Addr}{H:Hp}{x:D}{x':V}(r:RD ρ H x x'):decide (x' = .non)=zb7 x:=by
 cases r <;> simp [zb7]
theorem zp0 {K:QFg}:Op3 K dIs (fun x y H Q=>y=.non/\Q (.bl (decide (x=.non))) H):=by
 intro ρ S H x y x' y' v S' Q sim rx ry h p
 unfold dIs at h
 split at h
 ·cases h;cases ry
  exact ⟨rfl,by rw [zpz rx];exact p ρ H _ (Ext.refl ..) sim (.bl _)⟩
 ·cases h
theorem zz3 {K:QFg}:Op3 K zd3 (fun x y H Q=>y=.non/\Q (.bl (!decide (x=.non))) H):=by
 intro ρ S H x y x' y' v S' Q sim rx ry h p
 unfold zd3 at h
 split at h
 ·cases h;cases ry
  exact ⟨rfl,by rw [zpz rx];exact p ρ H _ (Ext.refl ..) sim (.bl _)⟩
 ·cases h
section
variable {X:Cx}{a b:Expr}{ma mb:EM}{pos:Pos}
theorem ziy (ha:PE3 X a ma) (hb:PE3 X b mb):PE3 X (.Compare a [.Eq] [b] pos) (eOp dEq ma mb):=zpt zor zpy ha hb (zeu b)
theorem zz4 (ha:PE3 X a ma) (hb:PE3 X b mb):PE3 X (.Compare a [.Is] [b] pos) (eOp dIs ma mb):=zpt zot zp0 ha hb (zeu b)
theorem zey (ha:PE3 X a ma) (hb:PE3 X b mb):PT3 X (.Compare a [.Eq] [b] pos) (tE (eOp dEq ma mb)):=zfi zor zpy ha hb (zeu b)
theorem zgx (ha:PE3 X a ma) (hb:PE3 X b mb):PT3 X (.Compare a [.NotEq] [b] pos) (tE (eOp dNe ma mb)):=zfi zxw zz2 ha hb (zeu b)
theorem zp6 (ha:PE3 X a ma) (hb:PE3 X b mb):PT3 X (.Compare a [.Is] [b] pos) (tE (eOp dIs ma mb)):=zfi zot zp0 ha hb (zeu b)
theorem zft (ha:PE3 X a ma) (hb:PE3 X b mb):PT3 X (.Compare a [.IsNot] [b] pos) (tE (eOp zd3 ma mb)):=zfi zx0 zz3 ha hb (zeu b)
end
noncomputable def dIx:D->D->Sto->Option (D × Sto)
 | .tup xs,.int i,S=>(atI xs i).bind fun v=>some (v,S)
 | .ref n,.int i,S=>(lstOf S n).bind fun xs=>(atI xs i).bind fun v=>some (v,S)
 | _,_,_=>none
theorem zp7 {ρ:List Addr}{H:Hp}{xs:List D}{vs:List V}{i:Int}{x:D}(r:RDs ρ H xs vs) (h:atI xs i=some x):∃v,atI vs i=some v/\RD ρ H x v:=by
 unfold atI at h ⊢
 rw [←r.length]
 cases e:ixN xs.length i with
 | none=>rw [e] at h;cases h
 | some j =>
  rw [e] at h
  exact r.get (i:=j) h
theorem zz5 {K:QFg}:Op3 K dIx (rIx K):=by
 intro ρ S H x y x' y' v S' Q sim rx ry h p
 unfold dIx at h
 split at h
 ·cases ry
  obtain ⟨w,h1,h⟩:=bnd h
  cases h
  cases rx with
  | tup ha r =>
   obtain ⟨u,h2,r2⟩:=zp7 r h1
   exact .inr (.inl ⟨_,_,_,u,rfl,rfl,SqT.of ha,h2,p ρ H u (Ext.refl ..) sim r2⟩)
 ·cases ry
  obtain ⟨xs,h0,h⟩:=bnd h
  obtain ⟨w,h1,h⟩:=bnd h
  cases h
  cases rx with
  | ref hn =>
   obtain ⟨a,vs,ha,sq,r⟩:=sim.lstOf h0
   rw [ha] at hn;cases hn
   obtain ⟨u,h2,r2⟩:=zp7 r h1
   exact .inl ⟨_,_,_,u,rfl,rfl,sq,h2,p ρ H u (Ext.refl ..) sim r2⟩
 ·cases h
section
variable {X:Cx}{a b:Expr}{ma mb:EM}{pos:Pos}
end
noncomputable abbrev OM:=Lo->Sto->Option (Option Int × Sto)
noncomputable def zb8:OM:=fun _ S=>some (none,S)
noncomputable def zb3 (m:EM):OM:=fun l S=>(m l S).bind fun p=>match p.1 with
 | .int i=>some (some i,p.2)
 | _=>none
noncomputable def zc0 (xs:List D) (lo hi:Option Int):List D:=(xs.drop (HT.sIx xs.length 0 lo)).take (HT.sIx xs.length xs.length hi-HT.sIx xs.length 0 lo)
inductive tO (K:QFg) (m:OM) (σ:St) (H:Hp) (Q:Option Int->Hp->Prop):Prop
 | mk (ρ:_) (l:_) (S:_) (v:_) (S':_) (_:Sim K ρ S H) (_:RO ρ H l σ) (_:m l S=some (v,S')) (_:∀ρ' H',Ext ρ H ρ' H'->Sim K ρ' S' H'->Q v H')
noncomputable def PO3 (X:Cx) (e:Option Expr) (m:OM):Prop:=PO X e (tO X.K m)
section
variable {X:Cx}{a b:Expr}{ma mb:EM}{pos p2:Pos}{lo hi:Option Expr}{ml mh:OM}
theorem PO.imp {e:Option Expr}{t u:TO}(h:PO X e t) (i:∀σ H Q,u σ H Q->t σ H Q):PO X e u:=fun pins s σ H Q I q=>h pins s σ H Q I (i _ _ _ q)
theorem zcs:PO3 X none zb8:=PO.imp zyu fun σ H Q hx1_=>by
 obtain ⟨ρ,l,S,v,S',sim,ro,hm,p⟩:=hx1_
 cases hm
 exact p ρ H (Ext.refl ..) sim
theorem zct (h:PE3 X a ma):PO3 X (some a) (zb3 ma):=PO.imp (zyv h) fun σ H Q hx2_=>by
 obtain ⟨ρ,l,S,v,S',sim,ro,hm,p⟩:=hx2_
 obtain ⟨⟨x,S1⟩,h1,hm⟩:=bnd hm
 refine ⟨ρ,l,S,x,S1,sim,ro,h1,fun ρ1 H1 x' e1 s1 r1=>?_⟩
 cases r1 with
 | int i=>cases hm;exact ⟨i,rfl,p ρ1 H1 e1 s1⟩
 | _=>cases hm
end
end L3
namespace HT
open PySem PyProof.Rows
section
variable {prog:Program}{w:World}{A:Around}{E:Value->Shared->Prop}{s:Shared}
theorem getItem_tuple_whole {t sl:Addr}{items:Array Value}{vl vu:Value}{lo hi:Option Int}{Q:Value->Shared->Prop}(ht:IsTup s.heap t items) (hs:s.heap.IsSliceOf sl vl vu .none) (pl:IsPart vl lo) (pu:IsPart vu hi)
  (hw:sIx items.size 0 lo=0/\sIx items.size items.size hi=items.size)
  (h:Q (.ref t) s):wpAny (model prog w) A (getItem (.ref t) (.ref sl)) Q E s:=by
 obtain ⟨os,hos,hcs,hds⟩:=id hs
 have hTs:s.TypeIs (.ref sl) "slice":=⟨os,hos,hcs⟩
 unfold getItem
 try with_reducible refine wpAny_holding ?_
 first|refine wpAny_bind (wpAny_pure ?_)|skip
 refine wpAny_bind (wpAny_sequenceKey ht.typeIs (by decide) ?_)
 refine wpAny_bind (wpAny_callSpecial?_slot (name:=Str.ofString "__getitem__") ht.typeIs PyProof.Rows.slot_tuple_getitem
  (wpAny_call_entry PyProof.Rows.slot_tuple_getitem ht.typeIs entry_tuple_getitem ?_ (args_tuple_getitem _ _)))
 show wpAny _ _ (Builtin.Tuple.tupleItemsOf (.ref t) >>= _) _ _ s
 refine wpAny_bind (tupleItemsOf_ ht ?_)
 refine wpAny_bind (wpAny_typeOf hTs ?_)
 rw [if_pos (by decide)]
 refine wpAny_bind (zo3 hs pl pu ?_)
 have hyes:((((sIx items.size 0 lo:Nat):Int) == 0 && (1:Int) == 1 && (sIx items.size items.size hi-sIx items.size 0 lo) == items.size)=true):=by
  rw [hw.1,hw.2];simp
 show wpAny _ _ (if (((sIx items.size 0 lo:Nat):Int) == 0 && (1:Int) == 1 && (sIx items.size items.size hi-sIx items.size 0 lo) == items.size)=true then _ else _) _ _ s
 rw [if_pos hyes]
 unfold Builtin.Tuple.tupleIsExact
 refine wpAny_bind (wpAny_bind (wpAny_typeOf ht.typeIs (wpAny_pure ?_)))
 rw [if_pos (by decide)]
 exact wpAny_bind (wpAny_rule (wpAny_bind (wpAny_pure (wpAny_pure ⟨_,rfl,wpAny_pure h⟩))))
end
end HT
namespace L3
open PySem PySem.Spec PyProof.Rows L2
section
variable {X:Cx}{a b:Expr}{ma mb:EM}{pos p2:Pos}{lo hi:Option Expr}{ml mh:OM}
noncomputable def zz6 (K:QFg):V->Option Int->Option Int->Hp->VK->Prop:=fun x lo hi H Q=>∃a xs,x=.ref a/\SqT K H a xs /\
 (HT.sIx xs.length 0 lo=0/\HT.sIx xs.length xs.length hi=xs.length)/\Q (.ref a) H
theorem zz7:SlR X (zz6 X.K):=by
 intro pins s σ H x v vl vu lo hi sl Q I rx hs pl pu h
 obtain ⟨a,xs,rfl,hx,hw,q⟩:=h
 cases rx
 obtain ⟨its,r,ht,hz⟩:=I.tuple hx
 have hlen:its.toArray.size=xs.length:=by rw [List.size_toArray];exact r.length.symm
 refine ⟨"tuple",_,PyProof.Rows.slot_tuple_getitem.lookup,ht.typeIs,?_⟩
 exact HT.getItem_tuple_whole ht hs pl pu (by rw [hlen];exact hw) ⟨.ref a,H,I,rfl,q⟩
theorem zz8 (xs:List D) (lo hi:Option Int) (h:HT.sIx xs.length 0 lo=0/\HT.sIx xs.length xs.length hi=xs.length):zc0 xs lo hi=xs:=by
 unfold zc0;rw [h.1,h.2];simp
end
noncomputable def zmp:D->D->Sto->Option (D × Sto)
 | .tup xs,.tup ys,S=>if xs.length+ys.length<=sizeLine then some (.tup (xs++ys),S) else none
 | _,_,_=>none
noncomputable def zmq (K:QFg):R2:=fun x y H Q=>∃a b ys,x=.ref a/\y=.ref b/\SqT K H a []/\SqT K H b ys/\Q (.ref b) H
theorem zz9 {X:Cx}:OpR X (binaryOp .Add) (zmq X.K):=by
 intro pins s σ H x y v u Q I rx ry h
 obtain ⟨a,b,ys,rfl,rfl,ha,hb,q⟩:=h
 cases rx
 cases ry
 obtain ⟨its,r1,p1,_⟩:=I.tuple ha
 obtain ⟨its2,r2,p2,_⟩:=I.tuple hb
 cases r1
 obtain ⟨⟨cls,dd,data,sl⟩,ho,hc,n,hd⟩:=id p1
 obtain ⟨⟨cls2,dd2,data2,sl2⟩,ho2,hc2,n2,hd2⟩:=id p2
 simp only at hc hd hc2 hd2
 subst hc hd hc2 hd2
 exact concat_meets ⟨_,ho,rfl⟩ ⟨_,ho2,rfl⟩ noFill_tuple_add seq_tuple_add PySem.F.slot_tuple_add PySem.F.entry_tuple_add (PySem.F.args_tuple_add_2 _ _)
   (tuple_addW0 a b ([]:List Value).toArray its2.toArray n n2 dd dd2 sl sl2 (by simp)) ⟨ho,ho2,⟨.ref b,H,I,rfl,q⟩⟩
theorem yaa {K:QFg}:Op3 K zmp (fun x y H Q=>zl9 K x y H Q∨zmq K x y H Q):=by
 intro ρ S H x y x' y' v S' Q sim rx ry h p
 unfold zmp at h
 split at h
 ·obtain ⟨hz,e⟩:=zbt h
  cases e
  cases rx with
  | @tup xs a vs ha r =>
   cases ry with
   | @tup ys b ws hb q =>
    cases r with
    | nil=>exact .inr ⟨a,b,ws,rfl,rfl,SqT.of ha,SqT.of hb,p ρ H _ (Ext.refl ..) sim (.tup hb q)⟩
    | cons r1 r2 =>
     refine .inl ⟨a,b,_,ws,rfl,rfl,SqT.of ha,SqT.of hb,by simp,by rw [←(RDs.cons r1 r2).length,←q.length];exact hz,fun e=>?_,fun _=>?_⟩
     ·subst e
      cases q
      rw [List.append_nil] at p
      exact p ρ H _ (Ext.refl ..) sim (.tup ha (.cons r1 r2))
     ·exact ziv sim ((RDs.cons r1 r2).append q) p
 ·cases h
section
variable {X:Cx}{a b:Expr}{ma mb:EM}{pos:Pos}
end
noncomputable def ziz:FM
 | [.tup xs],S=>some (.int xs.length,S)
 | [.ref n],S=>(lstOf S n).bind fun xs=>some (.int xs.length,S)
 | _,_=>none
noncomputable def zgy:FM
 | [.int i],S=>some (.int (if i<0 then -i else i),S)
 | _,_=>none
noncomputable def zmr:FM
 | [.int i],S=>some (.int i,S)
 | [.bl b],S=>some (.int (if b then 1 else 0),S)
 | _,_=>none
noncomputable def zds:FM
 | [.tup xs],S=>some (.tup xs,S)
 | [.ref n],S=>(lstOf S n).bind fun xs=>some (.tup xs,S)
 | _,_=>none
noncomputable def zi0:FM
 | [.int i,.int j],S=>some (.int (if j > i then j else i),S)
 | _,_=>none
section
variable {K:QFg}
theorem yab:Fn3 K ziz (fun xs H Q=>∃p ys,xs=[.ref p]/\(SqL K H p ys∨SqT K H p ys)/\Q (.int ys.length) H):=by
 intro ρ S H xs vs v S' Q sim r h p
 unfold ziz at h
 split at h
 ·cases h
  obtain ⟨w,rfl,rw'⟩:=r.one
  cases rw' with
  | tup ha r2=>exact ⟨_,_,rfl,.inr (SqT.of ha),by rw [←r2.length];exact p ρ H _ (Ext.refl ..) sim (.int _)⟩
 ·obtain ⟨ys,h1,h⟩:=bnd h
  cases h
  obtain ⟨w,rfl,rw'⟩:=r.one
  obtain ⟨a,us,ha,sq,r2⟩:=sim.lstOf h1
  cases rw' with
  | ref hn =>
   rw [ha] at hn;cases hn
   exact ⟨_,_,rfl,.inl sq,by rw [←r2.length];exact p ρ H _ (Ext.refl ..) sim (.int _)⟩
 ·cases h
theorem yac:Fn3 K zgy (fun xs H Q=>∃i,xs=[.int i]/\Q (.int (if i<0 then -i else i)) H):=by
 intro ρ S H xs vs v S' Q sim r h p
 unfold zgy at h
 split at h
 ·cases h
  obtain ⟨w,rfl,rw'⟩:=r.one
  cases rw'
  exact ⟨_,rfl,p ρ H _ (Ext.refl ..) sim (.int _)⟩
 ·cases h
theorem yad:Fn3 K zmr (fun xs H Q=>(∃i,xs=[.int i]/\Q (.int i) H)∨∃k,xs=[.bl k]/\Q (.int (if k then 1 else 0)) H):=by
 intro ρ S H xs vs v S' Q sim r h p
 unfold zmr at h
 split at h
 ·cases h
  obtain ⟨w,rfl,rw'⟩:=r.one
  cases rw'
  exact .inl ⟨_,rfl,p ρ H _ (Ext.refl ..) sim (.int _)⟩
 ·cases h
  obtain ⟨w,rfl,rw'⟩:=r.one
  cases rw'
  exact .inr ⟨_,rfl,p ρ H _ (Ext.refl ..) sim (.int _)⟩
 ·cases h
theorem yae:Fn3 K zi0 (fun xs H Q=>∃i j,xs=[.int i,.int j]/\Q (.int (if j > i then j else i)) H):=by
 intro ρ S H xs vs v S' Q sim r h p
 unfold zi0 at h
 split at h
 ·cases h
  obtain ⟨w,u,rfl,rw',ru⟩:=r.two
  cases rw';cases ru
  exact ⟨_,_,rfl,p ρ H _ (Ext.refl ..) sim (.int _)⟩
 ·cases h
theorem yaf:Fn3 K zds (fun xs H Q=>∃p ys,xs=[.ref p]/\((SqL K H p ys/\∀l,H l=none->Q (.ref l) (upd H l (.tup ys)))∨(SqT K H p ys/\Q (.ref p) H))):=by
 intro ρ S H xs vs v S' Q sim r h p
 unfold zds at h
 split at h
 ·cases h
  obtain ⟨w,rfl,rw'⟩:=r.one
  cases rw' with
  | tup ha r2=>exact ⟨_,_,rfl,.inr ⟨SqT.of ha,p ρ H _ (Ext.refl ..) sim (.tup ha r2)⟩⟩
 ·obtain ⟨ys,h1,h⟩:=bnd h
  cases h
  obtain ⟨w,rfl,rw'⟩:=r.one
  obtain ⟨a,us,ha,sq,r2⟩:=sim.lstOf h1
  cases rw' with
  | ref hn =>
   rw [ha] at hn;cases hn
   exact ⟨_,_,rfl,.inl ⟨sq,ziv sim r2 p⟩⟩
 ·cases h
end
noncomputable def tyD (S:Sto):D->Option String
 | .non=>some "NoneType" | .bl _=>some "bool" | .int _=>some "int" | .str _=>some "str" | .tup _=>some "tuple"
 | .ref n=>match S[n]? with
  | some (.lst _)=>some "list"
  | some (.dct _)=>some "dict"
  | _=>none
 | .fn _=>none
noncomputable def isI (T U:String):Bool:=T == U || (T == "bool" && U == "int")
noncomputable def zhx (U:String):D->Sto->Option (D × Sto):=fun x S=>(tyD S x).bind fun T=>some (.bl (isI T U),S)
noncomputable def zdt:D->List D->Sto->Option (D × Sto)
 | .ref n,[x],S=>match S[n]? with
  | some (.lst xs)=>if xs.length<sizeLine then some (.non,S.set n (.lst (xs++[x]))) else none
  | _=>none
 | _,_,_=>none
section
variable {K:QFg}
theorem yag:Mt3 K zdt zpd:=by
 intro ρ S H x x' xs vs v S' Q sim rx r h p
 unfold zdt at h
 split at h
 ·split at h
  ·rename_i n y S ys e
   obtain ⟨hz,e2⟩:=zbt h
   cases e2
   obtain ⟨w,rfl,rw'⟩:=r.one
   obtain ⟨a,us,ha,hH,r2⟩:=sim.lst e
   cases rx with
   | ref hn =>
    rw [ha] at hn;cases hn
    exact ⟨a,us,w,rfl,rfl,hH,by rw [←r2.length];exact hz,p ρ _ _ (zkp ha hH) (sim.set ha e hH (r2.append (.cons rw' .nil))) .non⟩
  ·cases h
 ·cases h
end
noncomputable def zdh:D->Sto->Option (List D)
 | .ref n,S=>lstOf S n
 | _,_=>none
noncomputable def zdi (f:D->List D->Sto->Option (D × Sto)) (o:EM) (as:AM):EM:=fun l S=>(o l S).bind fun p=>(zdh p.1 p.2).bind fun _=>(as l p.2).bind fun q=>f p.1 q.1 q.2
section
variable {X:Cx}{a o e:Expr}{es:List Expr}{mo:EM}{mA:AM}{name:Str}{apos cpos pos:Pos}{id:String}{f:D->List D->Sto->Option (D × Sto)}{r:V->List V->Hp->VK->Prop}
theorem yah {K:QFg}{ρ:List Addr}{S:Sto}{H:Hp}{x:D}{x':V}{xs:List D}(sim:Sim K ρ S H) (rx:RD ρ H x x') (h:zdh x S=some xs):tyV K "list" x' H:=by
 unfold zdh at h
 split at h
 ·obtain ⟨a,us,ha,sq,r2⟩:=sim.lstOf h
  cases rx with
  | ref hn =>
   rw [ha] at hn;cases hn
   exact .inl ⟨rfl,us,sq⟩
 ·cases h
theorem zms (slot:Slot "list" name id) (hty:typeOf (.builtin id)=pure (.type "method_descriptor")) (hm:MtM X id r) (h3:Mt3 X.K f r) (ho:PE3 X o mo) (ha:PA3 X (e :: es) mA)
  (hbase:attributeBase o name X.env (eval o X.env)=eval o X.env:=by rfl)
  (hfew:((backTo cpos (starEach (e :: es) X.env)).all (fun x=>!x.1) && (backToKw cpos (keywordEach [] X.env)).all (fun x=>x.1.isSome)
   && decide ((e :: es).length+([]:List Keyword).length+(if ([]:List Keyword).isEmpty then 0 else 1)<30))=true:=by rfl)
  (hline:(apos.endLine == cpos.line)=true:=by rfl) (hs:starEach (e :: es) X.env=(false,eval e X.env) :: starEach es X.env:=by rfl) (hplain:(backTo cpos (starEach es X.env)).any (·.1)=false:=by rfl) :
  PE3 X (.Call (.Attribute o name apos) (e :: es) [] cpos) (zdi f mo mA) :=
 PE.imp (zpa PySem.F.plainAttrs_list slot hty hm ho ha hbase hfew hline hs hplain) fun σ H Q hx1_=>by
  obtain ⟨ρ,l,S,v,S',sim,ro,hq,p⟩:=hx1_
  obtain ⟨⟨x,S1⟩,h1,hq⟩:=bnd hq
  obtain ⟨xs,h2,hq⟩:=bnd hq
  obtain ⟨⟨ys,S2⟩,h4,hq⟩:=bnd hq
  exact ⟨ρ,l,S,x,S1,sim,ro,h1,fun ρ1 H1 x' e1 s1 r1=>⟨yah s1 r1 h2,ρ1,l,S1,ys,S2,s1,ro.mono e1,h4,fun ρ2 H2 vs e2 s2 r2=>h3 ρ2 S2 H2 x x' ys vs v S' Q s2 (r1.mono e2) r2 hq (p.ext (e1.trans e2))⟩⟩
theorem zfu {m:EM}(ho:PE3 X o mo) (he:PE3 X e m)
  (hbase:attributeBase o "append" X.env (eval o X.env)=eval o X.env:=by rfl)
  (hfew:((backTo cpos (starEach [e] X.env)).all (fun x=>!x.1) && (backToKw cpos (keywordEach [] X.env)).all (fun x=>x.1.isSome)
   && decide ([e].length+([]:List Keyword).length+(if ([]:List Keyword).isEmpty then 0 else 1)<30))=true:=by rfl)
  (hline:(apos.endLine == cpos.line)=true:=by rfl) (hs:starEach [e] X.env=(false,eval e X.env) :: starEach [] X.env:=by rfl) :
  PE3 X (.Call (.Attribute o "append" apos) [e] [] cpos) (zdi zdt mo (zac m zaf)) :=
 zms PySem.F.slot_list_append PySem.F.type_list_append zmd yag ho (zad he zah hs) hbase hfew hline hs
end
section
variable {X:Cx}{a:Expr}{ma:EM}{pos p p2:Pos}
theorem yai {K:QFg}{T U:String}(hT:T∈["NoneType","bool","int","str","tuple","list","dict"]) (hU:U∈["bool","int","str","tuple","list"]):PySem.W.kitOne K (.type T) (.type U)=some (isI T U):=by
 simp only [List.mem_cons,List.not_mem_nil,or_false] at hT hU
 rcases hT with rfl|rfl|rfl|rfl|rfl|rfl|rfl <;> rcases hU with rfl|rfl|rfl|rfl|rfl <;> rfl
theorem zmt {U:String}{y:Str}(hg:Gl X "isinstance") (hm:X.mg "isinstance" = none) (hgy:Gl X y) (hmy:X.mg y=none) (hv:bootBuiltins y=some (.type U)) (hU:U∈["bool","int","str","tuple","list"]) (ha:PE3 X a ma)
  (hn:y≠"__name__":=by decide) (hdb:(y == ("__debug__":Str))=false:=by decide)
  (he:starEach (a :: [.Name y p2]) X.env=(false,eval a X.env) :: starEach [.Name y p2] X.env:=by rfl) (he2:starEach [.Name y p2] X.env=(false,eval (.Name y p2) X.env) :: starEach [] X.env:=by rfl) (hpl:(backTo pos (starEach [.Name y p2] X.env)).any (·.1)=false:=by rfl) :
  PE3 X (.Call (.Name "isinstance" p) [a,.Name y p2] [] pos) (eUn (zhx U) ma):=by
 have hy:PE X (.Name y p2) (tC (.ty U)):=zv7 hgy hmy hv rfl hn hdb
 refine PE.imp (zo0 (id:="isinstance") (r:=fun xs H Q=>∃x T,xs=[x,.ty U]/\TyOf X.K H x (.type T)/\T∈["NoneType","bool","int","str","tuple","list","dict"]/\Q (.bl (isI T U)) H) ?_ hg hm (by decide +kernel) (zkk ha (zkk hy zl6 he2) he) (by decide) (by decide) he hpl) ?_
 ·intro pins s σ H xs us Q I r h
  obtain ⟨x,T,rfl,ty,hT,q⟩:=h
  obtain ⟨u1,u2,rfl,r1,r2⟩:=r.two
  cases r2
  exact zyc I r1 ty (yai hT hU) fun tk=>⟨.bl _,H,I.tok tk,rfl,q⟩
 ·rintro σ H Q ⟨ρ,l,S,v,S',sim,ro,hq,p⟩
  obtain ⟨⟨x,S1⟩,h1,hq⟩:=bnd hq
  obtain ⟨T,h2,hq⟩:=bnd hq
  cases hq
  refine ⟨ρ,l,S,x,_,sim,ro,h1,fun ρ1 H1 x' e1 s1 r1=>⟨x',T,rfl,?_⟩⟩
  have fin:=p ρ1 H1 _ e1 s1 (.bl (isI T U))
  cases r1 with
  | non=>cases h2;exact ⟨.non,by decide,fin⟩
  | bl b=>cases h2;exact ⟨.bl b,by decide,fin⟩
  | int b=>cases h2;exact ⟨.int b,by decide,fin⟩
  | str b=>cases h2;exact ⟨.str b,by decide,fin⟩
  | tup hh rr=>cases h2;exact ⟨.tup hh,by decide,fin⟩
  | @ref n b hn =>
   unfold tyD at h2
   dsimp only at h2
   split at h2
   ·rename_i ys ey
    cases h2
    obtain ⟨a',us,ha',hH,r2⟩:=s1.lst ey
    rw [ha'] at hn;cases hn
    exact ⟨.lst hH,by decide,fin⟩
   ·rename_i kvs ey
    cases h2
    obtain ⟨us,hH,r2⟩:=s1.at' n b _ hn ey
    exact ⟨.dK hH,by decide,fin⟩
   ·cases h2
  | fn b=>cases h2
end
noncomputable def sp3 (K:QFg) (n:Nat) (f:FM):Sp:=fun vs H Q _=>vs.length=n/\∃ρ ds S v S',Sim K ρ S H/\RDs ρ H ds vs/\f ds S=some (v,S')/\Pv K ρ H v S' Q
section
variable {X:Cx}{a:Expr}{es:List Expr}{mA:AM}{pos p:Pos}{x:Str}{k:Nat}{f:Addr}{fd:FuncData}{ps:List Str}{m:FM}
theorem yaj {n:Nat}(F:FnOk X.prog X.w X.K X.mg X.base CX0 k f fd ps (sp3 X.K n m)) (hr:Room k X.A) (hg:Gl X x) (hm:X.mg x=some (.ref f)) (hk:PySem.W.keepIn X.K (.ref f)=true) (hb:Binds X.K fd ps [])
  (ha:PA3 X (a :: es) mA) (hl:∀l S v S',mA l S=some (v,S')->v.length=n) (hdb:(x == ("__debug__":Str))=false:=by decide) (he:starEach (a :: es) X.env=(false,eval a X.env) :: starEach es X.env:=by rfl) (hpl:(backTo pos (starEach es X.env)).any (·.1)=false:=by rfl) :
  PE3 X (.Call (.Name x p) (a :: es) [] pos) (zag m mA) :=
 PE.imp (zyl F hr hg hm hk hb .nil zzi ha hdb he hpl) fun σ H Q hx3_=>by
  obtain ⟨ρ,l,S,v,S',sim,ro,hq,p⟩:=hx3_
  obtain ⟨⟨xs,S1⟩,h1,hq⟩:=bnd hq
  exact ⟨ρ,l,S,xs,S1,sim,ro,h1,fun ρ1 H1 vs e1 s1 r1=>⟨by rw [List.append_nil,←r1.length];exact hl _ _ _ _ h1,ρ1,xs,S1,v,S',s1,by rw [List.append_nil];exact r1,hq,p.ext e1⟩⟩
theorem za0:∀l S v S',zaf l S=some (v,S')->v.length=0:=fun l S v S' h=>by cases h;rfl
theorem zaj {n:Nat}{m:EM}{mA:AM}(h:∀l S v S',mA l S=some (v,S')->v.length=n):∀l S v S',zac m mA l S=some (v,S')->v.length=n+1:=fun l S v S' q=>by
 obtain ⟨⟨x,S1⟩,h1,q⟩:=bnd q
 obtain ⟨⟨y,S2⟩,h2,q⟩:=bnd q
 cases q
 rw [List.length_cons,h _ _ _ _ h2]
end
noncomputable def zbn:SM:=fun l S=>some (.nx,l,S)
noncomputable def zp8:SM:=fun l S=>some (.bk,l,S)
noncomputable def zam (a b:SM):SM:=fun l S=>(a l S).bind fun p=>match p.1 with
 | .nx=>b p.2.1 p.2.2
 | f=>some (f,p.2)
noncomputable def zdq (e:EM):SM:=fun l S=>(e l S).bind fun p=>some (.nx,l,p.2)
noncomputable def za9 (e:EM):SM:=fun l S=>(e l S).bind fun p=>some (.rt p.1,l,p.2)
noncomputable def sIf (c:TM) (a b:SM):SM:=fun l S=>(c l S).bind fun p=>if p.1=true then a l p.2 else b l p.2
noncomputable def zap (e:EM) (g:GM):SM:=fun l S=>(e l S).bind fun p=>(g p.1 l p.2).bind fun q=>some (.nx,q)
noncomputable def zai (i:Nat):GM:=fun d l S=>some (l.set i (some d),S)
noncomputable def zce:GsM
 | [],l,S=>some (l,S)
 | _,_,_=>none
noncomputable def zba (g:GM) (r:GsM):GsM
 | x :: xs,l,S=>(g x l S).bind fun p=>r xs p.1 p.2
 | _,_,_=>none
noncomputable def zcf (n:Nat) (g:GsM):GM
 | .tup xs,l,S=>if xs.length=n then g xs l S else none
 | _,_,_=>none
section
variable {X:Cx}{st:Stmt}{rest:List Stmt}{m n:SM}{e c:Expr}{me:EM}{pos:Pos}
theorem zbu:zd2 X [] zbn:=PSs.imp zwq fun E σ H hx1_=>by
 obtain ⟨ρ,l,S,f,l',S',sim,ro,hm,p⟩:=hx1_
 cases hm
 exact p ρ H σ (Ext.refl ..) sim ro
theorem zao (h1:PS3 X st m) (h2:zd2 X rest n):zd2 X (st :: rest) (zam m n):=PSs.imp (zwr h1 h2) fun E σ H hx2_=>by
 obtain ⟨ρ,l,S,f,l',S',sim,ro,hm,p⟩:=hx2_
 obtain ⟨⟨g,l1,S1⟩,q1,hm⟩:=bnd hm
 refine ⟨ρ,l,S,g,l1,S1,sim,ro,q1,fun ρ1 H1 σ1 e1 s1 r1=>?_⟩
 cases g with
 | nx=>exact ⟨ρ1,l1,S1,f,l',S',s1,r1,hm,fun ρ2 H2 σ2 e2 s2 r2=>p ρ2 H2 σ2 (e1.trans e2) s2 r2⟩
 | bk=>cases hm;exact p ρ1 H1 σ1 e1 s1 r1
 | ct=>cases hm;exact p ρ1 H1 σ1 e1 s1 r1
 | rt d=>cases hm;exact p ρ1 H1 σ1 e1 s1 r1
theorem zaw (h1:PS3 X st m):zd2 X [st] m:=zws h1
theorem yak:PS3 X (.Break pos) zp8:=PS.imp zwu fun E σ H hx4_=>by
 obtain ⟨ρ,l,S,f,l',S',sim,ro,hm,p⟩:=hx4_
 cases hm
 exact p ρ H σ (Ext.refl ..) sim ro
theorem zej (he:PE3 X e me) (hs:swapsWith e none pos.line X.env=pure false:=by rfl):PS3 X (.Expr e pos) (zdq me):=PS.imp (zww he hs) fun E σ H hx6_=>by
 obtain ⟨ρ,l,S,f,l',S',sim,ro,hm,p⟩:=hx6_
 obtain ⟨⟨x,S1⟩,q1,hm⟩:=bnd hm
 cases hm
 exact ⟨ρ,l,S,x,_,sim,ro,q1,fun ρ1 H1 x' e1 s1 _=>p ρ1 H1 σ e1 s1 (ro.mono e1)⟩
theorem zbc (he:PE3 X e me):PS3 X (.Return (some e) pos) (za9 me):=PS.imp (zwy he) fun E σ H hx7_=>by
 obtain ⟨ρ,l,S,f,l',S',sim,ro,hm,p⟩:=hx7_
 obtain ⟨⟨x,S1⟩,q1,hm⟩:=bnd hm
 cases hm
 exact ⟨ρ,l,S,x,_,sim,ro,q1,fun ρ1 H1 x' e1 s1 r1=>p ρ1 H1 σ e1 s1 (ro.mono e1) x' r1⟩
theorem zbv {c:Expr}{a b:List Stmt}{mc:TM}(hc:PT3 X c mc) (ha:zd2 X a m) (hb:zd2 X b n):PS3 X (.If c a b pos) (sIf mc m n):=PS.imp (zw0 hc ha hb) fun E σ H hx9_=>by
 obtain ⟨ρ,l,S,f,l',S',sim,ro,hm,p⟩:=hx9_
 obtain ⟨⟨x,S1⟩,q1,hm⟩:=bnd hm
 refine ⟨ρ,l,S,x,S1,sim,ro,q1,fun ρ1 H1 e1 s1=>?_⟩
 cases x with
 | true=>exact zeh ⟨ρ1,l,S1,f,l',S',s1,ro.mono e1,hm,fun ρ2 H2 σ2 e2 s2 r2=>p ρ2 H2 σ2 (e1.trans e2) s2 r2⟩
 | false=>exact zeg ⟨ρ1,l,S1,f,l',S',s1,ro.mono e1,hm,fun ρ2 H2 σ2 e2 s2 r2=>p ρ2 H2 σ2 (e1.trans e2) s2 r2⟩
noncomputable def zmu:SM:=fun _ _=>none
theorem zp9:PS3 X st zmu:=PS.imp zw2 fun E σ H hx10_=>by obtain ⟨ρ,l,S,f,l',S',sim,ro,hm,p⟩:=hx10_;cases hm
variable {tgt o i:Expr}{g:GM}{gs:GsM}{ts':List Expr}{mo mi:EM}
theorem zaz (j:Nat) {x:Str}(hN:X.N.Nodup) (hi:X.N[j]? = some x:=by rfl) (hx:Loc X.env.scope x:=by first|exact Or.inl rfl|exact Or.inr rfl) (hf:X.fn x=true∨X.env.scope.names.lookup x=some .local:=by first|exact .inl rfl|exact .inr rfl|assumption):PG3 X (.Name x pos) (zai j) :=
 PG.imp (zw3 hN hi hx hf) fun v σ H Q hx11_=>by
  obtain ⟨ρ,l,S,d,l',S',sim,ro,rd,hm,p⟩:=hx11_
  cases hm
  exact p ρ H _ (Ext.refl ..) sim (ro.set j rd)
theorem zcu:zkr X [] zce:=PGs.imp zw6 fun v σ H Q hx12_=>by
 obtain ⟨ρ,l,S,d,l',S',sim,ro,rd,hm,p⟩:=hx12_
 cases rd with
 | nil=>cases hm;exact ⟨rfl,p ρ H _ (Ext.refl ..) sim ro⟩
 | cons _ _=>cases hm
theorem zbd (h1:PG3 X tgt g) (h2:zkr X ts' gs) (hs:(assignEach (tgt :: ts') X.env).map (·.2)=assign tgt X.env :: (assignEach ts' X.env).map (·.2):=by rfl):zkr X (tgt :: ts') (zba g gs):=PGs.imp (zw7 h1 h2 hs) fun v σ H Q hx13_=>by
 obtain ⟨ρ,l,S,d,l',S',sim,ro,rd,hm,p⟩:=hx13_
 cases rd with
 | nil=>cases hm
 | @cons x v' xs vs r1 r2 =>
  obtain ⟨⟨l1,S1⟩,q1,hm⟩:=bnd hm
  exact ⟨v',vs,rfl,ρ,l,S,x,l1,S1,sim,ro,r1,q1,fun ρ1 H1 σ1 e1 s1 ro1=>⟨ρ1,l1,S1,xs,l',S',s1,ro1,r2.mono e1,hm,fun ρ2 H2 σ2 e2 s2 ro2=>p ρ2 H2 σ2 (e1.trans e2) s2 ro2⟩⟩
theorem zcv {es:List Expr}{k n:Nat}(hc:X.calm=true) (h:zkr X es gs) (hn:(assignEach es X.env).length=n:=by rfl) (hst:(assignEach es X.env).findIdx? (·.1)=none:=by rfl):PG3 X (.Tuple es k pos) (zcf n gs) :=
 PG.imp (zw9 hc h hn hst) fun v σ H Q hx14_=>by
  obtain ⟨ρ,l,S,d,l',S',sim,ro,rd,hm,p⟩:=hx14_
  cases rd with
  | @tup xs a vs ha r =>
   have hm:(if xs.length=n then gs xs l S else none)=some (l',S'):=hm
   by_cases hl:xs.length=n
   ·rw [if_pos hl] at hm
    exact ⟨a,vs,rfl,SqT.of ha,by rw [←r.length];exact hl,ρ,l,S,xs,l',S',sim,ro,r,hm,p⟩
   ·rw [if_neg hl] at hm;cases hm
  | _=>cases hm
theorem zdu (he:PE3 X e me) (hg:PG3 X tgt g) (hs:swapsWithSole [tgt] e pos.line X.env=pure false:=by rfl) (hw:swappedStores [tgt] e X.env=pure none:=by rfl)
  (h1:(assignEach [tgt] X.env).map (·.2)=[assign tgt X.env]:=by rfl):PS3 X (.Assign [tgt] e pos) (zap me g):=PS.imp (zxa he hg hs hw h1) fun E σ H hx16_=>by
 obtain ⟨ρ,l,S,f,l',S',sim,ro,hm,p⟩:=hx16_
 obtain ⟨⟨x,S1⟩,q1,hm⟩:=bnd hm
 obtain ⟨⟨l2,S2⟩,q2,hm⟩:=bnd hm
 cases hm
 exact ⟨ρ,l,S,x,S1,sim,ro,q1,fun ρ1 H1 x' e1 s1 r1=>⟨ρ1,l,S1,x,_,_,s1,ro.mono e1,r1,q2,fun ρ2 H2 σ2 e2 s2 r2=>p ρ2 H2 σ2 (e1.trans e2) s2 r2⟩⟩
theorem za5 (j:Nat) {x:Str}{pos':Pos}(hN:X.N.Nodup) (he:PE3 X e me) (hi:X.N[j]? = some x:=by rfl) (hx:Loc X.env.scope x:=by first|exact Or.inl rfl|exact Or.inr rfl) (hs:swapsWith e (some (.Name x pos')) pos.line X.env=pure false:=by rfl) (hf:X.fn x=true∨X.env.scope.names.lookup x=some .local:=by first|exact .inl rfl|exact .inr rfl|assumption) :
  PS3 X (.Assign [.Name x pos'] e pos) (zap me (zai j)):=PS.imp (zxb hN hi hx he hs hf) fun E σ H hx17_=>by
 obtain ⟨ρ,l,S,f,l',S',sim,ro,hm,p⟩:=hx17_
 obtain ⟨⟨x,S1⟩,q1,hm⟩:=bnd hm
 cases hm
 exact ⟨ρ,l,S,x,_,sim,ro,q1,fun ρ1 H1 x' e1 s1 r1=>p ρ1 H1 _ e1 s1 ((ro.mono e1).set j r1)⟩
end
noncomputable def zek (g:GM) (b:SM):List D->SM
 | [],l,S=>some (.nx,l,S)
 | x :: xs,l,S=>(g x l S).bind fun p=>(b p.1 p.2).bind fun q=>match q.1 with
  | .nx=>zek g b xs q.2.1 q.2.2
  | .ct=>zek g b xs q.2.1 q.2.2
  | .bk=>some (.nx,q.2)
  | .rt d=>some (.rt d,q.2)
noncomputable def zel (g:GM) (b:SM) (n:Nat):Nat->Nat->SM
 | 0,_,_,_=>none
 | k+1,i,l,S=>(lstOf S n).bind fun xs=>match xs[i]? with
  | none=>some (.nx,l,S)
  | some x=>(g x l S).bind fun p=>(b p.1 p.2).bind fun q=>match q.1 with
   | .nx=>zel g b n k (i+1) q.2.1 q.2.2
   | .ct=>zel g b n k (i+1) q.2.1 q.2.2
   | .bk=>some (.nx,q.2)
   | .rt d=>some (.rt d,q.2)
noncomputable def zem (e:EM) (g:GM) (b:SM):SM:=fun l S=>(e l S).bind fun p=>match p.1 with
 | .tup xs=>zek g b xs l p.2
 | .ref n=>(lstOf p.2 n).bind fun xs=>zel g b n (xs.length+1) 0 l p.2
 | _=>none
noncomputable def zbz (lo:Int) (n:Nat):List D:=(List.range n).map fun (i:Nat)=>.int (lo+i)
noncomputable def zcg (as:AM):Lo->Sto->Option ((Int × Nat) × Sto):=fun l S=>(as l S).bind fun p=>match p.1 with
 | [.int j]=>if -(2 ^ 62)<=j/\j<2 ^ 62 then some ((0,j.toNat),p.2) else none
 | _=>none
noncomputable def zez (r:Lo->Sto->Option ((Int × Nat) × Sto)) (g:GM) (b:SM):SM:=fun l S=>(r l S).bind fun p=>zek g b (zbz p.1.1 p.1.2) l p.2
section
variable {K:QFg}{g:GM}{b:SM}{E:Ends}
theorem zmv {next:SM}{x:D}{v:V}{ρ:List Addr}{l:Lo}{S:Sto}{H:Hp}{σ:St}{f:Fl}{l':Lo}{S':Sto}(sim:Sim K ρ S H) (ro:RO ρ H l σ) (rx:RD ρ H x v)
  (hm:((g x l S).bind fun p=>(b p.1 p.2).bind fun q=>match q.1 with
   | .nx=>next q.2.1 q.2.2
   | .ct=>next q.2.1 q.2.2
   | .bk=>some (.nx,q.2)
   | .rt d=>some (.rt d,q.2))=some (f,l',S')) (p:∀ρ' H' σ',Ext ρ H ρ' H'->Sim K ρ' S' H'->RO ρ' H' l' σ'->zge ρ' H' E σ' f)
  {N:St->Hp->Prop} (hN:∀ρ1 H1 σ1 l1 S1,Ext ρ H ρ1 H1->Sim K ρ1 S1 H1->RO ρ1 H1 l1 σ1->next l1 S1=some (f,l',S')->N σ1 H1) :
  tg K g v σ H fun σ2 H2=>ts K b { E with nx:=N,ct:=N,bk:=E.nx } σ2 H2:=by
 obtain ⟨⟨l1,S1⟩,q1,hm⟩:=bnd hm
 obtain ⟨⟨fl,l2,S2⟩,q2,hm⟩:=bnd hm
 refine ⟨ρ,l,S,x,l1,S1,sim,ro,rx,q1,fun ρ1 H1 σ1 e1 s1 r1=>⟨ρ1,l1,S1,fl,l2,S2,s1,r1,q2,fun ρ2 H2 σ2 e2 s2 r2=>?_⟩⟩
 cases fl with
 | nx=>exact hN ρ2 H2 σ2 l2 S2 (e1.trans e2) s2 r2 hm
 | ct=>exact hN ρ2 H2 σ2 l2 S2 (e1.trans e2) s2 r2 hm
 | bk=>cases hm;exact p ρ2 H2 σ2 (e1.trans e2) s2 r2
 | rt d=>cases hm;exact p ρ2 H2 σ2 (e1.trans e2) s2 r2
end
section
variable {X:Cx}{tgt iter:Expr}{body:List Stmt}{g:GM}{b:SM}{m:EM}{pos:Pos}
theorem zqa {K:QFg}{J:It}{vs:List V}{xs:List D}{ρ:List Addr}{l:Lo}{S:Sto}{H:Hp}{σ:St}{f:Fl}{l':Lo}{S':Sto}{E:Ends}(R:List Addr->Hp->Prop) (hR:∀ρ H ρ' H',Ext ρ H ρ' H'->R ρ H->R ρ' H')
  (hgo:∀(i:Nat) ρ H v,R ρ H->vs[i]? = some v->J.go i H) (hy:∀(i:Nat) ρ H v H',R ρ H->i<vs.length->J.yld i H v H'->H' = H/\vs[i]? = some v) (hst:∀ρ H,R ρ H->J.stop vs.length H)
  (hv:∀ρ H,R ρ H->RDs ρ H xs vs) (r0:R ρ H)
  (sim:Sim K ρ S H) (ro:RO ρ H l σ) (hm:zek g b xs l S=some (f,l',S')) (p:∀ρ' H' σ',Ext ρ H ρ' H'->Sim K ρ' S' H'->RO ρ' H' l' σ'->zge ρ' H' E σ' f) :
  ∃W:Nat->Nat->St->Hp->Prop,(∃m,W 0 m σ H)/\∀i m σ H,W i m σ H ->
   (J.stop i H/\E.nx σ H)∨(J.go i H/\∃N:St->Hp->Prop,(∀σ' H',N σ' H'->∃m',m' < m/\W (i+1) m' σ' H')/\∀x H',J.yld i H x H'->tg K g x σ H' fun σ2 H2=>ts K b { E with nx:=N,ct:=N,bk:=E.nx } σ2 H2):=by
 refine ⟨fun i m σ1 H1=>m=xs.length-i/\i<=xs.length/\∃ρ1 l1 S1,Ext ρ H ρ1 H1/\Sim K ρ1 S1 H1/\RO ρ1 H1 l1 σ1/\zek g b (xs.drop i) l1 S1=some (f,l',S'),⟨xs.length,by simp,Nat.zero_le _,ρ,l,S,Ext.refl ..,sim,ro,hm⟩,?_⟩
 rintro i m σ1 H1 ⟨rfl,hi,ρ1,l1,S1,e1,s1,ro1,hm1⟩
 have R1:=hR _ _ _ _ e1 r0
 have hlen:=(hv _ _ r0).length
 by_cases hlt:i<xs.length
 ·have hx:xs[i]? = some xs[i]:=qge hlt
  obtain ⟨v,hvi,rv⟩:=(hv _ _ R1).get hx
  rw [List.drop_eq_getElem_cons hlt] at hm1
  refine .inr ⟨hgo i ρ1 H1 v R1 hvi,_,fun σ' H' h=>h,fun y H' hyl=>?_⟩
  obtain ⟨e,hy2⟩:=hy i ρ1 H1 y H' R1 (by omega) hyl
  subst e
  rw [hvi] at hy2;cases hy2
  refine zmv (next:=zek g b (xs.drop (i+1))) s1 ro1 rv hm1 (fun ρ' H' σ' e'=>p ρ' H' σ' (e1.trans e')) fun ρ2 H2 σ2 l2 S2 e2 s2 ro2 hm2=>?_
  exact ⟨xs.length-(i+1),by omega,rfl,hlt,ρ2,l2,S2,e1.trans e2,s2,ro2,hm2⟩
 ·have hil:i=xs.length:=by omega
  subst hil
  rw [List.drop_length] at hm1
  cases hm1
  exact .inl ⟨by rw [hlen];exact hst _ _ R1,p ρ1 H1 σ1 e1 s1 ro1⟩
theorem zqb (ρ:List Addr) (H:Hp) (lo:Int) (n:Nat):RDs ρ H (zbz lo n) ((List.range n).map fun (i:Nat)=>V.int (lo+i)):=by
 unfold zbz
 generalize List.range n=l
 induction l with
 | nil=>exact .nil
 | cons a r ih=>exact .cons (.int _) ih
theorem yal {lo:Int}{n i:Nat}{v:V}(h:i<n) (hv:v=.int (lo+i)):((List.range n).map fun (i:Nat)=>V.int (lo+i))[i]? = some v:=by
 rw [qgm,List.getElem?_range h,hv];rfl
theorem PI.or {wi wj:TI}(h:PI X tgt iter wi) (h':PI X tgt iter wj):PI X tgt iter (fun σ H R=>wi σ H R∨wj σ H R):=by
 intro pins s σ H R I q
 rcases q with q|q
 ·exact h pins s σ H R I q
 ·exact h' pins s σ H R I q
theorem yam {K:QFg}{n:Nat}{a:Addr}{ρ:List Addr}{l:Lo}{S:Sto}{H:Hp}{σ:St}{f:Fl}{l':Lo}{S':Sto}{E:Ends}{k:Nat}(ha:ρ[n]? = some a)
  (sim:Sim K ρ S H) (ro:RO ρ H l σ) (hm:zel g b n k 0 l S=some (f,l',S')) (p:∀ρ' H' σ',Ext ρ H ρ' H'->Sim K ρ' S' H'->RO ρ' H' l' σ'->zge ρ' H' E σ' f) :
  ∃W:Nat->Nat->St->Hp->Prop,(∃m,W 0 m σ H)/\∀i m σ H,W i m σ H ->
   ((Itl K a).stop i H/\E.nx σ H)∨((Itl K a).go i H/\∃N:St->Hp->Prop,(∀σ' H',N σ' H'->∃m',m' < m/\W (i+1) m' σ' H')/\∀x H',(Itl K a).yld i H x H'->tg K g x σ H' fun σ2 H2=>ts K b { E with nx:=N,ct:=N,bk:=E.nx } σ2 H2):=by
 refine ⟨fun i m σ1 H1=>∃ρ1 l1 S1,Ext ρ H ρ1 H1/\Sim K ρ1 S1 H1/\RO ρ1 H1 l1 σ1/\zel g b n m i l1 S1=some (f,l',S'),⟨k,ρ,l,S,Ext.refl ..,sim,ro,hm⟩,?_⟩
 rintro i m σ1 H1 ⟨ρ1,l1,S1,e1,s1,ro1,hm1⟩
 cases m with
 | zero=>cases hm1
 | succ m =>
  have ha1:=e1.pre n a ha
  unfold zel at hm1
  obtain ⟨xs,hx,hm1⟩:=bnd hm1
  obtain ⟨a',vs,ha',sq,rv⟩:=s1.lstOf hx
  rw [ha1] at ha';cases ha'
  cases hi:xs[i]? with
  | none =>
   rw [hi] at hm1
   cases hm1
   have hl:xs.length<=i:=List.getElem?_eq_none_iff.mp hi
   exact .inl ⟨⟨vs,sq,by rw [←rv.length];exact hl⟩,p ρ1 H1 σ1 e1 s1 ro1⟩
  | some x =>
   rw [hi] at hm1
   obtain ⟨v,hvi,r⟩:=rv.get hi
   refine .inr ⟨⟨vs,v,sq,hvi⟩,_,fun σ' H' h=>h,fun y H' hyl=>?_⟩
   obtain ⟨e,hy2⟩:=hyl
   subst e
   have hy3:=hy2 vs sq
   rw [hvi] at hy3;cases hy3
   refine zmv (next:=zel g b n m (i+1)) s1 ro1 r hm1 (fun ρ' H' σ' e'=>p ρ' H' σ' (e1.trans e')) fun ρ2 H2 σ2 l2 S2 e2 s2 ro2 hm2=>?_
   exact ⟨m,Nat.lt_succ_self m,ρ2,l2,S2,e1.trans e2,s2,ro2,hm2⟩
theorem zgz (hp:PassesOwn (model X.prog X.w) X.A X.env X.xe) (hc:X.calm=true) (hi:PE3 X iter m) (hg:PG3 X tgt g) (hb:zd2 X body b)
  (hs:∀x,foldedSetIterable iter X.env x=pure x:=by intro _;rfl):PS3 X (.For tgt iter body [] pos) (zem m g b) :=
 PS.imp (zl2 hp hc (PI.or (zol hi) (zl1 hi)) hg hb hs) fun E σ H hx18_=>by
  obtain ⟨ρ,l,S,f,l',S',sim,ro,hm,p⟩:=hx18_
  obtain ⟨⟨x,S1⟩,q1,hm⟩:=bnd hm
  dsimp only at hm
  split at hm
  ·rename_i xs
   refine .inr ⟨ρ,l,S,.tup xs,S1,sim,ro,q1,fun ρ1 H1 x' e1 s1 r1=>?_⟩
   cases r1 with
   | @tup xs a vs ha r =>
    refine ⟨a,rfl,⟨vs,SqT.of ha⟩,zqa (vs:=vs) (fun ρ' H'=>H' a=some (.tup vs)/\RDs ρ' H' xs vs) (fun ρ H ρ' H' e ⟨h1,h2⟩=>⟨e.tup _ _ h1,h2.mono e⟩)
     (fun i ρ H v ⟨h1,_⟩ hv=>⟨vs,v,SqT.of h1,hv⟩) (fun i ρ H v H' ⟨h1,_⟩ _ hy=>⟨hy.1,hy.2 vs (SqT.of h1)⟩) (fun ρ H ⟨h1,_⟩=>⟨vs,SqT.of h1,qlr _⟩) (fun ρ H h=>h.2) ⟨ha,r⟩ s1 (ro.mono e1) hm fun ρ' H' σ' e'=>p ρ' H' σ' (e1.trans e')⟩
  ·rename_i n
   obtain ⟨xs,hx,hm⟩:=bnd hm
   refine .inl ⟨ρ,l,S,.ref n,S1,sim,ro,q1,fun ρ1 H1 x' e1 s1 r1=>?_⟩
   obtain ⟨a,vs,ha,sq,rv⟩:=s1.lstOf hx
   cases r1 with
   | ref hn =>
    rw [ha] at hn;cases hn
    exact ⟨a,rfl,⟨vs,sq⟩,yam ha s1 (ro.mono e1) hm (fun ρ' H' σ' e'=>p ρ' H' σ' (e1.trans e'))⟩
  ·cases hm
theorem zg0 {a:Expr}{mA:AM}{p0 pos':Pos}(hp:PassesOwn (model X.prog X.w) X.A X.env X.xe) (hc:X.calm=true) (hgl:Gl X "range") (hmg:X.mg "range" = none) (ha:PA3 X [a] mA) (hg:PG3 X tgt g) (hb:zd2 X body b)
  (hs:∀x,foldedSetIterable (.Call (.Name "range" p0) [a] [] pos') X.env x=pure x:=by intro _;rfl) (hst:starEach [a] X.env=[(false,eval a X.env)]:=by rfl):PS3 X (.For tgt (.Call (.Name "range" p0) [a] [] pos') body [] pos) (zez (zcg mA) g b) :=
 PS.imp (zl2 hp hc (zom hgl hmg ha hst) hg hb hs) fun E σ H hx19_=>by
  obtain ⟨ρ,l,S,f,l',S',sim,ro,hm,p⟩:=hx19_
  obtain ⟨⟨⟨lo,n⟩,S1⟩,q1,hm⟩:=bnd hm
  obtain ⟨⟨xs,S2⟩,q2,q1⟩:=bnd q1
  dsimp only at q1 hm
  split at q1
  ·rename_i j
   obtain ⟨hz,e⟩:=zbt q1
   cases e
   refine ⟨ρ,l,S,[.int j],S1,sim,ro,q2,fun ρ1 H1 vs e1 s1 r1=>?_⟩
   obtain ⟨v,rfl,rv⟩:=r1.one
   cases rv
   refine ⟨j,rfl,hz.1,hz.2,zqa (vs:=(List.range j.toNat).map fun (i:Nat)=>V.int (0+i)) (fun _ _=>True) (fun _ _ _ _ _ h=>h) (fun i ρ H v _ hv=>?_) (fun i ρ H v H' _ hl hy=>⟨hy.1,?_⟩) (fun ρ H _=>?_) (fun ρ H _=>zqb ρ H 0 j.toNat) trivial s1 (ro.mono e1) hm fun ρ' H' σ' e'=>p ρ' H' σ' (e1.trans e')⟩
   ·have:=(qme hv).1
    simp at this
    show i<j.toNat
    omega
   ·obtain ⟨_,hy⟩:=hy
    exact yal (by simpa using hl) hy
   ·show j.toNat<=_
    simp
  ·cases q1
end
noncomputable def zbo (n:Nat) (b:SM):FM:=fun ds S=>(b (ds.map some++List.replicate (n-ds.length) none) S).bind fun p=>match p.1 with
 | .rt d=>some (d,p.2.2)
 | .nx=>some (.non,p.2.2)
 | _=>none
theorem RDs.locals {ρ:List Addr}{H:Hp}{ds:List D}{vs:List V}(r:RDs ρ H ds vs) (N:List Str):RO ρ H (ds.map some++List.replicate (N.length-ds.length) none) (L2.start N vs):=by
 unfold L2.start
 rw [←r.length]
 refine ⟨by simp [r.length],fun i d h=>?_⟩
 by_cases hl:i<ds.length
 ·rw [List.getElem?_append_left (by simpa using hl),qgm] at h
  cases e:ds[i]? with
  | none=>rw [e] at h;cases h
  | some d' =>
   rw [e] at h
   have h':some (some d')=some (some d):=h
   cases h'
   obtain ⟨v,h1,h2⟩:=r.get e
   exact ⟨v,by rw [List.getElem?_append_left (by rw [qlm,←r.length];exact hl),qgm,h1];rfl,h2⟩
 ·rw [List.getElem?_append_right (by simpa using hl),List.getElem?_replicate] at h
  split at h
  ·cases h
  ·cases h
theorem zqc {P:Program}{w:World}{K:QFg}{mg:Str->Option Value}{base:Heap}{x qual:Str}{st:Stmt}{f:Addr}{fd:FuncData}{N ps:List Str}{k n:Nat}{b:SM}(F:Fun K x qual st f fd) (S:FnScope N ps (za6 st)) (hn:ps.length=n)
  (hbody:∀(cdv:Value),PySem.W.codeIn K cdv qual=true->∀(A:Around) (outer:List Env) (s:Shared) (H:Hp) (E:XK),Room k (A.deeper (envOfC qual (za6 st) s.heap.objs.size f cdv)) ->
   zd2 (zgc CX0 P w K mg base N qual (za6 st) f cdv A outer s H E).nox (zfr st) b):FnOk P w K mg base CX0 (k+1) f fd ps (sp3 K n (zbo N.length b)):=by
 obtain ⟨oc,od,kV,doc,pm,an,cdv,ct,osl,rfl,lk,hcd⟩:=F.ex
 refine zyn lk hcd S (fun vs H Q E h=>by rw [h.1,hn]) fun A outer s H vs Q E hr h=>?_
 obtain ⟨hl,ρ,ds,S0,v,S',sim,rd,hm,p⟩:=h
 refine ⟨_,PSs.nox (hbody cdv hcd A outer s H E hr),?_⟩
 obtain ⟨⟨fl,l',S1⟩,q,hm⟩:=bnd hm
 refine ⟨ρ,_,S0,fl,l',S1,sim,rd.locals N,q,fun ρ' H' σ' e' s' r'=>?_⟩
 cases fl with
 | nx=>cases hm;exact p ρ' H' _ e' s' .non
 | rt d=>cases hm;exact fun v' rv=>p ρ' H' v' e' s' rv
 | bk=>cases hm
 | ct=>cases hm
noncomputable def zdr (env:Env):List (Str × NameKind)->List (Str × Addr)->List (Str × Addr)
 | [],cs=>cs
 | (n,k) :: r,cs=>if k == .free then (match env.cells.lookup n with|some c=>zdr env r ((n,c) :: cs)|none=>zdr env r cs) else zdr env r cs
theorem zqd (env:Env):∀(names:List (Str × NameKind)) (cs:List (Str × Addr)),(∀x∈names,x.2=.free->∃c,env.cells.lookup x.1=some c) ->
  (forIn names cs (fun x r=>if (x.2 == NameKind.free)=true then do let c ←cellOf env x.1;pure (ForInStep.yield ((x.1,c) :: r)) else pure (ForInStep.yield r)):Sem (List (Str × Addr)))=pure (zdr env names cs)
 | [],cs,_=>rfl
 | (n,k) :: r,cs,h=>by
  have ih:=fun cs=>zqd env r cs fun x hx=>h x (List.mem_cons_of_mem _ hx)
  rw [List.forIn_cons]
  by_cases hk:k=.free
  ·subst hk
   obtain ⟨c,hc⟩:=h (n,.free) List.mem_cons_self rfl
   simp only [beq_self_eq_true,if_true,cellOf,hc,zdr,pure_bind,bind_assoc]
   exact ih _
  ·have hb:(k == NameKind.free)=false:=by simpa using hk
   simp only [hb,Bool.false_eq_true,if_false,zdr,pure_bind]
   exact ih _
theorem zqe (scope:Scope) (env:Env) (h:∀x∈scope.names,x.2=.free->∃c,env.cells.lookup x.1=some c):closureFor scope env=pure (zdr env scope.names []):=by
 have e:=zqd env scope.names [] h
 unfold closureFor
 show (forIn scope.names ([]:List (Str × Addr)) (fun (x:Str × NameKind) (r:List (Str × Addr))=>if (x.2 == NameKind.free)=true then do let c ←cellOf env x.1;pure (ForInStep.yield ((x.1,c) :: r)) else pure (ForInStep.yield r)) >>= fun cs=>pure cs)=_
 rw [e,pure_bind]
theorem zi1 (env:Env):∀(names:List (Str × NameKind)) (cs:List (Str × Addr)),(∀x c,cs.lookup x=some c->env.cells.lookup x=some c)->∀x c,(zdr env names cs).lookup x=some c->env.cells.lookup x=some c
 | [],cs,h,x,c,q=>h x c q
 | (n,k) :: r,cs,h,x,c,q=>by
  unfold zdr at q
  split at q
  ·split at q
   ·rename_i c' e
    refine zi1 env r _ (fun y d hy=>?_) x c q
    rw [List.lookup_cons] at hy
    split at hy
    ·rename_i hb
     have:y=n:=by simpa using hb
     cases hy
     rw [this];exact e
    ·exact h y d hy
   ·exact zi1 env r cs h x c q
  ·exact zi1 env r cs h x c q
theorem zg1 (env:Env):∀(names:List (Str × NameKind)) (cs:List (Str × Addr)) (x:Str),((x,NameKind.free)∈names∨∃c,cs.lookup x=some c)->(∃c,env.cells.lookup x=some c)->∃c,(zdr env names cs).lookup x=some c
 | [],cs,x,h,_=>by
  rcases h with h|h
  ·cases h
  ·exact h
 | (n,k) :: r,cs,x,h,hx=>by
  unfold zdr
  by_cases hk:(k == NameKind.free)=true
  ·rw [if_pos hk]
   split
   ·rename_i c' e
    refine zg1 env r _ x ?_ hx
    by_cases hxn:x=n
    ·exact .inr ⟨c',by rw [hxn,List.lookup_cons];simp⟩
    ·rcases h with h|⟨c,h⟩
     ·rcases List.mem_cons.mp h with h|h
      ·cases h;exact absurd rfl hxn
      ·exact .inl h
     ·exact .inr ⟨c,by
       rw [List.lookup_cons]
       have:(x == n)=false:=by simpa using hxn
       rw [this];exact h⟩
   ·rename_i e
    refine zg1 env r _ x ?_ hx
    rcases h with h|h
    ·rcases List.mem_cons.mp h with h|h
     ·cases h
      obtain ⟨c,hc⟩:=hx
      rw [hc] at e;cases e
     ·exact .inl h
    ·exact .inr h
  ·rw [if_neg hk]
   refine zg1 env r _ x ?_ hx
   rcases h with h|h
   ·rcases List.mem_cons.mp h with h|h
    ·cases h;exact absurd rfl hk
    ·exact .inl h
   ·exact .inr h
noncomputable def cxC (X:Cx) (N':List Str) (scope:Scope) (C:Addr) (s:Shared) (H:Hp) (fp:List Addr) (pins:List (Addr × Obj)):Cx where
 prog:=X.prog
 w:=X.w
 K:=X.K
 mg:=X.mg
 base:=X.base
 A:=X.A
 N:=N'
 s₀:=s
 H₀:=H
 env:=compEnvC scope (zdr X.env scope.names []) C X.env
 outer:=X.stack
 stack:=X.stack
 ex:=fp
 fn:=fun _=>false
 calm:=X.calm
 pn:=X.pn++pins
 xe:=fun _ _=>False
section
variable {prog:Program}{w:World}{A:Around}{R:Result->Shared->Prop}{s:Shared}
theorem yan {elt target iter:Expr}{ifs:List Expr}{scope:Scope}{pos:Pos}{it acc:Value}{env:Env}(I:Nat->Shared->Prop)
  (turn:∀n s,I n s->wpAny (model prog w) A (pyNext it) (fun r s₁=>match r with
   | none=>R (.ok .next) s₁
   | some v=>wpAny (model prog w) A (letOwnedTupleGo target it v) (fun _ s₁'=>wpAny (model prog w) A (assign target env v) (fun _ s₂ =>
     wpAny (model prog w) A (forIn ifs true fun c r=>if r=true then do let ok ←isTrue c env (eval c env);pure (ForInStep.yield ok) else pure (ForInStep.yield r)) (fun ok s₃ =>
      if ok=true then wpAny (model prog w) A (eval elt env) (fun x s₄ =>
       wpAny (model prog w) A (call (.builtin "list.append") [acc,x]) (fun _ s₅=>∃m,m<n/\I m s₅) (fun _ _=>False) s₄) (fun _ _=>False) s₃
      else ∃m,m<n/\I m s₃) (fun _ _=>False) s₂) (fun _ _=>False) s₁') (fun _ _=>False) s₁) (fun _ _=>False) s)
  (n:Nat) (h:I n s) :
  codeAny (model prog w) A (.compLoop (.ListComp elt [⟨target,iter,ifs,0⟩] scope pos) 0 it acc env) R s:=by
 refine codeAny_loop rfl I (fun n s hI=>?_) n h
 show wpAny _ A ((compTurn (.ListComp elt [⟨target,iter,ifs,0⟩] scope pos) 0 it acc env).onRaise (fun x=>do noteFrame x env;theTreesLotGoes x)) _ _ s
 refine wpAny_noted ?_
 rw [compTurn_list]
 refine wpAny_bind (wpAny_standAt (wpAny_bind (wpAny_mono (turn n s hI) (fun r s₁ h₁=>?_) fun _ _ h'=>h'.elim)))
 cases r with
 | none=>exact wpAny_pure h₁
 | some v =>
  refine wpAny_bind (wpAny_mono h₁ (fun _ s₁' h₁=>?_) fun _ _ h'=>h'.elim)
  refine wpAny_bind (wpAny_mono h₁ (fun _ s₂ h₂=>wpAny_bind (wpAny_mono h₂ (fun ok s₃ h₃=>?_) fun _ _ h'=>h'.elim)) fun _ _ h'=>h'.elim)
  cases ok with
  | false=>exact wpAny_pure ⟨rfl,h₃⟩
  | true =>
   exact wpAny_bind (wpAny_bind (wpAny_mono h₃ (fun x s₄ h₄=>wpAny_bind (wpAny_mono h₄ (fun _ s₅ h₅=>wpAny_pure (wpAny_pure ⟨rfl,h₅⟩)) fun _ _ h'=>h'.elim)) fun _ _ h'=>h'.elim))
end
noncomputable def PTs (X:Cx) (ifs:List Expr) (t:TT):Prop:=∀(pins:List (Addr × Obj)) (s:Shared) (σ:St) (H:Hp) (Q:Bool->Hp->Prop),Inv X pins σ H s->t σ H Q ->
 wpAny (model X.prog X.w) X.A (forIn ifs true fun c r=>if r=true then do let ok ←isTrue c X.env (eval c X.env);pure (ForInStep.yield ok) else pure (ForInStep.yield r)) (TP X pins σ Q) X.xe s
theorem yao {X:Cx}:PTs X [] (fun _ H Q=>Q true H):=fun _ _ _ H _ I h=>wpAny_tests_nil ⟨H,I,h⟩
theorem yap {X:Cx}{c:Expr}{t:TT}(h:PT X c t):PTs X [c] t:=fun pins s σ H Q I q=>wpAny_tests_one (h pins s σ H Q I q)
noncomputable def zi2 (K:QFg) (wi:TI) (src:St->St) (g:TG) (tts:TT) (t:TE):TE:=fun σ H Q=>wi σ H fun J H1=>∀D,H1 D=none->K.lookup D=none->∃W:Nat->Nat->St->Hp->Prop,
 (∃m,W 0 m (src σ) (upd H1 D (.lst [])))/\∀i m σ' H',W i m σ' H' ->
  (J.stop i H'/\Q (.ref D) H')∨(J.go i H'/\∃N:St->Hp->Prop,(∀σ' H',N σ' H'->∃m',m' < m/\W (i+1) m' σ' H') /\
   ∀x H'',J.yld i H' x H''->g x σ' H'' fun σ2 H2=>tts σ2 H2 fun b H3=>if b=true then t σ2 H3 (fun v H4=>∃ys,H4 D=some (.lst ys)/\ys.length<sizeLine/\N σ2 (upd H4 D (.lst (ys++[v])))) else N σ2 H3)
theorem zmw {scope:Scope}{env:Env}:∀{names:List (Str × NameKind)}{x:Str},names.lookup x=some .free ->
  ((names.map fun (n,k)=>if (k == NameKind.free && env.scope.kind == .function && env.kindOf n == some .cell) then (n,NameKind.cell) else (n,k)).lookup x=some .cell ∨
   (names.map fun (n,k)=>if (k == NameKind.free && env.scope.kind == .function && env.kindOf n == some .cell) then (n,NameKind.cell) else (n,k)).lookup x=some .free)
 | [],x,h=>by simp at h
 | (n,k) :: r,x,h=>by
  have ih:=@zmw scope env r x
  show List.lookup x ((if (k == NameKind.free && env.scope.kind == .function && env.kindOf n == some .cell)=true then (n,NameKind.cell) else (n,k)) :: _)=_∨List.lookup x ((if (k == NameKind.free && env.scope.kind == .function && env.kindOf n == some .cell)=true then (n,NameKind.cell) else (n,k)) :: _)=_
  cases hx:x == n with
  | true =>
   simp only [List.lookup_cons,hx] at h
   cases h
   by_cases hc:(NameKind.free == NameKind.free && env.scope.kind == .function && env.kindOf n == some .cell)=true
   ·rw [if_pos hc];simp [List.lookup_cons,hx]
   ·rw [if_neg hc];simp [List.lookup_cons,hx]
  | false =>
   simp only [List.lookup_cons,hx] at h
   by_cases hc:(k == NameKind.free && env.scope.kind == .function && env.kindOf n == some .cell)=true
   ·rw [if_pos hc];simp only [List.lookup_cons,hx];exact ih h
   ·rw [if_neg hc];simp only [List.lookup_cons,hx];exact ih h
structure CompSc (X:Cx) (N':List Str) (scope:Scope) (src:St->St):Prop where
 kind:scope.kind=.function
 nocell:∀y∈scope.names,y.2≠.cell
 names:∀y∈scope.names,y.2=.local->scope.names.lookup y.1=some .local
 free:∀y∈scope.names,y.2=.free->X.env.kindOf y.1=some .cell∨X.env.kindOf y.1=some .free
 rel:∀y,(relabel scope X.env).names.lookup y=some .cell∨(relabel scope X.env).names.lookup y=some .free->(y,NameKind.free)∈scope.names
 len:∀σ,(src σ).length=N'.length
 src:∀σ (i:Nat) v x,(src σ)[i]? = some (some v)->N'[i]? = some x->∃j:Nat,X.N[j]? = some x/\σ[j]? = some (some v)/\scope.names.lookup x=some .free
theorem zqf {X:Cx}{N':List Str}{elt iter tgt:Expr}{ifs:List Expr}{scope:Scope}{pos pos':Pos}{use:Option (Value->Sem Unit)}{R:Value->Shared->Prop}{pins:List (Addr × Obj)}{s:Shared}{σ:St}{H:Hp}{Q:VK}{wi:TI}{src:St->St}{g:TG}{tts:TT}{t:TE}(hcalm:X.calm=true) (sc:CompSc X N' scope src)
  (hi:PI X tgt iter wi) (hg:∀C s H fp pins,PG (cxC X N' scope C s H fp pins) tgt g) (ht:∀C s H fp pins,PTs (cxC X N' scope C s H fp pins) ifs tts) (he:∀C s H fp pins,PE (cxC X N' scope C s H fp pins) elt t)
  (hs:∀x,foldedSetIterable iter X.env x=pure x) (I:Inv X pins σ H s) (h:zi2 X.K wi src g tts t σ H Q)
  (fin:∀D H5 s6 C mC,Inv X pins σ H5 s6->zdm X pins H5 C->s6.heap.Ns C mC->Q (.ref D) H5->compPost (model X.prog X.w) X.A X.xe use R (.ref D) C (.ok .next) s6) :
  wpAny (model X.prog X.w) X.A (comprehension (.ListComp elt [⟨tgt,iter,ifs,0⟩] scope pos) scope X.env pos' (newList []) false (eval iter X.env) use) R X.xe s:=by
 have hasC:∀x∈scope.names,x.2=.free->∃c,X.env.cells.lookup x.1=some c:=fun x hx hf=>I.ok.has x.1 (sc.free x hx hf)
 refine wpAny_comprehension_free (use:=use) (env:=X.env) rfl hs (zqe scope X.env hasC) sc.kind sc.names ?_
 show wpAny (model X.prog X.w) X.A (eval iter X.env) _ _ s
 refine wpAny_mono (hi pins s σ H _ I h) (fun v s1 h1=>wpAny_mono h1 (fun itv s2 h2=>?_) fun _ _ z=>z) fun _ _ z=>z
 obtain ⟨it,fp,tn,J,H2,rfl,I2,T,st2,f2,q⟩:=h2
 refine wpAny_newObj_type ?_ (by show 0<=sizeLine;exact Nat.zero_le _)
 have hD:H2 s2.heap.objs.size=none:=I2.hok.fresh (qlr _)
 have I3:Inv X pins σ (upd H2 s2.heap.objs.size (.lst [])) { s2 with heap:=s2.heap.push { cls:=.type "list",data:=.seq ([]:List Value).toArray } }:=I2.lnew (t':=s2.toks) .nil (Nat.zero_le _)
 obtain ⟨W,⟨m0,w0⟩,turn⟩:=q s2.heap.objs.size hD (by
  cases e:X.K.lookup s2.heap.objs.size with
  | none=>rfl
  | some o=>exact absurd (Heap.lt_size (I2.kIn _ o e)) (Nat.lt_irrefl _))
 refine wpAny_newFunctionEnv sc.nocell (by intro y hy;simp at hy) (fun h' hns hsb=>?_) sc.kind
 have fpIn:∀b∈fp,∃o,s2.heap.get? b=some o/\∀v,o.data≠.cell v:=T.obj 0 s2.heap st2
 have fpD:∀b∈fp,b≠s2.heap.objs.size:=fun b hb=>let ⟨o,e,_⟩:=fpIn b hb;Nat.ne_of_lt (Heap.lt_size e)
 have f3:∀b∈fp,zdm X pins (upd H2 s2.heap.objs.size (.lst [])) b:=fun b hb=>⟨by rw [za7 (fpD b hb)];exact (f2 b hb).1,(f2 b hb).2⟩
 have st3:tn 0 (s2.heap.push { cls:=.type "list",data:=.seq ([]:List Value).toArray }):=T.keep _ _ _ st2 fun b hb o e=>qps _ e
 clear q hD h st2 f2 fpD
 generalize upd H2 s2.heap.objs.size (.lst [])=H3 at *
 generalize hDe:s2.heap.objs.size=D at *
 have fpIn3:∀b∈fp,∃o,(s2.heap.push { cls:=.type "list",data:=.seq ([]:List Value).toArray }).get? b=some o/\∀v,o.data≠.cell v:=T.obj 0 _ st3
 clear fpIn
 generalize s2.heap.push { cls:=.type "list",data:=.seq ([]:List Value).toArray }=h3 at *
 have old:∀b o,h3.get? b=some o->h'.get? b=some o:=fun b o e=>hsb.extBut b o (Nat.ne_of_lt (Heap.lt_size e)) (qps _ e)
 have stkNo:∀b,b≠X.env.locals->b ∉ X.fs->b ∉ frs X.stack:=fun b h1 h2 hb=>by
  rcases List.mem_cons.mp (I3.stkSub b hb) with z|z
  ·exact h1 z
  ·exact h2 z
 have sub:=zi1 X.env scope.names [] (fun x c z=>by simp at z)
 have cNe:∀b o,h3.get? b=some o->b≠h3.objs.size:=fun b o e=>Nat.ne_of_lt (Heap.lt_size e)
 have I4:Inv (cxC X N' scope h3.objs.size { s2 with heap:=h3 } H3 fp pins) [] (src σ) H3 { s2 with heap:=h',toks:=s2.toks+([]:List (Str × Value)).length }:=by
  refine ⟨⟨I3.ok.mod,sc.kind,I3.ok.glob,I3.ok.blt,qlr _,fun x y c h1 h2=>I3.ok.inj x y c (sub x c h1) (sub y c h2),fun x hx=>?_,fun x c z=>absurd (show false=true from z) Bool.false_ne_true,I3.ok.hd,I3.ok.frames,.inl rfl,fun b hb=>⟨?_,fun x c z=>(f3 b hb).2.2.2.2.1 x c (sub x c z)⟩,fun b o e=>I3.bs b o e,Nat.le_trans I3.ok.bsz I3.sz,fun b o e hb=>?_,fun b hb=>stkNo b (f3 b hb).2.1 (f3 b hb).2.2.1,I3.stack,I3.stkFree⟩,
   rfl,I3.bare,Un.kept old,⟨_,hns,fun i x v h1 h2 h3'=>?_⟩,fun x c z=>?_,I3.hok.fresh (qlr _),fun x c z=>I3.freeC x c (sub x c z),fun p hp=>?_,I3.hok.kept old,sc.len σ⟩
  ·have hm:=sc.rel x hx
   exact zg1 X.env scope.names [] x (.inl hm) (hasC _ hm rfl)
  ·obtain ⟨o,e,_⟩:=fpIn3 b hb
   exact cNe b o e
  ·rcases (f3 b hb).2.2.2.1 with z|z
   ·exact I3.ok.noex b o e z
   ·have:=Heap.lt_size (I3.ok.bs b o e).1
    exact absurd (Nat.lt_of_lt_of_le this z) (Nat.lt_irrefl _)
  ·obtain ⟨j,e1,e2,e3⟩:=sc.src σ i v x h2 h1
   obtain ⟨m,hn,hl⟩:=I3.loc
   have hmem:=PySem.mem_of_lookup e3
   have hk:=sc.free (x,.free) hmem rfl
   have vis:Vis X.env.scope x:=by
    rcases hk with k|k
    ·exact .inr (.inl k)
    ·exact .inr (.inr k)
   obtain ⟨u,r,lk⟩:=hl j x v e1 e2 vis
   refine ⟨u,r,.inr ⟨?_,?_⟩⟩
   ·exact zmw (scope:=scope) e3
   ·rcases lk with ⟨k,_⟩|⟨_,c,hc,hcell⟩
    ·rcases hk with k' | k' <;> (rw [k] at k';cases k')
    ·obtain ⟨c',hc'⟩:=zg1 X.env scope.names [] x (.inl hmem) ⟨c,hc⟩
     have:=sub x c' hc'
     rw [hc] at this;cases this
     obtain ⟨o,ho,hd⟩:=hcell
     exact ⟨c,hc',o,old _ _ ho,hd⟩
  ·obtain ⟨v,o,ho,hd⟩:=I3.cell x c (sub x c z)
   exact ⟨v,o,old _ _ ho,hd⟩
  ·have hp':p∈X.pn++pins:=by simpa [cxC] using hp
   obtain ⟨e,n,ne,nf,d⟩:=I3.pin p hp'
   exact ⟨old _ _ e,n,cNe _ _ e,stkNo _ ne nf,d⟩
 have st4:tn 0 h':=T.keep _ _ _ st3 fun b hb o e=>old b o e
 have fr4:∀b∈fp,H3 b=none:=fun b hb=>(f3 b hb).1
 have stat:∀{H':Hp},(∀b∈fp,H' b=none)->∀b∈fp,zdm (cxC X N' scope h3.objs.size { s2 with heap:=h3 } H3 fp pins) [] H' b:=fun hn b hb=>by
  obtain ⟨g0,g1,g2,g3,g4,g5⟩:=f3 b hb
  obtain ⟨o,e,_⟩:=fpIn3 b hb
  exact ⟨hn b hb,cNe b o e,stkNo b g1 g2,.inl hb,fun x c z=>g4 x c (sub x c z),fun p hp=>g5 p (by simpa [cxC] using hp)⟩
 have loop:codeAny (model X.prog X.w) X.A (.compLoop (.ListComp elt [⟨tgt,iter,ifs,0⟩] scope pos) 0 (.ref it) (.ref D) (compEnvC scope (zdr X.env scope.names []) h3.objs.size X.env))
   (compPost (model X.prog X.w) X.A X.xe use R (.ref D) h3.objs.size) { s2 with heap:=h',toks:=s2.toks+([]:List (Str × Value)).length }:=by
  refine yan (fun n s'=>∃i σ' H',Inv (cxC X N' scope h3.objs.size { s2 with heap:=h3 } H3 fp pins) [] σ' H' s'/\tn i s'.heap/\(∀b∈fp,H' b=none)/\W i n σ' H') ?_ m0 ⟨0,src σ,H3,I4,st4,fr4,w0⟩
  rintro n s5 ⟨i,σ5,H5,I5,st5,fr5,w5⟩
  rcases turn i n σ5 H5 w5 with ⟨stop,qn⟩|⟨go,N,hN,step⟩
  ·refine wpAny_mono (T.done (cxC X N' scope h3.objs.size { s2 with heap:=h3 } H3 fp pins) rfl rfl rfl hcalm i [] s5 σ5 H5 (fun _ _=>False) I5 (stat fr5) st5 stop) (fun r s6 hr=>?_) fun _ _ z=>z
   obtain ⟨hr,I6⟩:=hr
   subst hr
   obtain ⟨mC,hnC,_⟩:=I6.loc
   have IX:Inv X pins σ H5 s6:=I3.call' (s':=s6) (ch:=fp) I6.os I6.base I6.hok I6.bare fun b hb=>⟨(f3 b hb).2.2.2.1,(f3 b hb).2.1,(f3 b hb).2.2.2.2.1,(f3 b hb).2.2.2.2.2⟩
   exact fin D H5 s6 h3.objs.size mC IX (I3.fpOk (qlr _) I6.free) hnC qn
  ·refine wpAny_mono (T.item (cxC X N' scope h3.objs.size { s2 with heap:=h3 } H3 fp pins) rfl rfl rfl hcalm i [] s5 σ5 H5 (fun _ _=>False) I5 (stat fr5) st5 go) (fun r s6 hr=>?_) fun _ _ z=>z
   obtain ⟨u,hr,h6⟩:=hr
   subst hr
   refine wpAny_mono h6 (fun _ s7 h7=>?_) fun _ _ z=>z
   obtain ⟨x,H7,I7,r7,y7,st7,fr7⟩:=h7
   have I7':=I7.pinned (stat fr7) (T.obj _ _ st7)
   refine wpAny_mono (hg _ _ _ _ _ _ s7 σ5 H7 x u _ I7' r7 (step x H7 y7)) (fun _ s8 h8=>?_) fun _ _ z=>z
   obtain ⟨σ8,H8,I8,q8⟩:=h8
   have again:∀{H9:Hp} {s9:Shared},Inv (cxC X N' scope h3.objs.size { s2 with heap:=h3 } H3 fp pins) ([]++zet fp s7.heap) σ8 H9 s9->N σ8 H9->∃m,m<n/\∃i σ' H',Inv (cxC X N' scope h3.objs.size { s2 with heap:=h3 } H3 fp pins) [] σ' H' s9/\tn i s9.heap/\(∀b∈fp,H' b=none)/\W i m σ' H':=fun {H9 s9} I9 n9=>by
    obtain ⟨m',hm,w9⟩:=hN σ8 H9 n9
    refine ⟨m',hm,i+1,σ8,H9,I9.unpinned,T.keep _ _ _ st7 fun b hb o e=>(I9.pin (b,o) (List.mem_append_right _ (List.mem_append_right _ (zgb hb e)))).1,fun b hb=>?_,w9⟩
    obtain ⟨o,e,d⟩:=T.obj _ _ st7 b hb
    exact (I9.pin (b,o) (List.mem_append_right _ (List.mem_append_right _ (zgb hb e)))).2.1
   refine wpAny_mono (ht _ _ _ _ _ _ s8 σ8 H8 _ I8 q8) (fun ok s9 h9=>?_) fun _ _ z=>z
   obtain ⟨H9,I9,q9⟩:=h9
   cases ok with
   | false=>exact again I9 q9
   | true =>
    refine wpAny_mono (he _ _ _ _ _ _ s9 σ8 H9 _ I9 q9) (fun y s10 h10=>?_) fun _ _ z=>z
    obtain ⟨vy,H10,I10,r10,ys,hys,hz,nx⟩:=h10
    refine wpAny_mono (zmd (X:=cxC X N' scope h3.objs.size { s2 with heap:=h3 } H3 fp pins) _ s10 σ8 H10 (.ref D) [vy] (.ref D) [y] (fun _ H'=>N σ8 H') I10 rfl (.cons r10 .nil) ⟨D,ys,vy,rfl,rfl,hys,hz,nx⟩) (fun _ s11 h11=>?_) fun _ _ z=>z
    obtain ⟨_,H11,I11,_,n11⟩:=h11
    exact again I11 n11
 exact codeAny_compStart_list loop (T.self _ 0 _ _ _ st4 loop)
theorem zqg {X:Cx}{N':List Str}{elt iter tgt:Expr}{ifs:List Expr}{scope:Scope}{pos:Pos}{wi:TI}{src:St->St}{g:TG}{tts:TT}{t:TE}(hcalm:X.calm=true) (sc:CompSc X N' scope src)
  (hi:PI X tgt iter wi) (hg:∀C s H fp pins,PG (cxC X N' scope C s H fp pins) tgt g) (ht:∀C s H fp pins,PTs (cxC X N' scope C s H fp pins) ifs tts) (he:∀C s H fp pins,PE (cxC X N' scope C s H fp pins) elt t)
  (hs:∀x,foldedSetIterable iter X.env x=pure x:=by intro _;rfl):PE X (.ListComp elt [⟨tgt,iter,ifs,0⟩] scope pos) (zi2 X.K wi src g tts t):=by
 intro pins s σ H Q I h
 rw [eval_ListComp]
 refine zqf (use:=none) hcalm sc hi hg ht he hs I h fun D H5 s6 C mC IX fp hn q=>⟨mC,hn,fun h'' sb=>⟨.ref D,H5,?_,rfl,q⟩⟩
 exact IX.turned (t':=s6.toks) (fun b o hb e=>sb.extBut b o hb e) fp.1 fp.2.1 fp.2.2.2.1 fp.2.2.2.2.1 fp.2.2.2.2.2
theorem yaq {X:Cx}{N':List Str}{elt iter tgt:Expr}{ifs:List Expr}{scope:Scope}{pos spos py:Pos}{wi:TI}{src:St->St}{g:TG}{tts:TT}{t:TE}{i:Nat}{y:Str}(hN:X.N.Nodup) (hi':X.N[i]? = some y) (hx:Loc X.env.scope y)
  (hsw:swapsWith (.ListComp elt [⟨tgt,iter,ifs,0⟩] scope pos) (some (.Name y py)) spos.line X.env=pure true) (hf:X.fn y=true∨X.env.scope.names.lookup y=some .local)
  (hcalm:X.calm=true) (sc:CompSc X N' scope src)
  (hi:PI X tgt iter wi) (hg:∀C s H fp pins,PG (cxC X N' scope C s H fp pins) tgt g) (ht:∀C s H fp pins,PTs (cxC X N' scope C s H fp pins) ifs tts) (he:∀C s H fp pins,PE (cxC X N' scope C s H fp pins) elt t)
  (hs:∀x,foldedSetIterable iter X.env x=pure x:=by intro _;rfl):PS X (.Assign [.Name y py] (.ListComp elt [⟨tgt,iter,ifs,0⟩] scope pos) spos) (zlz (zi2 X.K wi src g tts t) (zly i)):=by
 intro pins s σ H D I h
 rw [exec_Assign_Name_used _ _ _ _ hsw]
 refine wpAny_bind (wpAny_standAt (wpAny_bind ?_))
 show wpAny _ X.A (do let _ ←comprehension (.ListComp elt [⟨tgt,iter,ifs,0⟩] scope pos) scope X.env _ (newList []) false (eval iter X.env) (some (assign (.Name y py) X.env))) _ _ s
 refine wpAny_bind (wpAny_mono (zqf (use:=some (assign (.Name y py) X.env)) (R:=fun _ s'=>SP X pins D .next s') hcalm sc hi hg ht he hs I h fun D' H5 s6 C mC IX fp hn q=>?_) (fun _ s' hq=>wpAny_pure (wpAny_pure hq)) fun _ _ e=>e)
 show wpAny _ X.A (assign (.Name y py) X.env (.ref D')) _ _ s6
 refine wpAny_assign_Name (zoh (v:=.ref D') IX hN hi' hx rfl (fun s' I' ha=>?_) hf)
 obtain ⟨a,sb,ha⟩:=ha
 have hCa:C≠a:=by
  rcases ha with ha|ha
  ·rw [ha];exact fp.2.1
  ·exact fun z=>fp.2.2.2.2.1 y a ha z.symm
 refine ⟨mC,hn.sameBut sb hCa,fun h'' sb''=>⟨_,H5,?_,q⟩⟩
 exact I'.turned (t':=s'.toks) (fun b o hb e=>sb''.extBut b o hb e) fp.1 fp.2.1 fp.2.2.2.1 fp.2.2.2.2.1 fp.2.2.2.2.2
section
variable {K:QFg}{ρ ρ':List Addr}{H H':Hp}{S:Sto}
theorem Sim.notin {a:Addr}(s:Sim K ρ S H) (h1:H a=none) (h2:K.lookup a=none):∀n:Nat,ρ[n]?≠some a:=fun n hn=>by
 have hl:n<S.length:=by rw [←s.len];exact (qme hn).1
 have q:=s.at' n a _ hn (qge hl)
 cases e:S[n] with
 | lst xs=>rw [e] at q;obtain ⟨vs,z,_⟩:=q;rw [h1] at z;cases z
 | flst xs =>
  rw [e] at q
  obtain ⟨vs,z,_⟩:=q
  rcases z with ⟨o,z⟩|⟨o,_,_,z,_⟩
  ·rw [h1] at z;cases z
  ·rw [h2] at z;cases z
 | iset g m=>rw [e] at q;have q:H a=_:=q;rw [h1] at q;cases q
 | dct kvs=>rw [e] at q;obtain ⟨vs,z,_⟩:=q;rw [h1] at z;cases z
 | tdct kvs=>rw [e] at q;obtain ⟨vs,z,_⟩:=q;rw [h1] at z;cases z
 | fdct kvs=>rw [e] at q;obtain ⟨o,vs,z,_⟩:=q;rw [h1] at z;cases z
 | ftdct kvs=>rw [e] at q;obtain ⟨o,vs,z,_⟩:=q;rw [h1] at z;cases z
 | tset ks=>rw [e] at q;obtain ⟨xs,_,z,_⟩:=q;rw [h1] at z;cases z
 | fnc x=>rw [e] at q;obtain ⟨_,o,z⟩:=q;rw [h2] at z;cases z
 | exc c=>rw [e] at q;obtain ⟨C,_,z⟩:=q;rw [h1] at z;cases z
theorem Sim.adopt {a:Addr}{xs:List D}{vs:List V}(s:Sim K ρ S H) (ha:H a=some (.lst vs)) (hn:∀n:Nat,ρ[n]?≠some a) (r:RDs ρ H xs vs):Sim K (ρ++[a]) (S++[.lst xs]) H:=by
 refine ⟨by simp [s.len],fun i j b x1 x2 h1 h2 h3 h4 m1 m2=>?_,fun n b o h1 h2=>?_⟩
 ·rcases zc3 h1 with g1|⟨e1,f1⟩ <;> rcases zc3 h2 with g2|⟨e2,f2⟩
  ·rcases zc3 h3 with h3|⟨e3,_⟩ <;> rcases zc3 h4 with h4|⟨e4,_⟩
   ·exact s.nd i j b _ _ g1 g2 h3 h4 m1 m2
   ·have:=(qme g2).1;have:=s.len;omega
   ·have:=(qme g1).1;have:=s.len;omega
   ·omega
  ·subst f2;exact absurd g1 (hn i)
  ·subst f1;exact absurd g2 (hn j)
  ·omega
 ·rcases zc3 h1 with h1|⟨e1,f1⟩
  ·rcases zc3 h2 with h2|⟨e2,f2⟩
   ·exact (s.at' n b o h1 h2).more ext0_push
   ·have:=(qme h1).1;have:=s.len;omega
  ·subst f1
   rcases zc3 h2 with h2|⟨e2,f2⟩
   ·have:=(qme h2).1;have:=s.len;omega
   ·subst f2
    exact ⟨vs,ha,r.mono0 ext0_push⟩
theorem Sim.beside {a:Addr}{ys:List V}{u:HO}(s:Sim K ρ S H) (ha:H a=some (.lst ys)) (hn:∀n:Nat,ρ[n]?≠some a):Sim K ρ S (upd H a u) :=
 ⟨s.len,s.nd,fun n b o h1 h2=>(s.at' n b o h1 h2).written ha fun _ z=>hn n (by rw [h1,z])⟩
theorem Ext.beside {a:Addr}{ys:List V}{u:HO}{ρ0:List Addr}{H0:Hp}(e:Ext ρ0 H0 ρ H) (h0:H0 a=none) (ha:H a=some (.lst ys)):Ext ρ0 H0 ρ (upd H a u) :=
 ⟨⟨e.pre,fun b vs h=>by rw [za7 (zf9 (e.tup b vs h) ha (by intro z;cases z))];exact e.tup b vs h,fun b o vs h=>by rw [za7 (zf9 (e.frz b o vs h) ha (by intro z;cases z))];exact e.frz b o vs h⟩,fun b vs h n=>⟨by rw [za7 (zb9 h h0)];exact (e.out b vs h n).1,(e.out b vs h n).2⟩⟩
theorem Ext.adopt {a:Addr}{ρ0:List Addr}{H0:Hp}(e:Ext ρ0 H0 ρ H) (h0:H0 a=none):Ext ρ0 H0 (ρ++[a]) H :=
 ⟨⟨fun n b h=>(ext0_push (H:=H)).pre n b (e.pre n b h),e.tup,e.frz⟩,fun b vs h n=>⟨(e.out b vs h n).1,fun i hi=>by
  rcases zc3 hi with hi|⟨_,z⟩
  ·exact (e.out b vs h n).2 i hi
  ·rw [z,h0] at h;cases h⟩⟩
end
noncomputable abbrev ItM:=Nat->Sto->Option (Option D)
noncomputable abbrev IM:=Lo->Sto->Option (ItM × Nat × Sto)
noncomputable def zfv (K:QFg) (ρ:List Addr) (H:Hp) (it:ItM) (J:It):Prop:=∀(i:Nat) ρ' S' H',Ext ρ H ρ' H'->Sim K ρ' S' H' ->
 (it i S' = some none->J.stop i H')/\∀x,it i S' = some (some x)->J.go i H'/\∀y H'',J.yld i H' y H''->H'' = H'/\RD ρ' H' x y
inductive ti (K:QFg) (im:IM) (σ:St) (H:Hp) (R:It->Hp->Prop):Prop
 | mk (ρ:_) (l:_) (S:_) (it:_) (k:_) (S':_) (_:Sim K ρ S H) (_:RO ρ H l σ) (_:im l S=some (it,k,S')) (_:∀ρ' H' J,Ext ρ H ρ' H'->Sim K ρ' S' H'->zfv K ρ' H' it J->R J H')
noncomputable def PI3 (X:Cx) (tgt iter:Expr) (im:IM):Prop:=PI X tgt iter (ti X.K im)
theorem PI.imp {X:Cx}{tgt iter:Expr}{t u:TI}(h:PI X tgt iter t) (i:∀σ H R,u σ H R->t σ H R):PI X tgt iter u:=fun pins s σ H Q I q=>h pins s σ H Q I (i _ _ _ q)
noncomputable def itX (xs:List D):ItM:=fun i _=>some xs[i]?
noncomputable def itL (n:Nat):ItM:=fun i S=>(lstOf S n).bind fun xs=>some xs[i]?
noncomputable def zdn (e:EM):IM:=fun l S=>(e l S).bind fun p=>match p.1 with
 | .tup xs=>some (itX xs,xs.length+1,p.2)
 | .ref n=>(lstOf p.2 n).bind fun xs=>some (itL n,xs.length+1,p.2)
 | _=>none
noncomputable def zfj (r:Lo->Sto->Option ((Int × Nat) × Sto)):IM:=fun l S=>(r l S).bind fun p=>some (itX (zbz p.1.1 p.1.2),p.1.2+1,p.2)
section
variable {K:QFg}
theorem zmx {ρ:List Addr}{H:Hp}{a:Addr}{xs:List D}{vs:List V}(ha:H a=some (.tup vs)) (r:RDs ρ H xs vs):zfv K ρ H (itX xs) (Itt K a):=by
 intro i ρ' S' H' e s
 have ha':=SqT.of (K:=K) (e.tup _ _ ha)
 have r':=r.mono e
 refine ⟨fun h=>?_,fun x h=>?_⟩
 ·have h:xs[i]? = none:=qoi h
  exact ⟨vs,ha',by rw [←r.length];exact List.getElem?_eq_none_iff.mp h⟩
 ·have h:xs[i]? = some x:=qoi h
  obtain ⟨v,hv,rv⟩:=r'.get h
  refine ⟨⟨vs,v,ha',hv⟩,fun y H'' ⟨e1,e2⟩=>⟨e1,?_⟩⟩
  have:=e2 vs ha'
  rw [hv] at this;cases this
  exact rv
theorem zmy {ρ:List Addr}{H:Hp}{a:Addr}{n:Nat}(ha:ρ[n]? = some a):zfv K ρ H (itL n) (Itl K a):=by
 intro i ρ' S' H' e s
 have ha':=e.pre _ _ ha
 refine ⟨fun h=>?_,fun x h=>?_⟩
 ·obtain ⟨xs,h1,h⟩:=bnd h
  have h:xs[i]? = none:=qoi h
  obtain ⟨b,vs,hb,sq,r⟩:=s.lstOf h1
  rw [ha'] at hb;cases hb
  exact ⟨vs,sq,by rw [←r.length];exact List.getElem?_eq_none_iff.mp h⟩
 ·obtain ⟨xs,h1,h⟩:=bnd h
  have h:xs[i]? = some x:=qoi h
  obtain ⟨b,vs,hb,sq,r⟩:=s.lstOf h1
  rw [ha'] at hb;cases hb
  obtain ⟨v,hv,rv⟩:=r.get h
  refine ⟨⟨vs,v,sq,hv⟩,fun y H'' ⟨e1,e2⟩=>⟨e1,?_⟩⟩
  have:=e2 vs sq
  rw [hv] at this;cases this
  exact rv
theorem yar {ρ:List Addr}{H:Hp}{lo:Int}{n:Nat}:zfv K ρ H (itX (zbz lo n)) (Itr lo n):=by
 intro i ρ' S' H' e s
 refine ⟨fun h=>?_,fun x h=>?_⟩
 ·have h:(zbz lo n)[i]? = none:=qoi h
  have:=List.getElem?_eq_none_iff.mp h
  simp [zbz] at this
  exact this
 ·have h:(zbz lo n)[i]? = some x:=qoi h
  have hl:=(qme h).1
  simp only [zbz,qlm,List.length_range] at hl
  refine ⟨hl,fun y H'' ⟨e1,e2⟩=>⟨e1,?_⟩⟩
  unfold zbz at h
  rw [qgm,List.getElem?_range hl] at h
  cases h
  rw [e2]
  exact .int _
end
section
variable {X:Cx}{tgt iter:Expr}{m:EM}{mA:AM}{p0 pos':Pos}{a a2:Expr}
theorem zfw (hi:PE3 X iter m):PI3 X tgt iter (zdn m):=PI.imp (PI.or (zol hi) (zl1 hi)) fun σ H R hx1_=>by
 obtain ⟨ρ,l,S,it,k,S',sim,ro,hm,p⟩:=hx1_
 obtain ⟨⟨x,S1⟩,q1,hm⟩:=bnd hm
 dsimp only at hm
 split at hm
 ·rename_i xs
  cases hm
  refine .inr ⟨ρ,l,S,.tup xs,_,sim,ro,q1,fun ρ1 H1 x' e1 s1 r1=>?_⟩
  cases r1 with
  | @tup xs a vs ha r=>exact ⟨a,rfl,⟨vs,SqT.of ha⟩,p ρ1 H1 _ e1 s1 (zmx ha r)⟩
 ·rename_i n
  obtain ⟨xs,hx,hm⟩:=bnd hm
  cases hm
  refine .inl ⟨ρ,l,S,.ref n,_,sim,ro,q1,fun ρ1 H1 x' e1 s1 r1=>?_⟩
  obtain ⟨a,vs,ha,sq,rv⟩:=s1.lstOf hx
  cases r1 with
  | ref hn =>
   rw [ha] at hn;cases hn
   exact ⟨a,rfl,⟨vs,sq⟩,p ρ1 H1 _ e1 s1 (zmy ha)⟩
 ·cases hm
theorem zi3 (hgl:Gl X "range") (hmg:X.mg "range" = none) (ha:PA3 X [a] mA) (hst:starEach [a] X.env=[(false,eval a X.env)]:=by rfl):PI3 X tgt (.Call (.Name "range" p0) [a] [] pos') (zfj (zcg mA)) :=
 PI.imp (zom hgl hmg ha hst) fun σ H R hx2_=>by
  obtain ⟨ρ,l,S,it,k,S',sim,ro,hm,p⟩:=hx2_
  obtain ⟨⟨⟨lo,n⟩,S1⟩,q1,hm⟩:=bnd hm
  cases hm
  obtain ⟨⟨xs,S2⟩,q2,q1⟩:=bnd q1
  dsimp only at q1
  split at q1
  ·rename_i j
   obtain ⟨hz,e⟩:=zbt q1
   cases e
   refine ⟨ρ,l,S,[.int j],_,sim,ro,q2,fun ρ1 H1 vs e1 s1 r1=>?_⟩
   obtain ⟨v,rfl,rv⟩:=r1.one
   cases rv
   exact ⟨j,rfl,hz.1,hz.2,p ρ1 H1 _ e1 s1 yar⟩
  ·cases q1
end
noncomputable def zdv (it:ItM) (g:GM) (t:TM) (e:EM):Nat->Nat->Lo->Sto->Option (List D × Sto)
 | 0,_,_,_=>none
 | k+1,i,l,S=>(it i S).bind fun o=>match o with
  | none=>some ([],S)
  | some x=>(g x l S).bind fun p=>(t p.1 p.2).bind fun q=>if q.1=true then (e p.1 q.2).bind fun r=>(zdv it g t e k (i+1) p.1 r.2).bind fun z=>some (r.1 :: z.1,z.2) else zdv it g t e k (i+1) p.1 q.2
noncomputable def zcc {α:Type}(ixs:List (Option Nat)) (l:List (Option α)):List (Option α):=ixs.map fun o=>match o with
 | some j=>(l[j]?).join
 | none=>none
noncomputable def zch (im:IM) (ixs:List (Option Nat)) (g:GM) (t:TM) (e:EM):EM:=fun l S=>(im l S).bind fun p=>(zdv p.1 g t e p.2.1 0 (zcc ixs l) p.2.2).bind fun z=>if z.1.length<=sizeLine then some (.ref z.2.length,z.2++[.lst z.1]) else none
noncomputable def zcm:TM:=fun _ S=>some (true,S)
theorem zmz {ρ:List Addr}{H:Hp}{l:Lo}{σ:St}(ixs:List (Option Nat)) (r:RO ρ H l σ):RO ρ H (zcc ixs l) (zcc ixs σ):=by
 refine ⟨by simp [zcc],fun i d h=>?_⟩
 unfold zcc at h ⊢
 rw [qgm] at h ⊢
 cases e:ixs[i]? with
 | none=>rw [e] at h;cases h
 | some o =>
  rw [e] at h
  cases o with
  | none=>cases h
  | some j =>
   have h:((l[j]?).join:Option D)=some d:=qoi h
   cases e2:l[j]? with
   | none=>rw [e2] at h;cases h
   | some o2 =>
    rw [e2] at h
    have h:o2=some d:=h
    subst h
    obtain ⟨v,h1,h2⟩:=r.get j d e2
    exact ⟨v,by show some ((σ[j]?).join)=_;rw [h1];rfl,h2⟩
inductive CI3 (K:QFg) (it:ItM) (g:GM) (t:TM) (e:EM) (S2:Sto) (all:List D) (ρ1:List Addr) (H1:Hp) (Da:Addr) (i m:Nat) (σ':St) (H':Hp):Prop
 | mk (ρ':List Addr) (l':Lo) (S':Sto) (ds:List D) (vs:List V) (rest:List D) (_:Ext ρ1 H1 ρ' H') (_:Sim K ρ' S' H') (_:RO ρ' H' l' σ') (_:H' Da=some (.lst vs)) (_:(∀n:Nat,ρ'[n]?≠some Da)) (_:RDs ρ' H' ds vs) (_:zdv it g t e m i l' S' = some (rest,S2)) (_:ds++rest=all)
theorem zqh {K:QFg}{im:IM}{ixs:List (Option Nat)}{g:GM}{t:TM}{e:EM}(σ:St) (H:Hp) (Q:VK) (q:te K (zch im ixs g t e) σ H Q):zi2 K (ti K im) (zcc ixs) (tg K g) (tt K t) (te K e) σ H Q:=by
 obtain ⟨ρ,l,S,v,S',sim,ro,hm,p⟩:=q
 obtain ⟨⟨it,k,S1⟩,q1,hm⟩:=bnd hm
 obtain ⟨⟨all,S2⟩,q2,hm⟩:=bnd hm
 obtain ⟨hz,he⟩:=zbt hm
 cases he
 refine ⟨ρ,l,S,it,k,S1,sim,ro,q1,fun ρ1 H1 J e1 s1 io D hD hK=>?_⟩
 dsimp only at q2 hz p
 refine ⟨fun i m σ' H'=>CI3 K it g t e S2 all ρ1 H1 D i m σ' H',⟨k,?_⟩,?_⟩
 ·exact ⟨ρ1,zcc ixs l,S1,[],[],all,zc5 hD,s1.laid hD,(zmz ixs (ro.mono e1)).mono (zc5 hD),zcz,s1.notin hD hK,.nil,q2,rfl⟩
 ·rintro i m σ' H' ⟨ρ',l',S',ds,vs,rest,e2,s2,ro2,hD2,hn2,rd2,hc,hall⟩
  cases m with
  | zero=>cases hc
  | succ m =>
   unfold zdv at hc
   obtain ⟨o,ho,hc⟩:=bnd hc
   obtain ⟨iStop,iGo⟩:=io i ρ' S' H' e2 s2
   cases o with
   | none =>
    cases hc
    rw [List.append_nil] at hall
    subst hall
    refine .inl ⟨iStop ho,p (ρ'++[D]) H' (.ref D) (e1.trans (e2.adopt hD)) (s2.adopt hD2 hn2 rd2) (.ref ?_)⟩
    rw [←s2.len];exact zbx ρ' D
   | some x =>
    obtain ⟨⟨l3,S3⟩,q3,hc⟩:=bnd hc
    obtain ⟨⟨b,S4⟩,q4,hc⟩:=bnd hc
    obtain ⟨hgo,hy⟩:=iGo x ho
    refine .inr ⟨hgo,_,fun σ' H' h=>h,fun y H'' hyl=>?_⟩
    obtain ⟨rfl,ry⟩:=hy y H'' hyl
    refine ⟨ρ',l',S',x,l3,S3,s2,ro2,ry,q3,fun ρ3 H3 σ3 e3 s3 ro3=>⟨ρ3,l3,S3,b,S4,s3,ro3,q4,fun ρ4 H4 e4 s4=>?_⟩⟩
    obtain ⟨hD3,hn3⟩:=e3.out D _ hD2 hn2
    obtain ⟨hD4,hn4⟩:=e4.out D _ hD3 hn3
    cases b with
    | false=>exact zeg ⟨m,Nat.lt_succ_self m,ρ4,l3,S4,ds,vs,rest,e2.trans (e3.trans e4),s4,ro3.mono e4,hD4,hn4,rd2.mono (e3.trans e4),hc,hall⟩
    | true =>
     have hc:((e l3 S4).bind fun r=>(zdv it g t e m (i+1) l3 r.2).bind fun z=>some (r.1 :: z.1,z.2))=some (rest,S2):=hc
     obtain ⟨⟨y5,S5⟩,q5,hc⟩:=bnd hc
     obtain ⟨⟨rest',S6⟩,q6,hc⟩:=bnd hc
     cases hc
     refine zeh ⟨ρ4,l3,S4,y5,S5,s4,ro3.mono e4,q5,fun ρ5 H5 v5 e5 s5 r5=>?_⟩
     obtain ⟨hD5,hn5⟩:=e5.out D _ hD4 hn4
     have e25:=e2.trans (e3.trans (e4.trans e5))
     have rd5:=rd2.mono (e3.trans (e4.trans e5))
     have hlen:vs.length<sizeLine:=by
      have h1:=rd5.length
      have h2:=congrArg List.length hall
      rw [qla,List.length_cons] at h2
      omega
     refine ⟨vs,hD5,hlen,m,Nat.lt_succ_self m,ρ5,l3,S5,ds++[y5],vs++[v5],rest',e25.beside hD hD5,s5.beside hD5 hn5,?_,zcz,hn5,((rd5.append (.cons r5 .nil)).mono0 (zfe hD5)),q6,by rw [←hall];simp⟩
     have r0:=(ro3.mono e4).mono e5
     exact ⟨r0.len,fun i d h=>let ⟨w,h1,h2⟩:=r0.get i d h;⟨w,h1,h2.mono0 (zfe hD5)⟩⟩
theorem zdw {X:Cx}:PTs X [] (tt X.K zcm):=fun pins s σ H Q I hx4_=>by
 obtain ⟨ρ,l,S,v,S',sim,ro,hm,p⟩:=hx4_
 cases hm
 exact yao pins s σ H Q I (p ρ H (Ext.refl ..) sim)
theorem zm0 {X:Cx}{c:Expr}{t:TM}(h:PT3 X c t):PTs X [c] (tt X.K t):=yap h
theorem zfx {X:Cx}{N':List Str}{elt iter tgt:Expr}{ifs:List Expr}{scope:Scope}{pos:Pos}{im:IM}{ixs:List (Option Nat)}{g:GM}{t:TM}{e:EM}(hcalm:X.calm=true) (sc:CompSc X N' scope (zcc ixs))
  (hi:PI3 X tgt iter im) (hg:∀C s H fp pins,PG3 (cxC X N' scope C s H fp pins) tgt g) (ht:∀C s H fp pins,PTs (cxC X N' scope C s H fp pins) ifs (tt X.K t)) (he:∀C s H fp pins,PE3 (cxC X N' scope C s H fp pins) elt e)
  (hs:∀x,foldedSetIterable iter X.env x=pure x:=by intro _;rfl):PE3 X (.ListComp elt [⟨tgt,iter,ifs,0⟩] scope pos) (zch im ixs g t e) :=
 PE.imp (zqg (g:=tg X.K g) (tts:=tt X.K t) (t:=te X.K e) hcalm sc hi hg ht he hs) zqh
theorem zkv (j:Nat) {X:Cx}{N':List Str}{elt iter tgt:Expr}{ifs:List Expr}{scope:Scope}{pos spos py:Pos}{y:Str}{im:IM}{ixs:List (Option Nat)}{g:GM}{t:TM}{e:EM}(hN:X.N.Nodup) (hcalm:X.calm=true) (sc:CompSc X N' scope (zcc ixs))
  (hi:PI3 X tgt iter im) (hg:∀C s H fp pins,PG3 (cxC X N' scope C s H fp pins) tgt g) (ht:∀C s H fp pins,PTs (cxC X N' scope C s H fp pins) ifs (tt X.K t)) (he:∀C s H fp pins,PE3 (cxC X N' scope C s H fp pins) elt e)
  (hi':X.N[j]? = some y:=by rfl) (hx:Loc X.env.scope y:=by first|exact Or.inl rfl|exact Or.inr rfl)
  (hsw:swapsWith (.ListComp elt [⟨tgt,iter,ifs,0⟩] scope pos) (some (.Name y py)) spos.line X.env=pure true:=by with_unfolding_all rfl) (hf:X.fn y=true∨X.env.scope.names.lookup y=some .local:=by first|exact .inl rfl|exact .inr rfl|assumption)
  (hs:∀x,foldedSetIterable iter X.env x=pure x:=by intro _;rfl):PS3 X (.Assign [.Name y py] (.ListComp elt [⟨tgt,iter,ifs,0⟩] scope pos) spos) (zap (zch im ixs g t e) (zai j)) :=
 PS.imp (yaq (g:=tg X.K g) (tts:=tt X.K t) (t:=te X.K e) hN hi' hx hsw hf hcalm sc hi hg ht he hs) fun E σ H hx5_=>by
  obtain ⟨ρ,l,S,f,l',S',sim,ro,hm,p⟩:=hx5_
  obtain ⟨⟨x,S1⟩,q1,hm⟩:=bnd hm
  cases hm
  exact zqh σ H _ ⟨ρ,l,S,x,S1,sim,ro,q1,fun ρ1 H1 x' e1 s1 r1=>p ρ1 H1 _ e1 s1 ((ro.mono e1).set j r1)⟩
noncomputable def zm1:D->D->Sto->Option (D × Sto)
 | .int i,.int j,S=>some (.int (i+j),S)
 | .tup xs,.tup ys,S=>if xs.length+ys.length<=sizeLine then some (.tup (xs++ys),S) else none
 | .ref n,.ref m,S=>match S[n]?,S[m]? with
  | some (.lst xs),some (.lst ys)=>if xs.length+ys.length<=sizeLine then some (.ref S.length,S++[.lst (xs++ys)]) else none
  | _,_=>none
 | _,_,_=>none
theorem yas {K:QFg}:Op3 K zm1 (fun x y H Q=>rI0 (fun i j=>.int (i+j)) x y H Q∨(zl9 K x y H Q∨zmq K x y H Q)∨zpf x y H Q):=by
 intro ρ S H x y x' y' v S' Q sim rx ry h p
 unfold zm1 at h
 split at h
 ·cases rx;cases ry;cases h
  exact .inl ⟨_,_,rfl,rfl,p ρ H _ (Ext.refl ..) sim (.int _)⟩
 ·refine .inr (.inl (yaa ρ S H _ _ x' y' v S' Q sim rx ry ?_ p))
  unfold zmp
  exact h
 ·split at h
  ·rename_i xs ys e1 e2
   obtain ⟨hz,e⟩:=zbt h
   cases e
   obtain ⟨a,us,ha,hH,r2⟩:=sim.lst e1
   obtain ⟨b,ws,hb,hH2,r3⟩:=sim.lst e2
   cases rx with
   | ref hn =>
    rw [ha] at hn;cases hn
    cases ry with
    | ref hm =>
     rw [hb] at hm;cases hm
     exact .inr (.inr ⟨a,b,us,ws,rfl,rfl,hH,hH2,by rw [←r2.length,←r3.length];exact hz,ziw sim (r2.append r3) p⟩)
  ·cases h
 ·cases h
section
variable {X:Cx}{a b:Expr}{ma mb:EM}{pos:Pos}
end
noncomputable def Has (P:Program) (w:World) (K:QFg) (mg:Str->Option Value) (base:Heap) (x:Str) (k n:Nat) (m:FM):Prop :=
 ∃(f:Addr) (fd:FuncData) (ps:List Str),FnOk P w K mg base CX0 k f fd ps (sp3 K n m)/\mg x=some (.ref f)/\PySem.W.keepIn K (.ref f)=true/\Binds K fd ps []
section
variable {X:Cx}{a:Expr}{es:List Expr}{mA:AM}{pos p:Pos}{x:Str}{k j n:Nat}{m:FM}
theorem za1 (F:Has X.prog X.w X.K X.mg X.base x k n m) (hr:Room j X.A) (hkj:k<=j) (hg:Gl X x)
  (ha:PA3 X (a :: es) mA) (hl:∀l S v S',mA l S=some (v,S')->v.length=n) (hdb:(x == ("__debug__":Str))=false:=by decide) (he:starEach (a :: es) X.env=(false,eval a X.env) :: starEach es X.env:=by rfl) (hpl:(backTo pos (starEach es X.env)).any (·.1)=false:=by rfl) :
  PE3 X (.Call (.Name x p) (a :: es) [] pos) (zag m mA):=by
 obtain ⟨f,fd,ps,F,hm,hk,hb⟩:=F
 exact yaj F (hr.mono hkj) hg hm hk hb ha hl hdb he hpl
theorem yat:bootBuiltins "abs" = some (.builtin "abs"):=by decide +kernel
theorem zqi:bootBuiltins "int" = some (.type "int"):=by decide +kernel
theorem zqj:bootBuiltins "tuple" = some (.type "tuple"):=by decide +kernel
theorem yau:bootBuiltins "list" = some (.type "list"):=by decide +kernel
theorem yav:bootBuiltins "bool" = some (.type "bool"):=by decide +kernel
theorem yaw:bootBuiltins "str" = some (.type "str"):=by decide +kernel
theorem yax:bootBuiltins "max" = some (.builtin "max"):=by decide +kernel
theorem zm2 (hg:Gl X "abs") (hm:X.mg "abs" = none) (ha:PA3 X (a :: es) mA) (he:starEach (a :: es) X.env=(false,eval a X.env) :: starEach es X.env:=by rfl) (hpl:(backTo pos (starEach es X.env)).any (·.1)=false:=by rfl):PE3 X (.Call (.Name "abs" p) (a :: es) [] pos) (zag zgy mA) :=
 zgg zx6 yac hg hm yat ha (by decide) (by decide) he hpl
theorem zfk (hg:Gl X "tuple") (hm:X.mg "tuple" = none) (ha:PA3 X (a :: es) mA) (he:starEach (a :: es) X.env=(false,eval a X.env) :: starEach es X.env:=by rfl) (hpl:(backTo pos (starEach es X.env)).any (·.1)=false:=by rfl):PE3 X (.Call (.Name "tuple" p) (a :: es) [] pos) (zag zds mA) :=
 zku zy9 yaf hg hm zqj ha (by decide) (by decide) he hpl
theorem yay (hc:X.calm=true) (hg:Gl X "max") (hm:X.mg "max" = none) (ha:PA3 X (a :: es) mA) (he:starEach (a :: es) X.env=(false,eval a X.env) :: starEach es X.env:=by rfl) (hpl:(backTo pos (starEach es X.env)).any (·.1)=false:=by rfl):PE3 X (.Call (.Name "max" p) (a :: es) [] pos) (zag zi0 mA) :=
 zgg (zx7 hc) yae hg hm yax ha (by decide) (by decide) he hpl
end
theorem yaz {P:Program}{w:World}{K:QFg}{mg:Str->Option Value}{base:Heap}{x:Str}{st:Stmt}{f:Addr}{fd:FuncData}{N ps:List Str}{k n:Nat}{b:SM}(F:Fun K x x st f fd) (hm:mg x=some (.ref f)) (S:FnScope N ps (za6 st)) (hn:ps.length=n) (hb:Binds K fd ps [])
  (hbody:∀(cdv:Value),PySem.W.codeIn K cdv x=true->∀(A:Around) (outer:List Env) (s:Shared) (H:Hp) (E:XK),Room k (A.deeper (envOfC x (za6 st) s.heap.objs.size f cdv)) ->
   zd2 (zgc CX0 P w K mg base N x (za6 st) f cdv A outer s H E).nox (zfr st) b):Has P w K mg base x (k+1) n (zbo N.length b) :=
 ⟨f,fd,ps,zqc F S hn hbody,hm,F.kp,hb⟩
noncomputable def chk (scO scope:Scope) (NO N':List Str) (ixs:List (Option Nat)):Bool :=
 decide (scope.kind=.function) && (scope.names.all fun y=>y.2 != .cell) && (scope.names.all fun y=>y.2 != .local || scope.names.lookup y.1 == some .local) &&
 (scope.names.all fun y=>y.2 != .free || (scO.names.lookup y.1 == some .cell || scO.names.lookup y.1 == some .free)) && (ixs.length == N'.length) &&
 ((List.range ixs.length).all fun i=>match ixs[i]? with|some (some j)=>(NO[j]? == N'[i]? && (match N'[i]? with|some x=>scope.names.lookup x == some .free|none=>false))|_=>true)
theorem zdo {X:Cx}{scO scope:Scope}{NO N':List Str}{ixs:List (Option Nat)}(hX:X.env.scope=scO) (hN:X.N=NO) (h:chk scO scope NO N' ixs=true):CompSc X N' scope (zcc ixs):=by
 unfold chk at h
 simp only [Bool.and_eq_true,decide_eq_true_eq,List.all_eq_true,beq_iff_eq,Bool.or_eq_true,bne_iff_ne,ne_eq] at h
 obtain ⟨⟨⟨⟨⟨h1,h2⟩,h3⟩,h4⟩,h5⟩,h6⟩:=h
 refine ⟨h1,h2,fun y hy hl=>?_,fun y hy hl=>?_,fun y hy=>?_,fun σ=>by simp [zcc,h5],fun σ i v x hv hx=>?_⟩
 ·rcases h3 y hy with z|z
  ·exact absurd hl z
  ·exact z
 ·show X.env.scope.names.lookup y.1=_∨X.env.scope.names.lookup y.1=_
  rw [hX]
  rcases h4 y hy with z|z
  ·exact absurd hl z
  ·exact z
 ·have mem:∃k,(k=NameKind.cell∨k=NameKind.free)/\(y,k)∈(relabel scope X.env).names:=by
   rcases hy with z|z
   ·exact ⟨_,.inl rfl,PySem.mem_of_lookup z⟩
   ·exact ⟨_,.inr rfl,PySem.mem_of_lookup z⟩
  obtain ⟨k,hk,hm⟩:=mem
  unfold relabel at hm
  obtain ⟨⟨n,k'⟩,hm1,hm2⟩:=List.mem_map.mp hm
  dsimp only at hm2
  split at hm2
  ·rename_i hc
   have:k' = .free:=by
    rw [Bool.and_eq_true,Bool.and_eq_true] at hc
    exact eq_of_beq hc.1.1
   cases hm2
   rw [←this];exact hm1
  ·cases hm2
   rcases hk with z|z
   ·exact absurd z (h2 _ hm1)
   ·rw [←z];exact hm1
 ·have hl:i<ixs.length:=by
   have:=(qme hv).1
   simpa [zcc] using this
  unfold zcc at hv
  rw [qgm] at hv
  have q:=h6 i (List.mem_range.mpr hl)
  cases e:ixs[i]? with
  | none=>rw [e] at hv;cases hv
  | some o =>
   rw [e] at hv
   cases o with
   | none=>cases hv
   | some j =>
    rw [e] at q
    dsimp only at q
    rw [hx] at q
    simp only [Bool.and_eq_true,beq_iff_eq] at q
    have hv:((σ[j]?).join:Option V)=some v:=qoi hv
    refine ⟨j,by rw [hN];exact q.1,?_,q.2⟩
    cases e2:σ[j]? with
    | none=>rw [e2] at hv;cases hv
    | some o2=>rw [e2] at hv;have hv:o2=some v:=hv;rw [hv]
theorem ya0 {K:QFg}{H:Hp}{a:Addr}{ns:List Int}{m:FM}(hO:zkl H) (hS:SqL K H a (ns.map V.int)) (h:∃S',m [.ref 0] [.flst (ns.map D.int)]=some (.bl true,S')):sp3 K 1 m [.ref a] H (fun v _=>v=.bl true) fun _ _ _=>False:=by
 obtain ⟨S',h⟩:=h
 have rn:∀ns:List Int,RDs [a] H (ns.map D.int) (ns.map V.int):=fun ns=>by
  induction ns with
  | nil=>exact .nil
  | cons x r ih=>exact .cons (.int x) ih
 refine ⟨rfl,[a],[.ref 0],_,_,S',⟨rfl,fun i j b o1 o2 h1 h2 h3 h4 m1 m2=>?_,fun n b o h1 h2=>?_⟩,.cons (.ref rfl) .nil,h,fun ρ' H' v' e s r=>?_⟩
 ·cases i with
  | zero=>cases h3;cases m1
  | succ i=>cases h3
 ·cases n with
  | succ n=>cases h1
  | zero =>
   cases h1;cases h2
   refine ⟨_,?_,rn ns⟩
   rcases hS with (z|⟨o,z⟩)|z
   ·rcases hO a with y|⟨o,xs,y⟩ <;> (rw [z] at y;cases y)
   ·exact .inl ⟨o,z⟩
   ·exact .inr z
 ·cases r;rfl
noncomputable def top (b:List Stmt) (i:Nat):Stmt:=b.getD i (.Pass ⟨0,0,0,0⟩)
noncomputable def We (m:EM) (l:Lo) (S:Sto) (Q:D->Sto->Prop):Prop:=∃v S',m l S=some (v,S')/\Q v S'
noncomputable def Wt (m:TM) (l:Lo) (S:Sto) (Q:Bool->Sto->Prop):Prop:=∃v S',m l S=some (v,S')/\Q v S'
noncomputable def Wa (m:AM) (l:Lo) (S:Sto) (Q:List D->Sto->Prop):Prop:=∃v S',m l S=some (v,S')/\Q v S'
noncomputable def Wo (o:Option (D × Sto)) (Q:D->Sto->Prop):Prop:=∃v S',o=some (v,S')/\Q v S'
noncomputable def Wg (o:Option (Lo × Sto)) (Q:Lo->Sto->Prop):Prop:=∃l S',o=some (l,S')/\Q l S'
noncomputable def Wr (o:Option (Fl × Lo × Sto)) (Q:Fl->Lo->Sto->Prop):Prop:=∃f l S',o=some (f,l,S')/\Q f l S'
noncomputable abbrev Ws (m:SM) (l:Lo) (S:Sto) (Q:Fl->Lo->Sto->Prop):Prop:=Wr (m l S) Q
section
variable {a b c:EM}{t u:TM}{l:Lo}{S:Sto}{Q:D->Sto->Prop}{QB:Bool->Sto->Prop}{QA:List D->Sto->Prop}{QS:Fl->Lo->Sto->Prop}{QG:Lo->Sto->Prop}
theorem zal {i:Nat}:We (zaa i) l S Q = ∃d,l[i]? = some (some d)/\Q d S:=by
 apply propext;unfold We zaa
 constructor
 ·rintro ⟨v,S',h,q⟩
  split at h
  ·rename_i d e;cases h;exact ⟨_,e,q⟩
  ·cases h
 ·rintro ⟨d,e,q⟩
  exact ⟨d,S,by rw [e],q⟩
theorem zas {d:D}:We (eC d) l S Q=Q d S:=by
 apply propext;unfold We eC
 exact ⟨fun hx1_=>by obtain ⟨v,S',h,q⟩:=hx1_;cases h;exact q,fun q=>⟨_,_,rfl,q⟩⟩
theorem zax {f:D->D->Sto->Option (D × Sto)}:We (eOp f a b) l S Q=We a l S fun x S1=>We b l S1 fun y S2=>Wo (f x y S2) Q:=by
 apply propext
 constructor
 ·rintro ⟨v,S',h,q⟩
  obtain ⟨⟨x,S1⟩,h1,h⟩:=bnd h
  obtain ⟨⟨y,S2⟩,h2,h⟩:=bnd h
  exact ⟨x,S1,h1,y,S2,h2,v,S',h,q⟩
 ·rintro ⟨x,S1,h1,y,S2,h2,v,S',h,q⟩
  exact ⟨v,S',by unfold eOp;rw [h1];show (b l S1).bind _=_;rw [h2];exact h,q⟩
theorem ya1 {f:D->Sto->Option (D × Sto)}:We (eUn f a) l S Q=We a l S fun x S1=>Wo (f x S1) Q:=by
 apply propext
 constructor
 ·rintro ⟨v,S',h,q⟩
  obtain ⟨⟨x,S1⟩,h1,h⟩:=bnd h
  exact ⟨x,S1,h1,v,S',h,q⟩
 ·rintro ⟨x,S1,h1,v,S',h,q⟩
  exact ⟨v,S',by unfold eUn;rw [h1];exact h,q⟩
theorem zaq:Wa zaf l S QA=QA [] S:=by
 apply propext
 exact ⟨fun hx2_=>by obtain ⟨v,S',h,q⟩:=hx2_;cases h;exact q,fun q=>⟨_,_,rfl,q⟩⟩
theorem zar {r:AM}:Wa (zac a r) l S QA=We a l S fun x S1=>Wa r l S1 fun xs S2=>QA (x :: xs) S2:=by
 apply propext
 constructor
 ·rintro ⟨v,S',h,q⟩
  obtain ⟨⟨x,S1⟩,h1,h⟩:=bnd h
  obtain ⟨⟨y,S2⟩,h2,h⟩:=bnd h
  cases h
  exact ⟨x,S1,h1,y,_,h2,q⟩
 ·rintro ⟨x,S1,h1,y,S2,h2,q⟩
  exact ⟨x :: y,S2,by unfold zac;rw [h1];show (r l S1).bind _=_;rw [h2];rfl,q⟩
theorem zat {f:FM}{r:AM}:We (zag f r) l S Q=Wa r l S fun xs S1=>Wo (f xs S1) Q:=by
 apply propext
 constructor
 ·rintro ⟨v,S',h,q⟩
  obtain ⟨⟨x,S1⟩,h1,h⟩:=bnd h
  exact ⟨x,S1,h1,v,S',h,q⟩
 ·rintro ⟨x,S1,h1,v,S',h,q⟩
  exact ⟨v,S',by unfold zag;rw [h1];exact h,q⟩
theorem zen {f:D->List D->Sto->Option (D × Sto)}{r:AM}:We (zdi f a r) l S Q=We a l S fun x S1=>(∃xs,zdh x S1=some xs)/\Wa r l S1 fun ys S2=>Wo (f x ys S2) Q:=by
 apply propext
 constructor
 ·rintro ⟨v,S',h,q⟩
  obtain ⟨⟨x,S1⟩,h1,h⟩:=bnd h
  obtain ⟨xs,h2,h⟩:=bnd h
  obtain ⟨⟨y,S2⟩,h3,h⟩:=bnd h
  exact ⟨x,S1,h1,⟨xs,h2⟩,y,S2,h3,v,S',h,q⟩
 ·rintro ⟨x,S1,h1,⟨xs,h2⟩,y,S2,h3,v,S',h,q⟩
  refine ⟨v,S',?_,q⟩
  unfold zdi;rw [h1];show (zdh x S1).bind _=_;rw [h2];show (r l S1).bind _=_;rw [h3];exact h
theorem zbe:Wt (tE a) l S QB=We a l S fun x S1=>∃k,x=.bl k/\QB k S1:=by
 apply propext
 constructor
 ·rintro ⟨v,S',h,q⟩
  obtain ⟨⟨x,S1⟩,h1,h⟩:=bnd h
  refine ⟨x,S1,h1,?_⟩
  cases x with
  | bl k=>cases h;exact ⟨_,rfl,q⟩
  | _=>cases h
 ·rintro ⟨x,S1,h1,k,rfl,q⟩
  exact ⟨k,S1,by unfold tE;rw [h1];rfl,q⟩
theorem ze0:Wt (zev t u) l S QB=Wt t l S fun k S1=>if k=true then Wt u l S1 QB else QB false S1:=by
 apply propext
 constructor
 ·rintro ⟨v,S',h,q⟩
  obtain ⟨⟨x,S1⟩,h1,h⟩:=bnd h
  refine ⟨x,S1,h1,?_⟩
  cases x with
  | true=>exact ⟨v,S',h,q⟩
  | false=>cases h;exact q
 ·rintro ⟨x,S1,h1,h⟩
  cases x with
  | true=>obtain ⟨v,S',h,q⟩:=h;exact ⟨v,S',by unfold zev;rw [h1];exact h,q⟩
  | false=>exact ⟨false,S1,by unfold zev;rw [h1];rfl,h⟩
theorem zg2:Wt (zff t u) l S QB=Wt t l S fun k S1=>if k=true then QB true S1 else Wt u l S1 QB:=by
 apply propext
 constructor
 ·rintro ⟨v,S',h,q⟩
  obtain ⟨⟨x,S1⟩,h1,h⟩:=bnd h
  refine ⟨x,S1,h1,?_⟩
  cases x with
  | false=>exact ⟨v,S',h,q⟩
  | true=>cases h;exact q
 ·rintro ⟨x,S1,h1,h⟩
  cases x with
  | false=>obtain ⟨v,S',h,q⟩:=h;exact ⟨v,S',by unfold zff;rw [h1];exact h,q⟩
  | true=>exact ⟨true,S1,by unfold zff;rw [h1];rfl,h⟩
theorem zi4:Wt (zfs t) l S QB=Wt t l S fun k S1=>QB (!k) S1:=by
 apply propext
 constructor
 ·rintro ⟨v,S',h,q⟩
  obtain ⟨⟨x,S1⟩,h1,h⟩:=bnd h
  cases h
  exact ⟨x,_,h1,q⟩
 ·rintro ⟨x,S1,h1,q⟩
  exact ⟨!x,S1,by unfold zfs;rw [h1];rfl,q⟩
theorem zqk:Wt zcm l S QB=QB true S:=by
 apply propext
 exact ⟨fun hx3_=>by obtain ⟨v,S',h,q⟩:=hx3_;cases h;exact q,fun q=>⟨_,_,rfl,q⟩⟩
theorem zql:We (zgs a b) l S Q=We a l S fun x S1=>∃k,x=.bl k/\if k=true then We b l S1 Q else Q (.bl false) S1:=by
 apply propext
 constructor
 ·rintro ⟨v,S',h,q⟩
  obtain ⟨⟨x,S1⟩,h1,h⟩:=bnd h
  refine ⟨x,S1,h1,?_⟩
  cases x with
  | bl k =>
   cases k with
   | true=>exact ⟨true,rfl,v,S',h,q⟩
   | false=>cases h;exact ⟨false,rfl,q⟩
  | _=>cases h
 ·rintro ⟨x,S1,h1,k,rfl,h⟩
  cases k with
  | true=>obtain ⟨v,S',h,q⟩:=h;exact ⟨v,S',by unfold zgs;rw [h1];exact h,q⟩
  | false=>exact ⟨_,S1,by unfold zgs;rw [h1];rfl,h⟩
theorem zqm:We (zhs a b) l S Q=We a l S fun x S1=>∃k,x=.bl k/\if k=true then Q (.bl true) S1 else We b l S1 Q:=by
 apply propext
 constructor
 ·rintro ⟨v,S',h,q⟩
  obtain ⟨⟨x,S1⟩,h1,h⟩:=bnd h
  refine ⟨x,S1,h1,?_⟩
  cases x with
  | bl k =>
   cases k with
   | false=>exact ⟨false,rfl,v,S',h,q⟩
   | true=>cases h;exact ⟨true,rfl,q⟩
  | _=>cases h
 ·rintro ⟨x,S1,h1,k,rfl,h⟩
  cases k with
  | false=>obtain ⟨v,S',h,q⟩:=h;exact ⟨v,S',by unfold zhs;rw [h1];exact h,q⟩
  | true=>exact ⟨_,S1,by unfold zhs;rw [h1];rfl,h⟩
theorem ya2:We (zks a) l S Q=We a l S fun x S1=>∃k,x=.bl k/\Q (.bl (!k)) S1:=by
 apply propext
 constructor
 ·rintro ⟨v,S',h,q⟩
  obtain ⟨⟨x,S1⟩,h1,h⟩:=bnd h
  refine ⟨x,S1,h1,?_⟩
  cases x with
  | bl k=>cases h;exact ⟨k,rfl,q⟩
  | _=>cases h
 ·rintro ⟨x,S1,h1,k,rfl,h⟩
  exact ⟨_,S1,by unfold zks;rw [h1];rfl,h⟩
theorem zqn:We (ziq t a b) l S Q=Wt t l S fun k S1=>if k=true then We a l S1 Q else We b l S1 Q:=by
 apply propext
 constructor
 ·rintro ⟨v,S',h,q⟩
  obtain ⟨⟨x,S1⟩,h1,h⟩:=bnd h
  refine ⟨x,S1,h1,?_⟩
  cases x with
  | true=>exact ⟨v,S',h,q⟩
  | false=>exact ⟨v,S',h,q⟩
 ·rintro ⟨x,S1,h1,h⟩
  cases x with
  | true=>obtain ⟨v,S',h,q⟩:=h;exact ⟨v,S',by unfold ziq;rw [h1];exact h,q⟩
  | false=>obtain ⟨v,S',h,q⟩:=h;exact ⟨v,S',by unfold ziq;rw [h1];exact h,q⟩
variable {m n:SM}
theorem zby:Ws zbn l S QS=QS .nx l S:=by
 apply propext
 exact ⟨fun hx4_=>by obtain ⟨f,v,S',h,q⟩:=hx4_;cases h;exact q,fun q=>⟨_,_,_,rfl,q⟩⟩
theorem zci:Ws (zam m n) l S QS=Ws m l S fun f l1 S1=>match f with | .nx=>Ws n l1 S1 QS|f=>QS f l1 S1:=by
 apply propext
 constructor
 ·rintro ⟨f,v,S',h,q⟩
  obtain ⟨⟨g,l1,S1⟩,h1,h⟩:=bnd h
  refine ⟨g,l1,S1,h1,?_⟩
  cases g with
  | nx=>exact ⟨f,v,S',h,q⟩
  | _=>cases h;exact q
 ·rintro ⟨g,l1,S1,h1,h⟩
  cases g with
  | nx=>obtain ⟨f,v,S',h,q⟩:=h;exact ⟨f,v,S',by unfold zam;rw [h1];exact h,q⟩
  | bk=>exact ⟨_,_,_,by unfold zam;rw [h1];rfl,h⟩
  | ct=>exact ⟨_,_,_,by unfold zam;rw [h1];rfl,h⟩
  | rt d=>exact ⟨_,_,_,by unfold zam;rw [h1];rfl,h⟩
theorem zau (R:Lo->Sto->Prop) (h1:Ws m l S fun f l1 S1=>f=.nx/\R l1 S1) (h2:∀l1 S1,R l1 S1->Ws n l1 S1 QS):Ws (zam m n) l S QS:=by
 rw [zci]
 obtain ⟨f,l1,S1,e,rfl,r⟩:=h1
 exact ⟨_,_,_,e,h2 l1 S1 r⟩
theorem zbj:Ws (sIf t m n) l S QS=Wt t l S fun k S1=>if k=true then Ws m l S1 QS else Ws n l S1 QS:=by
 apply propext
 constructor
 ·rintro ⟨f,v,S',h,q⟩
  obtain ⟨⟨x,S1⟩,h1,h⟩:=bnd h
  refine ⟨x,S1,h1,?_⟩
  cases x with
  | true=>exact ⟨f,v,S',h,q⟩
  | false=>exact ⟨f,v,S',h,q⟩
 ·rintro ⟨x,S1,h1,h⟩
  cases x with
  | true=>obtain ⟨f,v,S',h,q⟩:=h;exact ⟨f,v,S',by unfold sIf;rw [h1];exact h,q⟩
  | false=>obtain ⟨f,v,S',h,q⟩:=h;exact ⟨f,v,S',by unfold sIf;rw [h1];exact h,q⟩
theorem zd4:Ws (zdq a) l S QS=We a l S fun _ S1=>QS .nx l S1:=by
 apply propext
 constructor
 ·rintro ⟨f,v,S',h,q⟩
  obtain ⟨⟨x,S1⟩,h1,h⟩:=bnd h
  cases h
  exact ⟨x,_,h1,q⟩
 ·rintro ⟨x,S1,h1,q⟩
  exact ⟨_,_,_,by unfold zdq;rw [h1];rfl,q⟩
theorem zb4:Ws (za9 a) l S QS=We a l S fun x S1=>QS (.rt x) l S1:=by
 apply propext
 constructor
 ·rintro ⟨f,v,S',h,q⟩
  obtain ⟨⟨x,S1⟩,h1,h⟩:=bnd h
  cases h
  exact ⟨x,_,h1,q⟩
 ·rintro ⟨x,S1,h1,q⟩
  exact ⟨_,_,_,by unfold za9;rw [h1];rfl,q⟩
theorem za8 {g:GM}:Ws (zap a g) l S QS=We a l S fun x S1=>Wg (g x l S1) fun l2 S2=>QS .nx l2 S2:=by
 apply propext
 constructor
 ·rintro ⟨f,v,S',h,q⟩
  obtain ⟨⟨x,S1⟩,h1,h⟩:=bnd h
  obtain ⟨⟨l2,S2⟩,h2,h⟩:=bnd h
  cases h
  exact ⟨x,S1,h1,_,_,h2,q⟩
 ·rintro ⟨x,S1,h1,l2,S2,h2,q⟩
  refine ⟨_,_,_,?_,q⟩
  unfold zap;rw [h1];show (g x l S1).bind _=_;rw [h2];rfl
theorem zav {i:Nat}{d:D}:Wg (zai i d l S) QG=QG (l.set i (some d)) S:=by
 apply propext
 exact ⟨fun hx7_=>by obtain ⟨v,S',h,q⟩:=hx7_;cases h;exact q,fun q=>⟨_,_,rfl,q⟩⟩
theorem zc7 {k:Nat}{gs:GsM}{xs:List D}:Wg (zcf k gs (.tup xs) l S) QG=(xs.length=k/\Wg (gs xs l S) QG):=by
 apply propext
 constructor
 ·rintro ⟨v,S',h,q⟩
  have h:(if xs.length=k then gs xs l S else none)=some (v,S'):=h
  by_cases hl:xs.length=k
  ·rw [if_pos hl] at h;exact ⟨hl,v,S',h,q⟩
  ·rw [if_neg hl] at h;cases h
 ·rintro ⟨hl,v,S',h,q⟩
  exact ⟨v,S',by show (if xs.length=k then gs xs l S else none)=_;rw [if_pos hl];exact h,q⟩
theorem zc8:Wg (zce [] l S) QG=QG l S:=by
 apply propext
 exact ⟨fun hx8_=>by obtain ⟨v,S',h,q⟩:=hx8_;cases h;exact q,fun q=>⟨_,_,rfl,q⟩⟩
theorem zc9 {g:GM}{gs:GsM}{x:D}{xs:List D}:Wg (zba g gs (x :: xs) l S) QG=Wg (g x l S) fun l1 S1=>Wg (gs xs l1 S1) QG:=by
 apply propext
 constructor
 ·rintro ⟨v,S',h,q⟩
  obtain ⟨⟨l1,S1⟩,h1,h⟩:=bnd h
  exact ⟨l1,S1,h1,v,S',h,q⟩
 ·rintro ⟨l1,S1,h1,v,S',h,q⟩
  exact ⟨v,S',by show (g x l S).bind _=_;rw [h1];exact h,q⟩
theorem zbh {d:D}:Wo (some (d,S)) Q=Q d S:=by
 apply propext
 exact ⟨fun hx9_=>by obtain ⟨v,S',h,q⟩:=hx9_;cases h;exact q,fun q=>⟨_,_,rfl,q⟩⟩
theorem ze1 {α:Type}{o:Option α}{f:α->Option (D × Sto)}:Wo (o.bind f) Q = ∃x,o=some x/\Wo (f x) Q:=by
 cases o with
 | none=>simp [Wo]
 | some x=>simp [Wo]
theorem zd5 {p:Prop} [Decidable p] {x:D × Sto}:Wo (if p then some x else none) Q=(p/\Q x.1 x.2):=by
 obtain ⟨a,b⟩:=x
 by_cases hp:p
 ·rw [if_pos hp]
  apply propext
  exact ⟨fun hx10_=>by obtain ⟨v,S',h,q⟩:=hx10_;cases h;exact ⟨hp,q⟩,fun q=>⟨a,b,rfl,q.2⟩⟩
 ·simp [hp,Wo]
theorem ze2 {g:Int->Int->D}{i j:Int}:Wo (oI0 g (.int i) (.int j) S) Q=Q (g i j) S:=zbh
theorem zhy {C:Int->Int->Bool}{g:Int->Int->D}{i j:Int}:Wo (oI C g (.int i) (.int j) S) Q=(C i j=true/\Q (g i j) S):=zd5
theorem zqo {xs:List D}{i:Int}:Wo (dIx (.tup xs) (.int i) S) Q = ∃v,L2.atI xs i=some v/\Q v S:=by
 show Wo ((L2.atI xs i).bind fun v=>some (v,S)) Q=_
 rw [ze1];simp only [zbh]
theorem zqp {k:Nat}{i:Int}:Wo (dIx (.ref k) (.int i) S) Q = ∃xs,lstOf S k=some xs/\∃v,L2.atI xs i=some v/\Q v S:=by
 show Wo ((lstOf S k).bind fun xs=>(L2.atI xs i).bind fun v=>some (v,S)) Q=_
 rw [ze1];simp only [ze1,zbh]
theorem zqq {xs:List D}:Wo (ziz [.tup xs] S) Q=Q (.int xs.length) S:=zbh
theorem zqr {k:Nat}:Wo (ziz [.ref k] S) Q = ∃xs,lstOf S k=some xs/\Q (.int xs.length) S:=by
 show Wo ((lstOf S k).bind fun xs=>some (.int xs.length,S)) Q=_
 rw [ze1];simp only [zbh]
theorem ya3 {i:Int}:Wo (zgy [.int i] S) Q=Q (.int (if i<0 then -i else i)) S:=zbh
theorem zda {xs:List D}:Wo (zbs xs S) Q=(xs.length<=sizeLine/\Q (.tup xs) S):=zd5
theorem ze3 {xs:List D}:Wo (zcq xs S) Q=(xs.length<=sizeLine/\Q (.ref S.length) (S++[.lst xs])):=zd5
theorem zi5 {k:Nat}:Wo (zds [.ref k] S) Q = ∃xs,lstOf S k=some xs/\Q (.tup xs) S:=by
 show Wo ((lstOf S k).bind fun xs=>some (.tup xs,S)) Q=_
 rw [ze1];simp only [zbh]
theorem zdb {i j:Int}:Wo (dEq (.int i) (.int j) S) Q=Q (.bl (decide (i=j))) S:=zbh
theorem zm3 {i j:Str}:Wo (dNe (.str i) (.str j) S) Q=Q (.bl (!decide (i=j))) S:=zbh
theorem zkw {x:D}:Wo (dIs x .non S) Q=Q (.bl (zb7 x)) S:=by
 cases x <;> exact zbh
theorem zdx {x:D}:Wo (zd3 x .non S) Q=Q (.bl (!zb7 x)) S:=by
 cases x <;> exact zbh
theorem zhz {k:Nat}{x:D}:Wo (zdt (.ref k) [x] S) Q = ∃xs,S[k]? = some (.lst xs)/\xs.length<sizeLine/\Q .non (S.set k (.lst (xs++[x]))):=by
 show Wo (match S[k]? with|some (.lst xs)=>if xs.length<sizeLine then some (.non,S.set k (.lst (xs++[x]))) else none|_=>none) Q=_
 cases e:S[k]? with
 | none=>simp [Wo]
 | some o =>
  cases o with
  | lst xs=>simp [zd5]
  | flst xs=>simp [Wo]
  | iset f n=>simp [Wo]
  | dct kvs=>simp [Wo]
  | fdct kvs=>simp [Wo]
  | ftdct kvs=>simp [Wo]
  | tset ks=>simp [Wo]
  | fnc x=>simp [Wo]
  | tdct kvs=>simp [Wo]
  | exc c=>simp [Wo]
theorem zb5 {k:Nat}{b:SM}{ds:List D}:Wo (zbo k b ds S) Q=Ws b (ds.map some++List.replicate (k-ds.length) none) S fun f _ S1=>match f with | .rt d=>Q d S1 | .nx=>Q .non S1|_=>False:=by
 apply propext
 constructor
 ·rintro ⟨v,S',h,q⟩
  obtain ⟨⟨f,l1,S1⟩,h1,h⟩:=bnd h
  refine ⟨f,l1,S1,h1,?_⟩
  cases f with
  | rt d=>cases h;exact q
  | nx=>cases h;exact q
  | bk=>cases h
  | ct=>cases h
 ·rintro ⟨f,l1,S1,h1,q⟩
  cases f with
  | rt d=>exact ⟨_,_,by unfold zbo;rw [h1];rfl,q⟩
  | nx=>exact ⟨_,_,by unfold zbo;rw [h1];rfl,q⟩
  | bk=>cases q
  | ct=>cases q
end
theorem Wo.mono {o:Option (D × Sto)}{Q Q':D->Sto->Prop}(h:Wo o Q) (i:∀v S,Q v S->Q' v S):Wo o Q':=let ⟨v,S,e,q⟩:=h;⟨v,S,e,i v S q⟩
theorem Wr.mono {o:Option (Fl × Lo × Sto)}{Q Q':Fl->Lo->Sto->Prop}(h:Wr o Q) (i:∀f v S,Q f v S->Q' f v S):Wr o Q':=let ⟨f,v,S,e,q⟩:=h;⟨f,v,S,e,i f v S q⟩
section
variable {g:GM}{b:SM}{l:Lo}{S:Sto}{QS:Fl->Lo->Sto->Prop}
theorem zqs {as:AM}:Ws (zez (zcg as) g b) l S QS=Wa as l S fun xs S1=>∃j,xs=[.int j]/\(-(2 ^ 62)<=j/\j<2 ^ 62)/\Wr (zek g b (zbz 0 j.toNat) l S1) QS:=by
 apply propext
 constructor
 ·rintro ⟨f,v,S',h,q⟩
  obtain ⟨⟨⟨lo,n⟩,S1⟩,h1,h⟩:=bnd h
  obtain ⟨⟨xs,S2⟩,h2,h1⟩:=bnd h1
  dsimp only at h1
  split at h1
  ·rename_i j
   obtain ⟨hz,e⟩:=zbt h1
   cases e
   exact ⟨_,_,h2,j,rfl,hz,f,v,S',h,q⟩
  ·cases h1
 ·rintro ⟨xs,S1,h1,j,rfl,hz,f,v,S',h,q⟩
  refine ⟨f,v,S',?_,q⟩
  have:zcg as l S=some ((0,j.toNat),S1):=by
   unfold zcg;rw [h1];show (if _ then _ else _)=_;rw [if_pos hz]
  unfold zez;show (zcg as l S).bind _=_;rw [this];exact h
theorem zqt {e:EM}:Ws (zem e g b) l S QS=We e l S fun x S1=>Wr (match x with | .tup xs=>zek g b xs l S1 | .ref n=>(lstOf S1 n).bind fun xs=>zel g b n (xs.length+1) 0 l S1|_=>none) QS:=by
 apply propext
 constructor
 ·rintro ⟨f,v,S',h,q⟩
  obtain ⟨⟨x,S1⟩,h1,h⟩:=bnd h
  exact ⟨x,S1,h1,f,v,S',h,q⟩
 ·rintro ⟨x,S1,h1,f,v,S',h,q⟩
  exact ⟨f,v,S',by unfold zem;rw [h1];exact h,q⟩
theorem zkx {lo:Int}{n i:Nat}{x:D}(h:(zbz lo n)[i]? = some x):i<n/\x=.int (lo+i):=by
 have hl:=(qme h).1
 simp only [zbz,qlm,List.length_range] at hl
 unfold zbz at h
 rw [qgm,List.getElem?_range hl] at h
 exact ⟨hl,(qoi h).symm⟩
theorem zfy (lo:Int) (n:Nat):(zbz lo n).length=n:=by simp [zbz]
end
mutual
noncomputable def zcb (S:Sto):Nat->D->Option PyData
 | 0,_=>none
 | _+1,.non=>some .none
 | _+1,.bl b=>some (.bool b)
 | _+1,.int i=>if i.natAbs.log2<1920 then some (.int i) else none
 | _+1,.str x=>some (.str x)
 | k+1,.tup xs=>(zde S k xs).bind fun ds=>some (.tuple ds)
 | k+1,.ref n=>(lstOf S n).bind fun xs=>(zde S k xs).bind fun ds=>some (.list ds)
 | _+1,.fn _=>none
termination_by k=>(k,0)
noncomputable def zde (S:Sto):Nat->List D->Option (List PyData)
 | _,[]=>some []
 | k,x :: xs=>(zcb S k x).bind fun d=>(zde S k xs).bind fun ds=>some (d :: ds)
termination_by k xs=>(k,xs.length+1)
end
section
variable {X:Cx}{pins:List (Addr × Obj)}{σ:St}{H:Hp}{s:Shared}{ρ:List Addr}{S:Sto}
mutual
theorem zm4 (I:Inv X pins σ H s) (sim:Sim X.K ρ S H):∀(k:Nat) (d:D) (v:V) (u:Value) (p:PyData),RD ρ H d v->RelV v u->zcb S k d=some p->(∃as,Reads s.heap u p as)/\p.showable=true/\p.hasDict=false/\p.depth<=k
 | 0,d,v,u,p,_,_,h=>by unfold zcb at h;cases h
 | k+1,.non,v,u,p,r,e,h=>by
  unfold zcb at h;cases h;cases r;cases e
  exact ⟨⟨_,.none⟩,rfl,rfl,Nat.zero_le _⟩
 | k+1,.bl b,v,u,p,r,e,h=>by
  unfold zcb at h;cases h;cases r;cases e
  exact ⟨⟨_,.bool b⟩,rfl,rfl,Nat.zero_le _⟩
 | k+1,.int i,v,u,p,r,e,h=>by
  unfold zcb at h
  obtain ⟨hz,e2⟩:=zbt h
  cases e2;cases r
  obtain ⟨t,rfl⟩:=e
  exact ⟨⟨_,.int i t⟩,by unfold PyData.showable;exact decide_eq_true hz,rfl,Nat.zero_le _⟩
 | k+1,.str x,v,u,p,r,e,h=>by
  unfold zcb at h;cases h;cases r
  obtain ⟨t,rfl⟩:=e
  exact ⟨⟨_,.str x t⟩,rfl,rfl,Nat.zero_le _⟩
 | k+1,.fn _,v,u,p,r,e,h=>by unfold zcb at h;cases h
 | k+1,.tup xs,v,u,p,r,e,h=>by
  unfold zcb at h
  obtain ⟨ds,h1,h⟩:=bnd h
  cases h
  cases r with
  | tup ha r =>
   cases e
   obtain ⟨its,rv,⟨o,ho,hc,n,hd⟩,hz⟩:=I.tuple (SqT.of ha)
   obtain ⟨⟨as,h2⟩,h3,h4,h5⟩:=zm5 I sim k xs _ _ ds r rv h1
   refine ⟨⟨as,.tuple ho hc hd (by simpa using h2)⟩,?_,?_,?_⟩
   ·unfold PyData.showable;exact h3
   ·unfold PyData.hasDict;exact h4
   ·unfold PyData.depth;omega
 | k+1,.ref n,v,u,p,r,e,h=>by
  unfold zcb at h
  obtain ⟨xs,h0,h⟩:=bnd h
  obtain ⟨ds,h1,h⟩:=bnd h
  cases h
  obtain ⟨a,vs,ha,sq,rd⟩:=sim.lstOf h0
  cases r with
  | ref hn =>
   rw [ha] at hn;cases hn
   cases e
   obtain ⟨its,rv,pl,hz⟩:=I.list sq
   obtain ⟨o,ho,hc,m,hd⟩:=pl.isList
   obtain ⟨⟨as,h2⟩,h3,h4,h5⟩:=zm5 I sim k xs _ _ ds rd rv h1
   refine ⟨⟨_,.list ho hc hd (by simpa using h2)⟩,?_,?_,?_⟩
   ·unfold PyData.showable;exact h3
   ·unfold PyData.hasDict;exact h4
   ·unfold PyData.depth;omega
termination_by k=>(k,0)
theorem zm5 (I:Inv X pins σ H s) (sim:Sim X.K ρ S H):∀(k:Nat) (xs:List D) (vs:List V) (us:List Value) (ds:List PyData),RDs ρ H xs vs->Vals vs us->zde S k xs=some ds->(∃as,ReadsAll s.heap us ds as)/\PyData.showableAll ds=true/\PyData.hasDictAll ds=false/\PyData.depthAll ds<=k
 | k,[],vs,us,ds,r,e,h=>by
  unfold zde at h;cases h;cases r;cases e
  exact ⟨⟨_,.nil⟩,rfl,rfl,Nat.zero_le _⟩
 | k,x :: xs,vs,us,ds,r,e,h=>by
  unfold zde at h
  obtain ⟨d,h1,h⟩:=bnd h
  obtain ⟨ds',h2,h⟩:=bnd h
  cases h
  cases r with
  | cons r1 r2 =>
   cases e with
   | cons e1 e2 =>
    obtain ⟨⟨as,q1⟩,q2,q3,q4⟩:=zm4 I sim k x _ _ d r1 e1 h1
    obtain ⟨⟨bs,p1⟩,p2,p3,p4⟩:=zm5 I sim k xs _ _ ds' r2 e2 h2
    refine ⟨⟨_,.cons q1 p1⟩,?_,?_,?_⟩
    ·unfold PyData.showableAll;rw [q2,p2];rfl
    ·unfold PyData.hasDictAll;rw [q3,p3];rfl
    ·unfold PyData.depthAll;omega
termination_by k xs=>(k,xs.length+1)
end
end
section
variable {X:Cx}{a:Expr}{es:List Expr}{mA:AM}{pos p:Pos}
end
theorem ya4:fillsNumberSlot (.type "tuple") "mul" = pure false :=
 PySem.fillsNumberSlot_seq (id:="tuple.__mul__") (r:=some (.builtin "tuple.__rmul__")) PySem.F.slot_tuple_mul.lookup (by decide +kernel) PySem.F.slot_tuple_rmul.lookup (by decide +kernel)
theorem ya5:seqRepeat? (.type "tuple")=pure (some (.builtin "tuple.__mul__")):=by
 unfold seqRepeat?
 rw [PySem.seqSlot_of (T:="tuple") (name:="__mul__") (id:="tuple.__mul__") PySem.F.slot_tuple_mul.lookup (by decide +kernel),PySem.seqSlot_of (T:="tuple") (name:="__rmul__") (id:="tuple.__rmul__") PySem.F.slot_tuple_rmul.lookup (by decide +kernel)]
 rfl
open PySem.AutoSeq1 (wpAny_loadPart')
theorem ya6 (a:Int) (t:Tok) (l:Addr) (items:Array Value) (n:Nat) (dd:Option Addr) (sl:Array (Option Value)) :
  Meets (Builtin.«int.__rmul__» ⟨[.int a t,.ref l],[]⟩) (fun _ R s=>s.heap.get? l=some { cls:=.type "tuple",dict:=dd,data:=.seq items n,slots:=sl }/\R (.ok (.ret Value.notImplemented)) s) :=
 .of_wp fun prog w A R s h=>by obtain ⟨hp,g,d,tk,os⟩:=s;obtain ⟨hl,h⟩:=h;wp_walk;exact ⟨_,rfl,h⟩
section
variable {prog:Program}{w:World}{A:Around}{E:Value->Shared->Prop}{s:Shared}
theorem ya7 {t:Addr}{items:Array Value}{k:Int}{u:Tok}{Q:Value->Shared->Prop}(ht:IsTup s.heap t items) (k0:2<=k) (k1:k<2 ^ 31) (hi:items.isEmpty=false) (hz:items.size*k.toNat<=sizeLine)
  (h:Q (.ref s.heap.objs.size) { s with heap:=s.heap.push { cls:=.type "tuple",data:=.seq ((List.replicate k.toNat items).foldl (·++·) #[]) } }) (h6:((List.replicate k.toNat items).foldl (·++·) #[]).size<=sizeLine) :
  wpAny (model prog w) A (call (.builtin "tuple.__mul__") [.ref t,.int k u]) Q E s:=by
 refine wpAny_call_entry PySem.F.slot_tuple_mul ht.typeIs PySem.F.entry_tuple_mul ?_ (PySem.F.args_tuple_mul_2 _ _)
 show wpAny _ _ (asIndex (.int k u) >>= _) _ _ s
 refine wpAny_bind ?_
 show wpAny _ _ (pure k) _ _ s
 refine wpAny_pure ?_
 have e1:(decide (k < -(2 ^ 63)) || decide (k ≥ 2 ^ 63))=false:=by
  rw [Bool.or_eq_false_iff];exact ⟨decide_eq_false (by omega),decide_eq_false (by omega)⟩
 have e2:(items.isEmpty || k == 1)=false:=by rw [hi,Bool.false_or];exact beq_false_of_ne (by omega)
 have e3:(decide (k<=0) || items.isEmpty)=false:=by rw [hi,Bool.or_false];exact decide_eq_false (by omega)
 show wpAny _ _ (if (decide (k < -(2 ^ 63)) || decide (k ≥ 2 ^ 63))=true then _ else _) _ _ s
 rw [if_neg (by rw [e1];exact Bool.false_ne_true)]
 refine wpAny_bind (tupleItemsOf_ ht ?_)
 show wpAny _ _ (if (items.isEmpty || k == 1)=true then _ else _) _ _ s
 rw [if_neg (by rw [e2];exact Bool.false_ne_true)]
 show wpAny _ _ (if (decide (k<=0) || items.isEmpty)=true then _ else _) _ _ s
 rw [if_neg (by rw [e3];exact Bool.false_ne_true)]
 have hk:(items.size:Int)*k=((items.size*k.toNat:Nat):Int):=by rw [Int.natCast_mul,Int.toNat_of_nonneg (by omega)]
 have hs:(sizeLine:Nat)=16777216:=by decide
 show wpAny _ _ (if (items.size:Int)*k > (2 ^ 63-1) / 8 then _ else _) _ _ s
 rw [if_neg (by rw [hk];omega)]
 show wpAny _ _ (if Builtin.Tuple.tupleTooMany ((items.size:Int)*k)=true then _ else _) _ _ s
 rw [if_neg (by unfold Builtin.Tuple.tupleTooMany;rw [hk];simp only [decide_eq_true_eq];omega)]
 first
  | exact wpAny_bind (m:=Builtin.Tuple.tupleExact _) (wpAny_newObj_type (wpAny_pure ⟨_,rfl,h⟩) h6)
  | exact wpAny_bind (m:=Builtin.Tuple.tupleExact _) (wpAny_newObj_type (wpAny_pure ⟨_,rfl,wpAny_pure h⟩) h6)
theorem ya8 {t:Addr}{items:Array Value}{u:Tok}{Q:Value->Shared->Prop}(ht:IsTup s.heap t items) (h:Q (.ref t) s) :
  wpAny (model prog w) A (call (.builtin "tuple.__mul__") [.ref t,.int 1 u]) Q E s:=by
 refine wpAny_call_entry PySem.F.slot_tuple_mul ht.typeIs PySem.F.entry_tuple_mul ?_ (PySem.F.args_tuple_mul_2 _ _)
 show wpAny _ _ (asIndex (.int 1 u) >>= _) _ _ s
 refine wpAny_bind ?_
 show wpAny _ _ (pure (1:Int)) _ _ s
 refine wpAny_pure ?_
 show wpAny _ _ (if (decide ((1:Int) < -(2 ^ 63)) || decide ((1:Int) ≥ 2 ^ 63))=true then _ else _) _ _ s
 rw [if_neg (by decide)]
 refine wpAny_bind (tupleItemsOf_ ht ?_)
 show wpAny _ _ (if (items.isEmpty || (1:Int) == 1)=true then _ else _) _ _ s
 rw [if_pos (by simp)]
 unfold Builtin.Tuple.tupleIsExact
 refine wpAny_bind (wpAny_bind (wpAny_typeOf ht.typeIs (wpAny_pure ?_)))
 rw [if_pos (by decide)]
 exact wpAny_bind (wpAny_rule (wpAny_pure ⟨_,rfl,h⟩))
theorem ya9 {t:Addr}{items:Array Value}{k:Int}{u:Tok}{Q:Value->Shared->Prop}(ht:IsTup s.heap t items) (k0:k=0) (hi:items.isEmpty=false)
  (h:Q (.ref s.heap.objs.size) { s with heap:=s.heap.push { cls:=.type "tuple",data:=.seq #[] } }) :
  wpAny (model prog w) A (call (.builtin "tuple.__mul__") [.ref t,.int k u]) Q E s:=by
 subst k0
 refine wpAny_call_entry PySem.F.slot_tuple_mul ht.typeIs PySem.F.entry_tuple_mul ?_ (PySem.F.args_tuple_mul_2 _ _)
 show wpAny _ _ (asIndex (.int 0 u) >>= _) _ _ s
 refine wpAny_bind ?_
 show wpAny _ _ (pure (0:Int)) _ _ s
 refine wpAny_pure ?_
 show wpAny _ _ (if (decide ((0:Int) < -(2 ^ 63)) || decide ((0:Int) ≥ 2 ^ 63))=true then _ else _) _ _ s
 rw [if_neg (by decide)]
 refine wpAny_bind (tupleItemsOf_ ht ?_)
 show wpAny _ _ (if (items.isEmpty || (0:Int) == 1)=true then _ else _) _ _ s
 rw [if_neg (by rw [hi];decide)]
 show wpAny _ _ (if (decide ((0:Int)<=0) || items.isEmpty)=true then _ else _) _ _ s
 rw [if_pos (by simp)]
 first
  | exact wpAny_bind (m:=Builtin.Tuple.tupleExact _) (wpAny_newObj_type (wpAny_pure ⟨_,rfl,h⟩) (Nat.zero_le _))
  | exact wpAny_bind (m:=Builtin.Tuple.tupleExact _) (wpAny_newObj_type (wpAny_pure ⟨_,rfl,h⟩) (by decide))
end
noncomputable def zqu (K:QFg):R2:=fun x y H Q=>∃a k xs,x=.ref a/\y=.int k/\SqT K H a xs/\xs≠[]/\0<=k/\k<2 ^ 31/\xs.length*k.toNat<=sizeLine /\
 (k=1->Q (.ref a) H)/\(k≠1->∀p,H p=none->Q (.ref p) (upd H p (.tup (List.replicate k.toNat xs).flatten)))
theorem yba {X:Cx}:OpR X (binaryOp .Mult) (zqu X.K):=by
 intro pins s σ H x y v u Q I rx ry h
 obtain ⟨a,k,xs,rfl,rfl,hx,hne,k0,k1,hz,q1,q2⟩:=h
 cases rx
 obtain ⟨t,rfl⟩:=ry
 obtain ⟨its,r,pt,_⟩:=I.tuple hx
 have hne':its≠[]:=fun z=>hne (r.nil_iff.mp z)
 have hie:its.toArray.isEmpty=false:=by cases its with
  | nil=>exact absurd rfl hne'
  | cons _ _=>simp
 obtain ⟨⟨cls,dd,data,sl⟩,ho,hc,n,hd⟩:=id pt
 simp only at hc hd
 subst hc hd
 refine wpAny_binaryOp_repeat_ref (T:="tuple") (U:="int") (by decide) ⟨_,ho,rfl⟩ (fun s'=>typeIs_int s' k t) ya4 PySem.F.fills_int_mul PySem.F.slot_int_rmul ya5 PySem.F.slot_int_index.lookup
  (call_meets PySem.F.slot_int_rmul (typeIs_int s k t) PySem.F.entry_int_rmul (PySem.F.args_int_rmul_2 _ _) (ya6 k t a its.toArray n dd sl) ⟨ho,rfl,⟨_,ho,rfl⟩,?_⟩)
 have f0:∀m:Nat,List.foldl (fun x1 x2=>x1++x2) #[] (List.replicate m its.toArray)=(List.replicate m its).flatten.toArray:=fun m=>by
  have:=zpc its m []
  rw [List.nil_append] at this
  exact this
 have hl:xs.length=its.length:=r.length
 by_cases e1:k=1
 ·subst e1
  exact ya8 pt ⟨.ref a,H,I,rfl,q1 rfl⟩
 ·by_cases e0:k=0
  ·refine ya9 pt e0 hie ?_
   have hv:Vals ([]:List V) ([]:List Value):=.nil
   refine ⟨.ref s.heap.objs.size,_,I.laid (t':=s.toks) (o:=.tup []) (fun b ob q=>qps _ q) (qlr _) ?_,rfl,?_⟩
   ·exact ⟨Nat.zero_le _,[],.nil,IsTD.new _ _⟩
   ·have:=q2 e1 _ (I.hok.fresh (qlr _))
    subst e0
    exact this
  ·have hlen:(List.replicate k.toNat its).flatten.length=k.toNat*its.length:=zpg its k.toNat
   refine ya7 pt (by omega) k1 hie (by rw [List.size_toArray,←hl];exact hz) ?_ ?_
   ·rw [f0]
    refine ⟨.ref s.heap.objs.size,_,I.laid (t':=s.toks) (o:=.tup (List.replicate k.toNat xs).flatten) (fun b ob q=>qps _ q) (qlr _) ?_,rfl,q2 e1 _ (I.hok.fresh (qlr _))⟩
    exact ⟨by rw [zpg,Nat.mul_comm];exact hz,_,r.rep k.toNat,IsTD.new _ _⟩
   ·rw [f0,List.size_toArray,hlen,Nat.mul_comm,←hl];exact hz
noncomputable def zeo:D->D->Sto->Option (D × Sto)
 | .int i,.int j,S=>if (-(2 ^ 64)<i/\i<2 ^ 64)∨(-(2 ^ 64)<j/\j<2 ^ 64) then some (.int (i*j),S) else none
 | .tup (x :: xs),.int k,S=>if 0<=k/\k<2 ^ 31/\(xs.length+1)*k.toNat<=sizeLine then some (.tup (List.replicate k.toNat (x :: xs)).flatten,S) else none
 | _,_,_=>none
theorem ybb {K:QFg}:Op3 K zeo (fun x y H Q=>rI CMul (fun i j=>.int (i*j)) x y H Q∨zqu K x y H Q):=by
 intro ρ S H x y x' y' v S' Q sim rx ry h p
 unfold zeo at h
 split at h
 ·obtain ⟨hc,e⟩:=zbt h
  cases e;cases rx;cases ry
  exact .inl ⟨_,_,rfl,rfl,hc,p ρ H _ (Ext.refl ..) sim (.int _)⟩
 ·rename_i x xs k
  obtain ⟨⟨k0,k1,hz⟩,e⟩:=zbt h
  cases e;cases ry
  cases rx with
  | @tup _ a vs ha r =>
   have hl:=r.length
   refine .inr ⟨a,k,vs,rfl,rfl,SqT.of ha,?_,k0,k1,by rw [←hl];exact hz,fun e=>?_,fun _=>ziv sim (r.rep k.toNat) p⟩
   ·intro z;rw [z] at hl;cases hl
   ·subst e
    have e2:(List.replicate (1:Int).toNat (x :: xs)).flatten=x :: xs:=by simp
    rw [e2] at p
    exact p ρ H _ (Ext.refl ..) sim (.tup ha r)
 ·cases h
section
variable {X:Cx}{a b:Expr}{ma mb:EM}{pos:Pos}
theorem zky (ha:PE3 X a ma) (hb:PE3 X b mb):PE3 X (.BinOp a .Mult b pos) (eOp zeo ma mb):=zfh (op_mul.or yba) ybb ha hb
end
noncomputable def whl (c:TM) (b:SM):Nat->SM
 | 0,_,_=>none
 | k+1,l,S=>(c l S).bind fun p=>if p.1=true then (b l p.2).bind fun q=>match q.1 with
  | .nx=>whl c b k q.2.1 q.2.2
  | .ct=>whl c b k q.2.1 q.2.2
  | .bk=>some (.nx,q.2)
  | .rt d=>some (.rt d,q.2) else some (.nx,l,p.2)
section
variable {X:Cx}{c:Expr}{body:List Stmt}{mc:TM}{mb:SM}{pos:Pos}
theorem ybc (n:Nat) (hp:PassesOwn (model X.prog X.w) X.A X.env X.xe) (hc:PT3 X c mc) (hb:zd2 X body mb):PS3 X (.While c body [] pos) (whl mc mb n) :=
 PS.imp (zxd hp hc hb) fun E σ H hx1_=>by
  obtain ⟨ρ,l,S,f,l',S',sim,ro,hm,p⟩:=hx1_
  refine ⟨fun m σ1 H1=>∃ρ1 l1 S1,Ext ρ H ρ1 H1/\Sim X.K ρ1 S1 H1/\RO ρ1 H1 l1 σ1/\whl mc mb m l1 S1=some (f,l',S'),⟨n,ρ,l,S,Ext.refl ..,sim,ro,hm⟩,?_⟩
  rintro m σ1 H1 ⟨ρ1,l1,S1,e1,s1,ro1,hm1⟩
  cases m with
  | zero=>cases hm1
  | succ m =>
   unfold whl at hm1
   obtain ⟨⟨k,S2⟩,q1,hm1⟩:=bnd hm1
   refine ⟨ρ1,l1,S1,k,S2,s1,ro1,q1,fun ρ2 H2 e2 s2=>?_⟩
   cases k with
   | false =>
    cases hm1
    exact zeg (p ρ2 H2 σ1 (e1.trans e2) s2 (ro1.mono e2))
   | true =>
    have hm1:((mb l1 S2).bind fun q=>match q.1 with
     | .nx=>whl mc mb m q.2.1 q.2.2
     | .ct=>whl mc mb m q.2.1 q.2.2
     | .bk=>some (.nx,q.2)
     | .rt d=>some (.rt d,q.2))=some (f,l',S'):=hm1
    obtain ⟨⟨fl,l3,S3⟩,q2,hm1⟩:=bnd hm1
    refine zeh ⟨_,fun σ' H' h=>h,ρ2,l1,S2,fl,l3,S3,s2,ro1.mono e2,q2,fun ρ3 H3 σ3 e3 s3 ro3=>?_⟩
    cases fl with
    | nx=>exact ⟨m,Nat.lt_succ_self m,ρ3,l3,S3,e1.trans (e2.trans e3),s3,ro3,hm1⟩
    | ct=>exact ⟨m,Nat.lt_succ_self m,ρ3,l3,S3,e1.trans (e2.trans e3),s3,ro3,hm1⟩
    | bk=>cases hm1;exact p ρ3 H3 σ3 (e1.trans (e2.trans e3)) s3 ro3
    | rt d=>cases hm1;exact p ρ3 H3 σ3 (e1.trans (e2.trans e3)) s3 ro3
end
section
variable {X:Cx}
variable {a b:Expr}{ma mb:EM}{pos:Pos}
end
noncomputable def zfz:D->D->Sto->Option (D × Sto):=fun x y S=>(zcb S 60 x).bind fun p=>(zcb S 60 y).bind fun q=>if p.canLay0=true/\q.canLay0=true then some (.bl (!p.eqv q),S) else none
noncomputable def zqv (K:QFg) (neg:Bool):R2:=fun x y H Q=>∃ρ S dx dy p q,Sim K ρ S H/\RD ρ H dx x/\RD ρ H dy y/\zcb S 60 dx=some p/\zcb S 60 dy=some q/\p.canLay0=true/\q.canLay0=true/\Q (.bl (if neg then !p.eqv q else p.eqv q)) H
section
variable {X:Cx}
theorem ybd {k:Nat}(hr:Room k X.A):OpR X (compareOp .NotEq) (zqv X.K true):=by
 intro pins s σ H x y v u Q I rx ry h
 obtain ⟨ρ,S,dx,dy,p,q,sim,r1,r2,h1,h2,c1,c2,hq⟩:=h
 obtain ⟨⟨as,k1⟩,_,_,k2⟩:=zm4 I sim 60 dx x v p r1 rx h1
 obtain ⟨⟨bs,k3⟩,_,_,k4⟩:=zm4 I sim 60 dy y u q r2 ry h2
 have hu:X.A.units+min p.depth q.depth<cLine:=by have:=hr.un;have:min p.depth q.depth<=p.depth:=Nat.min_le_left _ _;omega
 exact PySem.SeqAt.compareNe_reads k1 k3 c1 c2 hu ⟨.bl _,H,I,rfl,hq⟩
theorem ybe {K:QFg}:Op3 K zfz (zqv K true):=by
 intro ρ S H x y x' y' v S' Q sim rx ry h p
 obtain ⟨d1,h1,h⟩:=bnd h
 obtain ⟨d2,h2,h⟩:=bnd h
 obtain ⟨hc,e⟩:=zbt h
 cases e
 exact ⟨ρ,_,x,y,d1,d2,sim,rx,ry,h1,h2,hc.1,hc.2,p ρ H _ (Ext.refl ..) sim (.bl _)⟩
variable {a b:Expr}{ma mb:EM}{pos:Pos}{k:Nat}
theorem zqw (hr:Room k X.A) (ha:PE3 X a ma) (hb:PE3 X b mb):PT3 X (.Compare a [.NotEq] [b] pos) (tE (eOp zfz ma mb)):=zfi (ybd hr) ybe ha hb (zeu b)
end
noncomputable def zg3:D->Bool
 | .non=>true | .bl _=>true | .int _=>true | .str _=>true
 | _=>false
noncomputable def zh0:D->D->Bool
 | .non,.non=>true
 | .bl a,.bl b=>a == b
 | .bl a,.int b=>(if a then 1 else 0) == b
 | .int a,.bl b=>a == (if b then 1 else 0)
 | .int a,.int b=>a == b
 | .str a,.str b=>a == b
 | _,_=>false
noncomputable def ybf (S:Sto):D->Option (List D)
 | .tup xs=>some xs
 | .ref n=>lstOf S n
 | _=>none
noncomputable def zm6 (neg:Bool):D->D->Sto->Option (D × Sto):=fun x y S=>(ybf S y).bind fun xs=>if zg3 x=true/\xs.all zg3=true then some (.bl (if neg then !(xs.any fun y=>zh0 y x) else xs.any fun y=>zh0 y x),S) else none
theorem zqx {ρ:List Addr}{H:Hp}{x:D}{x':V}(r:RD ρ H x x'):zfd x' = zg3 x:=by
 cases r <;> rfl
theorem ybg {ρ:List Addr}{H:Hp}{x y:D}{x' y':V}(r:RD ρ H x x') (r':RD ρ H y y'):eqV x' y' = zh0 x y:=by
 cases r <;> cases r' <;> rfl
theorem zqy {ρ:List Addr}{H:Hp}:∀{xs:List D}{vs:List V},RDs ρ H xs vs->vs.all zfd=xs.all zg3
 | _,_,.nil=>rfl
 | _,_,.cons r q=>by rw [List.all_cons,List.all_cons,zqx r,zqy q]
theorem zqz {ρ:List Addr}{H:Hp}{x:D}{x':V}(rx:RD ρ H x x'):∀{xs:List D}{vs:List V},RDs ρ H xs vs->inV x' vs=xs.any fun y=>zh0 y x
 | _,_,.nil=>rfl
 | _,_,.cons r q=>by
  have ih:=zqz rx q
  unfold inV at ih ⊢
  rw [List.any_cons,List.any_cons,ybg r rx,ih]
theorem ybh {K:QFg}{neg:Bool}:Op3 K (zm6 neg) (rIn K neg):=by
 intro ρ S H x y x' y' v S' Q sim rx ry h p
 obtain ⟨xs,h1,h⟩:=bnd h
 obtain ⟨hc,e⟩:=zbt h
 cases e
 have fin:∀a vs,y' = .ref a->(SqL K H a vs∨SqT K H a vs)->RDs ρ H xs vs->rIn K neg x' y' H Q:=fun a vs e1 e2 r=>by
  refine ⟨a,vs,e1,e2,by rw [zqx rx];exact hc.1,by rw [zqy r];exact hc.2,?_⟩
  rw [zqz rx r]
  exact p ρ H _ (Ext.refl ..) sim (.bl _)
 cases ry with
 | tup ha r=>cases h1;exact fin _ _ rfl (.inr (SqT.of ha)) r
 | ref hn =>
  obtain ⟨a,vs,ha,sq,r⟩:=sim.lstOf h1
  rw [ha] at hn;cases hn
  exact fin _ _ rfl (.inl sq) r
 | _=>cases h1
noncomputable def setOf:Sto->D->Option ((Int->Bool) × Nat)
 | S,.ref n=>match S[n]? with
  | some (.iset f k)=>some (f,k)
  | _=>none
 | _,_=>none
theorem Sim.isetOf {K:QFg}{ρ:List Addr}{S:Sto}{H:Hp}{x:D}{v:V}{f:Int->Bool}{k:Nat}(s:Sim K ρ S H) (r:RD ρ H x v) (h:setOf S x=some (f,k)):∃n a,x=.ref n/\v=.ref a/\ρ[n]? = some a/\S[n]? = some (.iset f k)/\H a=some (.set f k):=by
 unfold setOf at h
 split at h
 ·rename_i n
  split at h
  ·rename_i f' k' e
   cases h
   cases r with
   | @ref _ a hn=>exact ⟨n,a,rfl,rfl,hn,e,s.at' n a _ hn e⟩
  ·cases h
 ·cases h
noncomputable def zm7 (neg:Bool):D->D->Sto->Option (D × Sto)
 | .int i,y,S=>(setOf S y).bind fun p=>some (.bl (if neg then !p.1 i else p.1 i),S)
 | _,_,_=>none
noncomputable def zq0 (neg:Bool):R2:=fun x y H Q=>∃i a f n,x=.int i/\y=.ref a/\H a=some (.set f n)/\Q (.bl (if neg then !f i else f i)) H
section
variable {X:Cx}
theorem op_inI:OpR X (compareOp .In) (zq0 false):=by
 intro pins s σ H x y v u Q I rx ry h
 obtain ⟨i,a,f,n,rfl,rfl,hH,q⟩:=h
 obtain ⟨t,rfl⟩:=rx
 cases ry
 exact PySem.wpAny_inSet_of (knd:=intKind X.prog X.w) (k:=i) (PySem.intKind_is X.prog X.w i t) rfl (I.hok a _ hH) ⟨.bl _,H,I.tok _,rfl,q⟩
theorem op3_inI {K:QFg}{neg:Bool}:Op3 K (zm7 neg) (zq0 neg):=by
 intro ρ S H x y x' y' v S' Q sim rx ry h p
 unfold zm7 at h
 split at h
 ·obtain ⟨⟨f,k⟩,h1,h⟩:=bnd h
  cases h
  cases rx
  obtain ⟨n,a,rfl,rfl,_,_,hH⟩:=sim.isetOf ry h1
  exact ⟨_,a,f,k,rfl,rfl,hH,p ρ H _ (Ext.refl ..) sim (.bl _)⟩
 ·cases h
noncomputable def dIn (neg:Bool):D->D->Sto->Option (D × Sto):=fun x y S=>match zm7 neg x y S with|some v=>some v|none=>zm6 neg x y S
variable {a b:Expr}{ma mb:EM}{pos:Pos}
theorem ybi (ha:PE3 X a ma) (hb:PE3 X b mb) (hm:behindInMarks .In b=false:=by rfl):PT3 X (.Compare a [.In] [b] pos) (tE (eOp (dIn false) ma mb)):=zfi (op_inI.or zy7) (op3_inI.or ybh) ha hb hm
end
section
variable {X:Cx}
variable {o e:Expr}{mo m:EM}{apos cpos:Pos}
end
section
variable {prog:Program}{w:World}{A:Around}{E:Value->Shared->Prop}{s:Shared}
end
section
variable {X:Cx}
end
noncomputable def zkz:Nat:=1000000
noncomputable def zg4:D->List D->Sto->Option (D × Sto)
 | .ref n,[.int i],S=>match S[n]? with
  | some (.lst xs)=>(seqIndex? i xs.length).bind fun k=>(xs[k]?).bind fun y=>if -(2 ^ 63)<=i/\i<2 ^ 63 then some (y,S.set n (.lst (xs.eraseIdx k))) else none
  | _=>none
 | _,_,_=>none
theorem RDs.eraseIdx {ρ:List Addr}{H:Hp}:∀{xs:List D}{vs:List V}(k:Nat),RDs ρ H xs vs->RDs ρ H (xs.eraseIdx k) (vs.eraseIdx k)
 | _,_,_,.nil=>.nil
 | _,_,0,.cons _ q=>q
 | _,_,k+1,.cons r q=>.cons r (RDs.eraseIdx k q)
theorem ybj {K:QFg}:Mt3 K zg4 zpe:=by
 intro ρ S H x x' xs vs v S' Q sim rx r h p
 unfold zg4 at h
 split at h
 ·split at h
  ·rename_i n i S ys e
   obtain ⟨k,h1,h⟩:=bnd h
   obtain ⟨y,h2,h⟩:=bnd h
   obtain ⟨hz,e2⟩:=zbt h
   cases e2
   obtain ⟨w,rfl,rw'⟩:=r.one
   cases rw'
   obtain ⟨a,us,ha,hH,r2⟩:=sim.lst e
   obtain ⟨w2,hw,rw2⟩:=r2.get h2
   cases rx with
   | ref hn =>
    rw [ha] at hn;cases hn
    exact ⟨a,us,i,k,w2,rfl,rfl,hH,hz.1,hz.2,by rw [←r2.length];exact h1,hw,p ρ _ _ (zkp ha hH) (sim.set ha e hH (r2.eraseIdx k)) (rw2.mono (zkp ha hH))⟩
  ·cases h
 ·cases h
section
variable {X:Cx}{o e:Expr}{mo m:EM}{apos cpos:Pos}
theorem ybk (ho:PE3 X o mo) (he:PE3 X e m)
  (hbase:attributeBase o "pop" X.env (eval o X.env)=eval o X.env:=by rfl)
  (hfew:((backTo cpos (starEach [e] X.env)).all (fun x=>!x.1) && (backToKw cpos (keywordEach [] X.env)).all (fun x=>x.1.isSome)
   && decide ([e].length+([]:List Keyword).length+(if ([]:List Keyword).isEmpty then 0 else 1)<30))=true:=by rfl)
  (hline:(apos.endLine == cpos.line)=true:=by rfl) (hs:starEach [e] X.env=(false,eval e X.env) :: starEach [] X.env:=by rfl) :
  PE3 X (.Call (.Attribute o "pop" apos) [e] [] cpos) (zdi zg4 mo (zac m zaf)) :=
 zms PySem.F.slot_list_pop PySem.F.type_list_pop zzc ybj ho (zad he zah hs) hbase hfew hline hs
end
section
variable {X:Cx}{o e:Expr}{mo m:EM}{apos cpos:Pos}
end
noncomputable def zh1 (lo:Int) (n:Nat):List V:=(List.range n).map fun (i:Nat)=>V.int (lo+i)
theorem zq1:∀{xs:List V}{us:List Value},xs.length=us.length->(∀(j:Nat) x u,xs[j]? = some x->us[j]? = some u->RelV x u)->Vals xs us
 | [],[],_,_=>.nil
 | [],_ :: _,h,_=>by simp at h
 | _ :: _,[],h,_=>by simp at h
 | x :: xs,u :: us,h,q=>.cons (q 0 x u rfl rfl) (zq1 (by simpa using h) fun j y w h1 h2=>q (j+1) y w (by simpa using h1) (by simpa using h2))
section
variable {X:Cx}
theorem ybl:CallR X (.type "range") (fun xs H Q=>∃j,xs=[.int j]/\∀r,H r=none->Q (.ref r) (upd H r (.rng 0 j))):=by
 intro pins s σ H xs us Q I r h
 obtain ⟨j,rfl,q⟩:=h
 obtain ⟨u1,rfl,r1⟩:=r.one
 obtain ⟨t,rfl⟩:=r1
 exact call_range_1 ⟨.ref _,_,I.laid (o:=.rng 0 j) (fun b o e=>qps _ e) (qlr _) ⟨_,_,_,Heap.get?_push_size _ rfl⟩,rfl,q _ I.fresh⟩
theorem ybm (hc:X.calm=true):CallR X (.type "list") (fun xs H Q=>∃p lo hi,xs=[.ref p]/\H p=some (.rng lo hi)/\(-(2 ^ 62)<=lo/\lo<2 ^ 62/\-(2 ^ 62)<=hi/\hi<2 ^ 62)/\(hi-lo).toNat<=sizeLine/\∀l,H l=none->Q (.ref l) (upd H l (.lst (zh1 lo (hi-lo).toNat)))):=by
 intro pins s σ H xs us Q I r h
 obtain ⟨p,lo,hi,rfl,hH,⟨b1,b2,b3,b4⟩,hz,q⟩:=h
 obtain ⟨u1,rfl,r1⟩:=r.one
 cases r1
 obtain ⟨t,u,v,e⟩:=I.hok p _ hH
 have hn:Builtin.Range.rangeSize lo hi 1=((hi-lo).toNat:Nat):=by rw [rangeSize_one];split <;> omega
 have hz2:(hi-lo).toNat<=2 ^ 24:=Nat.le_trans hz (by decide)
 refine PySem.call_list_range (n:=(hi-lo).toNat) (I.ok.hd hc) e (small_one b1 b2 b3 b4) (by rw [hn]) hz2 fun h' tk acc c' k he hi'=>?_
 obtain ⟨h1,h2⟩:=hi'
 refine ⟨.ref _,_,I.laid (o:=.lst (zh1 lo (hi-lo).toNat)) k (qlr _) ⟨by unfold zh1;rw [qlm,List.length_range];exact hz,acc.toList,c',zq1 (by simp [zh1,h1]) fun j x w e1 e2=>?_,he⟩,rfl,q _ I.fresh⟩
 rw [Array.getElem?_toList] at e2
 obtain ⟨t',rfl⟩:=h2 j w e2
 unfold zh1 at e1
 rw [qgm] at e1
 cases e3:(List.range (hi-lo).toNat)[j]? with
 | none=>rw [e3] at e1;cases e1
 | some i =>
  rw [e3] at e1
  cases e1
  have:=(qme e3).2
  simp at this
  subst this
  exact ⟨t',by rw [Int.mul_one]⟩
theorem ybn (ρ:List Addr) (H:Hp) (lo:Int) (n:Nat):RDs ρ H (zbz lo n) (zh1 lo n):=zqb ρ H lo n
theorem ybo:bootBuiltins "range" = some (.type "range"):=by decide +kernel
noncomputable def zm8 (r:Lo->Sto->Option ((Int × Nat) × Sto)):EM:=fun l S=>(r l S).bind fun p=>if p.1.2<=sizeLine then some (.ref p.2.length,p.2++[.lst (zbz p.1.1 p.1.2)]) else none
variable {a a2:Expr}{mA:AM}{p p0 pos pos':Pos}
theorem ybp (hc:X.calm=true) (hg:Gl X "list") (hm:X.mg "list" = none) (hgr:Gl X "range") (hmr:X.mg "range" = none) (ha:PA3 X [a] mA)
  (he:starEach [.Call (.Name "range" p0) [a] [] pos'] X.env=[(false,eval (.Call (.Name "range" p0) [a] [] pos') X.env)]:=by rfl)
  (he2:starEach [a] X.env=(false,eval a X.env) :: starEach [] X.env:=by rfl) :
  PE3 X (.Call (.Name "list" p) [.Call (.Name "range" p0) [a] [] pos'] [] pos) (zm8 (zcg mA)) :=
 PE.imp (zl8 (ybm hc) hg hm yau (zkk (zl8 ybl hgr hmr ybo ha (by decide) (by decide) he2 rfl) zl6 he) (by decide) (by decide) he rfl) fun σ H Q hx2_=>by
  obtain ⟨ρ,l,S,v,S',sim,ro,hm,p⟩:=hx2_
  obtain ⟨⟨⟨lo,n⟩,S1⟩,q1,hm⟩:=bnd hm
  obtain ⟨⟨xs,S2⟩,q2,q1⟩:=bnd q1
  dsimp only at q1 hm
  obtain ⟨hz,e⟩:=zbt hm
  cases e
  split at q1
  ·rename_i j
   obtain ⟨hb,e⟩:=zbt q1
   cases e
   refine ⟨ρ,l,S,[.int j],S1,sim,ro,q2,fun ρ1 H1 vs e1 s1 r1=>?_⟩
   obtain ⟨v,rfl,rv⟩:=r1.one
   cases rv
   refine ⟨j,rfl,fun r hr=>⟨r,0,j,rfl,zcz,⟨by decide,by decide,hb.1,hb.2⟩,by simpa using hz,?_⟩⟩
   have:=ziw (s1.laid (u:=.rng 0 j) hr) (ybn ρ1 _ 0 j.toNat) (p.ext (e1.trans (zc5 hr)))
   simpa using this
  ·cases q1
end
noncomputable def isT:D->Bool
 | .bl b=>b
 | _=>false
noncomputable def zep:D->Bool
 | .bl _=>true
 | _=>false
noncomputable def vT:V->Bool
 | .bl b=>b
 | _=>false
noncomputable def zk0:V->Bool
 | .bl _=>true
 | _=>false
noncomputable def zg5:FM
 | [.ref n],S=>(lstOf S n).bind fun xs=>if xs.all zep=true then some (.bl (xs.all isT),S) else none
 | _,_=>none
noncomputable def zi6:FM
 | [.ref n],S=>(lstOf S n).bind fun xs=>if xs.all zep=true then some (.bl (xs.any isT),S) else none
 | _,_=>none
theorem ybq {ρ:List Addr}{H:Hp}{x:D}{x':V}(r:RD ρ H x x'):vT x' = isT x/\zk0 x' = zep x:=by
 cases r <;> exact ⟨rfl,rfl⟩
theorem zm9 {ρ:List Addr}{H:Hp}:∀{xs:List D}{vs:List V},RDs ρ H xs vs->vs.all vT=xs.all isT/\vs.any vT=xs.any isT/\vs.all zk0=xs.all zep
 | _,_,.nil=>⟨rfl,rfl,rfl⟩
 | _,_,.cons r q=>by
  obtain ⟨h1,h2⟩:=ybq r
  obtain ⟨h3,h4,h5⟩:=zm9 q
  simp only [List.all_cons,List.any_cons,h1,h2,h3,h4,h5,and_self]
section
variable {X:Cx}
theorem ybr {ys:List V}(tr:Nat->Bool) (h:∀(i:Nat) y,ys[i]? = some y->tr i=vT y):(List.range ys.length).all tr=ys.all vT/\(List.range ys.length).any tr=ys.any vT:=by
 have e:(List.range ys.length).map tr=ys.map vT:=by
  apply List.ext_getElem?
  intro i
  rw [qgm,qgm]
  by_cases hi:i<ys.length
  ·rw [List.getElem?_range hi,qge hi]
   simp [h i _ (qge hi)]
  ·rw [List.getElem?_eq_none_iff.mpr (by simpa using hi),List.getElem?_eq_none_iff.mpr (by simpa using hi)];rfl
 have a1:(List.range ys.length).all tr=((List.range ys.length).map tr).all id:=by rw [List.all_map];rfl
 have a2:ys.all vT=(ys.map vT).all id:=by rw [List.all_map];rfl
 have a3:(List.range ys.length).any tr=((List.range ys.length).map tr).any id:=by rw [List.any_map];rfl
 have a4:ys.any vT=(ys.map vT).any id:=by rw [List.any_map];rfl
 exact ⟨by rw [a1,a2,e],by rw [a3,a4,e]⟩
noncomputable def zk1 (K:QFg) (f:List V->Bool):List V->Hp->VK->Prop:=fun xs H Q=>∃p ys,xs=[.ref p]/\SqL K H p ys/\ys.all zk0=true/\Q (.bl (f ys)) H
theorem zq2 {pins:List (Addr × Obj)}{s:Shared}{σ:St}{H:Hp}{p:Addr}{ys:List V}{E:Value->Shared->Prop}{R:Bool->Bool->Shared->Prop}(hc:X.calm=true) (I:Inv X pins σ H s) (hq:SqL X.K H p ys) (hb:ys.all zk0=true)
  (h:∀s',Inv X pins σ H s'->R (ys.all vT) (ys.any vT) s') :
  wpAny (model X.prog X.w) X.A.in1 (pyIter (.ref p)) (fun it s₂=>∃I fp wr n P St tr,it=.ref I/\Walks X.prog X.w X.A.in1 I fp wr n P St/\St 0 s₂.heap/\TruthOf X.prog X.w X.A.in1 P tr /\
   ∀h' tk,(∀b o,b ∉ wr->s₂.heap.get? b=some o->h'.get? b=some o)->R ((List.range n).all tr) ((List.range n).any tr) { s₂ with heap:=h',toks:=tk }) E s:=by
 obtain ⟨its,rv,pl,hz⟩:=I.list hq
 refine wpAny_pyIter_list pl.isList ?_
 have hne:p≠s.heap.objs.size:=by
  obtain ⟨o,ho,_⟩:=pl.isList
  exact Nat.ne_of_lt (Heap.lt_size ho)
 have I1:Inv X pins σ H { s with heap:=s.heap.push { cls:=.type "list_iterator",data:=.fields #[.ref p,rawInt 0] } }:=I.kept (t':=s.toks) fun b o e=>qps _ e
 have fp:=I.fpOk (qlr s.heap.objs.size) I.fresh
 refine ⟨_,_,_,its.toArray.size,_,_,fun i=>match its[i]? with|some (.bool b)=>b|_=>false,rfl,Walks.list (A:=X.A.in1) (I.ok.hd hc) s.heap.objs.size p hne its.toArray,?_,?_,?_⟩
 ·obtain ⟨o,ho,hc',n,hd⟩:=pl.isList
  exact ⟨⟨_,Heap.get?_push_size _ rfl,rfl,rfl⟩,⟨o,qps _ ho,hc',n,hd⟩⟩
 ·intro i v s' Q E' hP hQ
  have e1:its[i]? = some v:=by simpa using hP
  have hl:=rv.length
  have hi:i<ys.length:=by rw [hl];exact (qme e1).1
  obtain ⟨u,hu,ru⟩:=rv.get (qge hi)
  rw [e1] at hu;cases hu
  have hb2:=List.all_eq_true.mp hb _ (List.getElem_mem hi)
  dsimp only at hQ
  rw [e1] at hQ
  revert ru hb2
  generalize ys[i]=y
  intro ru hb2
  cases y with
  | bl b=>cases ru;exact wpAny_truthy_bool hQ
  | _=>exact absurd (show false=true from hb2) Bool.false_ne_true
 ·intro h' tk k
  have hs:its.toArray.size=ys.length:=by rw [List.size_toArray,rv.length]
  obtain ⟨a1,a2⟩:=ybr (ys:=ys) (fun i=>match its[i]? with|some (.bool b)=>b|_=>false) (fun i y hy=>by
   obtain ⟨u,hu,ru⟩:=rv.get hy
   have hb2:=List.all_eq_true.mp hb _ (qmg hy)
   rw [hu]
   cases y with
   | bl b=>cases ru;rfl
   | _=>exact absurd (show false=true from hb2) Bool.false_ne_true)
  rw [hs,a1,a2]
  exact h _ (I1.turned (t':=tk) (fun b o hb' e=>k b o (by simpa using hb') e) fp.1 fp.2.1 fp.2.2.2.1 fp.2.2.2.2.1 fp.2.2.2.2.2)
theorem ybs (hc:X.calm=true):CallR X (.builtin "all") (zk1 X.K fun ys=>ys.all vT):=by
 intro pins s σ H xs us Q I r h
 obtain ⟨p,ys,rfl,hq,hb,q⟩:=h
 obtain ⟨u1,rfl,r1⟩:=r.one
 cases r1
 exact PySem.call_all_walk (zq2 (R:=fun a _ s'=>EP X pins σ Q (.bool a) s') hc I hq hb fun s' I'=>⟨.bl _,H,I',rfl,q⟩)
theorem ybt (hc:X.calm=true):CallR X (.builtin "any") (zk1 X.K fun ys=>ys.any vT):=by
 intro pins s σ H xs us Q I r h
 obtain ⟨p,ys,rfl,hq,hb,q⟩:=h
 obtain ⟨u1,rfl,r1⟩:=r.one
 cases r1
 exact PySem.call_any_walk (zq2 (R:=fun _ a s'=>EP X pins σ Q (.bool a) s') hc I hq hb fun s' I'=>⟨.bl _,H,I',rfl,q⟩)
theorem ybu {K:QFg}:Fn3 K zg5 (zk1 K fun ys=>ys.all vT):=by
 intro ρ S H xs vs v S' Q sim r h p
 unfold zg5 at h
 split at h
 ·obtain ⟨ys,h1,h⟩:=bnd h
  obtain ⟨hb,e⟩:=zbt h
  cases e
  obtain ⟨w,rfl,rw'⟩:=r.one
  obtain ⟨a,us,ha,sq,r2⟩:=sim.lstOf h1
  obtain ⟨t1,t2,t3⟩:=zm9 r2
  cases rw' with
  | ref hn =>
   rw [ha] at hn;cases hn
   exact ⟨_,us,rfl,sq,by rw [t3];exact hb,by dsimp only;rw [t1];exact p ρ H _ (Ext.refl ..) sim (.bl _)⟩
 ·cases h
theorem ybv {K:QFg}:Fn3 K zi6 (zk1 K fun ys=>ys.any vT):=by
 intro ρ S H xs vs v S' Q sim r h p
 unfold zi6 at h
 split at h
 ·obtain ⟨ys,h1,h⟩:=bnd h
  obtain ⟨hb,e⟩:=zbt h
  cases e
  obtain ⟨w,rfl,rw'⟩:=r.one
  obtain ⟨a,us,ha,sq,r2⟩:=sim.lstOf h1
  obtain ⟨t1,t2,t3⟩:=zm9 r2
  cases rw' with
  | ref hn =>
   rw [ha] at hn;cases hn
   exact ⟨_,us,rfl,sq,by rw [t3];exact hb,by dsimp only;rw [t2];exact p ρ H _ (Ext.refl ..) sim (.bl _)⟩
 ·cases h
theorem ybw:bootBuiltins "all" = some (.builtin "all"):=by decide +kernel
theorem ybx:bootBuiltins "any" = some (.builtin "any"):=by decide +kernel
variable {a:Expr}{es:List Expr}{mA:AM}{p pos:Pos}
theorem zna (hc:X.calm=true) (hg:Gl X "all") (hm:X.mg "all" = none) (ha:PA3 X (a :: es) mA) (he:starEach (a :: es) X.env=(false,eval a X.env) :: starEach es X.env:=by rfl) (hpl:(backTo pos (starEach es X.env)).any (·.1)=false:=by rfl):PE3 X (.Call (.Name "all" p) (a :: es) [] pos) (zag zg5 mA) :=
 zgg (ybs hc) ybu hg hm ybw ha (by decide) (by decide) he hpl
theorem yby (hc:X.calm=true) (hg:Gl X "any") (hm:X.mg "any" = none) (ha:PA3 X (a :: es) mA) (he:starEach (a :: es) X.env=(false,eval a X.env) :: starEach es X.env:=by rfl) (hpl:(backTo pos (starEach es X.env)).any (·.1)=false:=by rfl):PE3 X (.Call (.Name "any" p) (a :: es) [] pos) (zag zi6 mA) :=
 zgg (ybt hc) ybv hg hm ybx ha (by decide) (by decide) he hpl
end
theorem ybz {X:Cx}{pins:List (Addr × Obj)}{σ:St}{H:Hp}{s:Shared}(I:Inv X pins σ H s):sysModules<s.heap.objs.size:=by
 have h:mainGlobals<s.heap.objs.size:=(I.mod.glob.keeps I.bk).lt
 exact Nat.lt_trans (by decide) h
section
variable {X:Cx}{pos:Pos}
theorem yb0:PE X (.Dict [] [] pos) (fun _ H Q=>∀p,H p=none->Q (.ref p) (upd H p (.dK []))):=fun pins s σ H Q I h =>
 wpAny_Dict_empty ⟨.ref s.heap.objs.size,_,I.laid (a:=s.heap.objs.size) (o:=.dK []) (t':=s.toks) (fun _ _ q=>qps _ q) (qlr _)
  ⟨Nat.zero_le _,beq_eq_false_iff_ne.mpr (Ne.symm (Nat.ne_of_lt (ybz I))),[],.nil,Heap.DictOf.new s.heap⟩,rfl,h _ I.fresh⟩
noncomputable def zk2:EM:=fun _ S=>some (.ref S.length,S++[.dct []])
theorem zq3:PE3 X (.Dict [] [] pos) zk2:=PE.imp yb0 fun σ H Q hx1_=>by
 obtain ⟨ρ,l,S,v,S',sim,ro,hm,p⟩:=hx1_
 cases hm
 intro a ha
 exact p (ρ++[a]) _ _ (zkq ha) (sim.pushG ha ⟨[],zcz,.nil⟩) (.ref (by rw [←sim.len];exact zbx ρ a))
end
section
variable {X:Cx}{a b:Expr}{ma mb:EM}{pos:Pos}{k:Nat}
end
section
variable {X:Cx}{pins:List (Addr × Obj)}{σ:St}{H:Hp}{s:Shared}{ρ:List Addr}{S:Sto}
end
section
variable {X:Cx}{a:Expr}{es:List Expr}{mA:AM}{pos p:Pos}
end
section
variable {prog:Program}{w:World}{A:Around}{E:Value->Shared->Prop}{s:Shared}
theorem yb1 {b t:Addr}{n:Nat}{vs:Array Value}{u:Value}{Q:Value->Shared->Prop}(hb:s.heap.IsTupleIter b t n) (ht:s.heap.IsTuple t vs) (hu:vs[n]? = some u)
  (q:∀h1,h1.IsTupleIter b t (n+1)->Heap.SameBut b s.heap h1->Q u { s with heap:=h1 }):wpAny (model prog w) A (Builtin.SmallTypes.nextOf (.ref b)) Q E s:=by
 obtain ⟨ob,gb,cb,db⟩:=id hb
 obtain ⟨ot,gt,_,nt,dt⟩:=ht
 unfold Builtin.SmallTypes.nextOf
 refine wpAny_bind (wpAny_callSpecial?_slot (name:=Str.ofString "__next__") hb.typeIs F.slot_tuple_iterator_next (wpAny_call_entry F.slot_tuple_iterator_next hb.typeIs F.entry_tuple_iterator_next ?_ (F.args_tuple_iterator_next_1 _)))
 show wpAny _ _ (field (.ref b) 0 >>= _) _ _ s
 refine wpAny_bind (wpAny_field gb db (x:=.ref t) rfl ?_)
 show wpAny _ _ (if (Value.ref t == Value.none)=true then _ else _) _ _ s
 rw [if_neg (by intro z;cases z)]
 show wpAny _ _ (field (.ref b) 1 >>= _) _ _ s
 refine wpAny_bind (wpAny_field gb db (x:=.int n 0) rfl ?_)
 show wpAny _ _ (seqItems? (.ref t) >>= _) _ _ s
 refine wpAny_bind (wpAny_seqItems gt dt ?_)
 simp only [Int.toNat_natCast,hu]
 refine wpAny_bind (wpAny_setField gb db (by simp) (wpAny_pure ⟨u,rfl,wpAny_pure (q _ ⟨_,Heap.get?_update_self _ gb (Obj.isFreed_of_fields (Obj.data_mapFields db _)),(Obj.cls_mapFields ..).trans cb,by rw [Obj.data_mapFields db];simp [rawInt]⟩ (Heap.SameBut.update ..))⟩))
theorem znb {b t:Addr}{n:Nat}{vs:Array Value}{Q:Value->Shared->Prop}(hA:A.handled=none) (hb:s.heap.IsTupleIter b t n) (ht:s.heap.IsTuple t vs) (hu:vs[n]? = none)
  (q:∀h1 x,Heap.ExtBut b s.heap h1->(∃o,h1.get? x=some o/\o.cls=.type "StopIteration")->E (.ref x) { s with heap:=h1 }):wpAny (model prog w) A (Builtin.SmallTypes.nextOf (.ref b)) Q E s:=by
 obtain ⟨ob,gb,cb,db⟩:=id hb
 obtain ⟨ot,gt,_,nt,dt⟩:=ht
 unfold Builtin.SmallTypes.nextOf
 refine wpAny_bind (wpAny_callSpecial?_slot (name:=Str.ofString "__next__") hb.typeIs F.slot_tuple_iterator_next (wpAny_call_entry F.slot_tuple_iterator_next hb.typeIs F.entry_tuple_iterator_next ?_ (F.args_tuple_iterator_next_1 _)))
 show wpAny _ _ (field (.ref b) 0 >>= _) _ _ s
 refine wpAny_bind (wpAny_field gb db (x:=.ref t) rfl ?_)
 show wpAny _ _ (if (Value.ref t == Value.none)=true then _ else _) _ _ s
 rw [if_neg (by intro z;cases z)]
 show wpAny _ _ (field (.ref b) 1 >>= _) _ _ s
 refine wpAny_bind (wpAny_field gb db (x:=.int n 0) rfl ?_)
 show wpAny _ _ (seqItems? (.ref t) >>= _) _ _ s
 refine wpAny_bind (wpAny_seqItems gt dt ?_)
 simp only [Int.toNat_natCast,hu]
 refine wpAny_bind (wpAny_rule (wpAny_bind (wpAny_setField gb db (by simp) ?_)))
 show wpAny _ _ (newExc (.type "StopIteration") [] >>= _) _ _ _
 refine wpAny_bind ?_
 simp only [newExc,newTuple]
 refine wpAny_bind (wpAny_newObj_type ?_ (by size_fits))
 refine wpAny_bind (m:=firstArgMember _ _) (wpAny_of_eq (a:=Value.none) (by first|rfl|(simp only [firstArgMember];rfl)) ?_)
 refine wpAny_newObj_type ?_ (by size_fits)
 simp only [raiseNew]
 refine wpAny_bind (wpAny_handled ?_)
 first|rw [show A.in1.handled=none from hA]|rw [hA]
 refine wpAny_bind (wpAny_pure (wpAny_throw ?_))
 exact q _ _ (((Heap.SameBut.update ..).extBut.push _).push _) ⟨_,Heap.get?_push_size _ rfl,rfl⟩
end
theorem zq4 {prog:Program}{w:World}{A:Around}(hA:A.handled=none) (b t:Addr) (hne:t≠b) (vs:Array Value) :
  Draws prog w A b [b,t] vs.size (fun i v=>vs[i]? = some v) (fun i h=>h.IsTupleIter b t i/\h.IsTuple t vs) where
 live:=fun _ _ st=>let ⟨o,ho,_⟩:=st.1;⟨o,ho⟩
 frame:=fun _ _ _ st hk=>⟨let ⟨o,ho,r⟩:=st.1;⟨o,hk b (by simp) o ho,r⟩,let ⟨o,ho,r⟩:=st.2;⟨o,hk t (by simp) o ho,r⟩⟩
 item:=fun i s Q E hi st hQ=>yb1 st.1 st.2 (u:=vs[i]) (by simp [hi]) fun h1 hb1 hs1=>hQ _ h1 s.toks (by simp [hi]) ⟨hb1,st.2.extBut hs1.extBut hne⟩ hs1
 done:=fun s Q E st hE=>znb hA st.1 st.2 (by simp) hE
theorem Inv.dealt {X:Cx}{pins:List (Addr × Obj)}{σ:L2.St}{H:Hp}{s:Shared}{h1:Heap}{t1:Nat}{ch:List Addr}{xs:List V}{us:List Value}(I:Inv X pins σ H s) (hf:∀b∈ch,zdm X pins H b)
  (k:∀b o,b ∉ ch->s.heap.get? b=some o->h1.get? b=some o) (g:IsTD h1 s.heap.objs.size us.toArray) (r:Vals xs us) (hz:xs.length<=sizeLine) :
  Inv X pins σ (upd H s.heap.objs.size (.tup xs)) { s with heap:=h1,toks:=t1 }:=by
 have hn:H s.heap.objs.size=none:=I.hok.fresh (qlr _)
 have ne:∀b o,s.heap.get? b=some o->b≠s.heap.objs.size:=fun b o e=>Nat.ne_of_lt (Heap.lt_size e)
 have nf:∀b u,H b=some u->b ∉ ch:=fun b u e z=>by rw [(hf b z).1] at e;cases e
 refine I.step (g':=s.gens) (d':=s.drawn) (ch:=ch) (fun b hb=>?_) (fun b o _ _ hc e _=>k b o hc e) (fun b o _ _ hc e _=>⟨o.slots,k b o hc e⟩) (fun b o _ e n=>by rw [za7 (ne b o e)];exact n)
  (fun b o hc e=>⟨o,k b o hc e⟩) (fun b ys e=>by rw [za7 (zb9 e hn)];exact e) (fun b o u e=>by rw [za7 (zb9 e hn)];exact e) (fun b ps e=>⟨#[],by rw [za7 (zb9 e hn),e];simp⟩) (fun m hm=>?_) (fun b u e=>?_) I.bare
 ·obtain ⟨_,q1,_,q3,q4,q5⟩:=hf b hb
  exact ⟨q3,q1,q4,q5⟩
 ·obtain ⟨o,es,ep,ho,q⟩:=hm
  exact ⟨o,es,ep,k _ o (fun z=>(hf _ z).2.1 rfl) ho,q⟩
 ·by_cases hb:b=s.heap.objs.size
  ·subst hb;rw [zcz] at e;cases e;exact ⟨hz,us,r,g⟩
  ·rw [za7 hb] at e
   refine (I.hok b u e).stay (fun c v hc q=>k c v ?_ q) (fun c q=>by rw [za7 (zb9 q hn)];exact q) fun c xs q=>by rw [za7 (zb9 q hn)];exact q
   rcases hc with z|z
   ·rw [z];exact nf b u e
   ·exact nf c _ z
noncomputable def Itn (J:It):It:=⟨J.go,fun i H x H1=>∃y p,J.yld i H y H/\H p=none/\x=.ref p/\H1=upd H p (.tup [.int i,y]),J.stop⟩
section
variable {P:Program}{w:World}{K:QFg}{elts:List Expr}{z:Nat}{tp:Pos}
theorem znc {e b:Addr}{T:Heap->Prop}(hT:∀h,T h->∃o,h.get? b=some o/\∀v,o.data≠.cell v) (i:Nat) (h:Heap) (st:(∃old,IsEnum h e b i old)/\T h):∀c∈[e,b],∃o,h.get? c=some o/\∀v,o.data≠.cell v:=fun c hc=>by
 have hc:c=e∨c=b:=by simpa using hc
 rcases hc with rfl|rfl
 ·obtain ⟨⟨old,q⟩,_⟩:=st
  exact ⟨_,q,fun v z=>by
   have z:Data.fields _=Data.cell v:=z
   cases z⟩
 ·exact hT h st.2
theorem zk3 {h:Heap}{a b:Addr}{c d:Value}{p q:Obj->Prop}(ha:∃o,h.get? a=some o/\o.cls=c/\p o) (hb:∃o,h.get? b=some o/\o.cls=d/\q o) (n:c≠d):a≠b:=by
 rintro rfl
 obtain ⟨o,e,c1,_⟩:=ha
 obtain ⟨o2,e2,c2,_⟩:=hb
 rw [e] at e2;cases e2
 exact n (c1.symm.trans c2)
theorem znd {X:Cx}{pins:List (Addr × Obj)}{σ:L2.St}{H:Hp}{s:Shared}{e b:Addr}{i tk:Nat}{x:V}{u:Value}{h1 h2:Heap}{J:It}{T:Heap->Prop}(I:Inv X pins σ H s) (hf:∀c∈[e,b],zdm X pins H c) (ru:RelV x u)
  (le:e<s.heap.objs.size) (lb:b<s.heap.objs.size) (hk:∀c o,c≠e->c≠b->s.heap.get? c=some o->h1.get? c=some o) (hT:h1.get? s.heap.objs.size=some { cls:=.type "tuple",data:=.seq #[.int i tk,u] })
  (he2:IsEnum h2 e b ((i:Int)+1) u) (hs2:Heap.SameBut e h1 h2) (t2:T h2) (y:J.yld i H x H) :
  ∃x1 H1,Inv X pins σ H1 { s with heap:=h2,toks:=tk+1 }/\RelV x1 (.ref s.heap.objs.size)/\(Itn J).yld i H x1 H1/\((∃old,IsEnum h2 e b ((i+1:Nat):Int) old)/\T h2)/\∀c∈[e,b],H1 c=none:=by
 have hn:H s.heap.objs.size=none:=I.hok.fresh (qlr _)
 refine ⟨.ref s.heap.objs.size,upd H s.heap.objs.size (.tup [.int i,x]),?_,rfl,⟨x,s.heap.objs.size,y,hn,rfl,rfl⟩,⟨⟨u,by simpa using he2⟩,t2⟩,fun c hc=>?_⟩
 ·refine Inv.dealt (us:=[.int i tk,u]) I hf (fun c o hc q=>?_) ⟨_,(hs2.2 _ (Nat.ne_of_gt le)).trans hT,rfl,_,rfl,rfl⟩ (.cons ⟨tk,rfl⟩ (.cons ru .nil)) (by show 2<=sizeLine;decide)
  have h3:c≠e/\c≠b:=⟨fun z=>hc (by simp [z]),fun z=>hc (by simp [z])⟩
  exact (hs2.2 c h3.1).trans (hk c o h3.1 h3.2 q)
 ·have:c≠s.heap.objs.size:=by
   have hc:c=e∨c=b:=by simpa using hc
   rcases hc with rfl|rfl
   ·exact Nat.ne_of_lt le
   ·exact Nat.ne_of_lt lb
  rw [za7 this];exact (hf c hc).1
theorem yb2 (a e b:Addr) (heb:e≠b):Turn P w K (.Tuple elts z tp) (Itn (Itl K a)) [e,b] e (fun i h=>(∃old,IsEnum h e b i old)/\h.IsListIter b a i) where
 mem:=by simp
 obj:=fun i h st=>znc (T:=fun h=>h.IsListIter b a i) (fun h ⟨o,q,c,d⟩=>⟨o,q,fun v z=>by rw [d] at z;cases z⟩) i h st
 keep:=fun i h h1 st k=>⟨let ⟨old,q⟩:=st.1;⟨old,k e (by simp) _ q⟩,st.2.at fun o q=>k b (by simp) o q⟩
 item:=by
  intro X hP hw hK hc i pins s σ H E I hf st hg
  subst hP hw hK
  obtain ⟨xs,x,hq,hx⟩:=hg
  obtain ⟨its,rv,p,hz⟩:=I.list hq
  obtain ⟨u,hu,ru⟩:=rv.get hx
  obtain ⟨⟨old,he⟩,hb⟩:=st
  have nab:a≠b:=zk3 p.isList hb (by decide)
  have nae:a≠e:=zk3 (d:=.type "enumerate") (q:=fun _=>True) p.isList ⟨_,he,rfl,trivial⟩ (by decide)
  have hlt:i<its.toArray.size:=by simpa using (qme hu).1
  refine wpAny_pyNext_enum_itemD (Draws.list (A:=X.A.in1) (I.ok.hd hc) b a nab its.toArray) he ⟨hb,p.isList⟩ hlt heb (by simp [heb,nae.symm]) fun x1 h1 tk hP ho hs1 hT hsz hk=>?_
  have hx1:x1=u:=by
   have:its.toArray[i]? = some u:=by simpa using hu
   rw [this] at hP;exact (qoi hP).symm
  subst hx1
  obtain ⟨ob,gb,_⟩:=id hb
  refine ⟨_,rfl,wpAny_letOwnedTupleGo_enum ho fun h2 he2 hs2=>?_⟩
  replace hs2:Heap.SameBut e h1 h2:=hs2
  exact znd (J:=Itl X.K a) (T:=fun h=>h.IsListIter b a (i+1)) I hf ru (Heap.lt_size he) (Heap.lt_size gb) hk hT he2 hs2 (hs1.1.at fun o q=>(hs2.2 b heb.symm).trans q) ⟨rfl,fun ys hy=>by rw [I.list_inj hy hq];exact hx⟩
 done:=by
  intro X hP hw hK hc i pins s σ H E I hf st hg
  subst hP hw hK
  obtain ⟨xs,hq,hx⟩:=hg
  obtain ⟨its,rv,p,hz⟩:=I.list hq
  obtain ⟨⟨old,he⟩,hb⟩:=st
  obtain ⟨f0,f1,f2,f3,f4,f5⟩:=hf b (by simp)
  have hl:=rv.length
  exact wpAny_pyNext_enum_end (I.ok.hd hc) he hb p.isList (by simp;omega) fun h1 eb=>⟨rfl,I.turned (t':=s.toks) (fun c o hb q=>eb c o hb q) f0 f1 f3 f4 f5⟩
 self:=fun A i s Q E st h=>let ⟨old,q⟩:=st.1;wpAny_pyIter_enum q h
theorem yb3 {A:Around}{E:Value->Shared->Prop}{s:Shared}{e b t:Addr}{n:Nat}{vs:Array Value}{old:Value}{Q:Option Value->Shared->Prop}(hA:A.handled=none) (he:IsEnum s.heap e b n old) (hb:s.heap.IsTupleIter b t n)
  (ht:s.heap.IsTuple t vs) (hu:vs[n]? = none) (q:∀h1,Heap.ExtBut b s.heap h1->Q none { s with heap:=h1 }):wpAny (model P w) A (pyNext (.ref e)) Q E s:=by
 have ty:s.TypeIs (.ref e) "enumerate":=⟨_,he,rfl⟩
 unfold pyNext
 refine wpAny_bind (wpAny_attempt (wpAny_callSpecial?_slot (name:=Str.ofString "__next__") ty F.slot_enumerate_next (wpAny_call_entry F.slot_enumerate_next ty F.entry_enumerate_next ?_ (F.args_enumerate_next_1 _))))
 show wpAny _ _ (field (.ref e) 2 >>= _) _ _ _
 refine wpAny_bind (wpAny_field he rfl (x:=.ref b) rfl ?_)
 refine wpAny_bind (znb hA hb ht hu fun h1 x q1 ⟨o,g,c⟩=>?_)
 exact wpAny_bind (wpAny_isInstance (T:="StopIteration") (b:=true) ⟨o,g,c⟩ isSubtype_stop (wpAny_pure (q _ q1)))
theorem yb4 (a e b:Addr) (heb:e≠b):Turn P w K (.Tuple elts z tp) (Itn (Itt K a)) [e,b] e (fun i h=>(∃old,IsEnum h e b i old)/\h.IsTupleIter b a i) where
 mem:=by simp
 obj:=fun i h st=>znc (T:=fun h=>h.IsTupleIter b a i) (fun h ⟨o,q,c,d⟩=>⟨o,q,fun v z=>by rw [d] at z;cases z⟩) i h st
 keep:=fun i h h1 st k=>⟨let ⟨old,q⟩:=st.1;⟨old,k e (by simp) _ q⟩,let ⟨o,q,r⟩:=st.2;⟨o,k b (by simp) o q,r⟩⟩
 item:=by
  intro X hP hw hK hc i pins s σ H E I hf st hg
  subst hP hw hK
  obtain ⟨xs,x,hq,hx⟩:=hg
  obtain ⟨its,rv,p,hz⟩:=I.tuple hq
  obtain ⟨u,hu,ru⟩:=rv.get hx
  obtain ⟨⟨old,he⟩,hb⟩:=st
  have p:s.heap.IsTuple a its.toArray:=p
  have nab:a≠b:=zk3 p hb (by decide)
  have nae:a≠e:=zk3 (d:=.type "enumerate") (q:=fun _=>True) p ⟨_,he,rfl,trivial⟩ (by decide)
  have hlt:i<its.toArray.size:=by simpa using (qme hu).1
  refine wpAny_pyNext_enum_itemD (zq4 (A:=X.A.in1) (I.ok.hd hc) b a nab its.toArray) he ⟨hb,p⟩ hlt heb (by simp [heb,nae.symm]) fun x1 h1 tk hP ho hs1 hT hsz hk=>?_
  have hx1:x1=u:=by
   have:its.toArray[i]? = some u:=by simpa using hu
   rw [this] at hP;exact (qoi hP).symm
  subst hx1
  obtain ⟨ob,gb,_⟩:=id hb
  refine ⟨_,rfl,wpAny_letOwnedTupleGo_enum ho fun h2 he2 hs2=>?_⟩
  replace hs2:Heap.SameBut e h1 h2:=hs2
  exact znd (J:=Itt X.K a) (T:=fun h=>h.IsTupleIter b a (i+1)) I hf ru (Heap.lt_size he) (Heap.lt_size gb) hk hT he2 hs2 (hs1.1.extBut hs2.extBut heb.symm) ⟨rfl,fun ys hy=>by rw [I.tuple_inj hy hq];exact hx⟩
 done:=by
  intro X hP hw hK hc i pins s σ H E I hf st hg
  subst hP hw hK
  obtain ⟨xs,hq,hx⟩:=hg
  obtain ⟨its,rv,p,hz⟩:=I.tuple hq
  obtain ⟨⟨old,he⟩,hb⟩:=st
  obtain ⟨f0,f1,f2,f3,f4,f5⟩:=hf b (by simp)
  have hl:=rv.length
  exact yb3 (I.ok.hd hc) he hb p (by simp;omega) fun h1 eb=>⟨rfl,I.turned (t':=s.toks) (fun c o hb q=>eb c o hb q) f0 f1 f3 f4 f5⟩
 self:=fun A i s Q E st h=>let ⟨old,q⟩:=st.1;wpAny_pyIter_enum q h
end
open AutoSeq1
theorem yb5 (t:Addr) (vs:Array Value) (m:Nat) (dc:Option Addr) (sl:Array (Option Value)) :
  Meets (Builtin.«enumerate.__new__» ⟨[.type "enumerate",.ref t],[]⟩) (fun _ R s=>s.heap.get? t=some { cls:=.type "tuple",dict:=dc,data:=.seq vs m,slots:=sl } /\
   R (.ok (.ret (.ref (s.heap.push { cls:=.type "tuple_iterator",data:=.fields #[.ref t,.int 0 0] }).objs.size)))
    { s with heap:=(s.heap.push { cls:=.type "tuple_iterator",data:=.fields #[.ref t,.int 0 0] }).push { cls:=.type "enumerate",data:=.fields #[.none,.bool false,.ref s.heap.objs.size,rawInt 0,.none,.none] } }) :=
 .of_wp fun prog w A R s hx1_=>by
  obtain ⟨ht,h⟩:=hx1_
  have sub1:=sub_enumerate
  obtain ⟨hp,g,d,tk,os⟩:=s
  have tt:Heap.IsTuple (Shared.heap ⟨hp,g,d,tk,os⟩) t vs:=⟨_,ht,rfl,m,rfl⟩
  wp_walk using wpAny_loadPart' ht
  refine wpAny_stack_any fun _=>wpAny_pure ?_
  split
  ·rename_i c _ _ _ _ _
   cases (c == Value.type "enumerate") <;> (wp_walk using wpAny_loadPart' ht,wpAny_pyIter_tuple tt;exact ⟨_,rfl,h⟩)
  ·wp_walk using wpAny_loadPart' ht,wpAny_pyIter_tuple tt
   exact ⟨_,rfl,h⟩
section
variable {prog:Program}{w:World}{A:Around}{E:Value->Shared->Prop}{s:Shared}
theorem yb6 {t:Addr}{vs:Array Value}{Q:Value->Shared->Prop}(ht:s.heap.IsTuple t vs)
  (q:∀h1,IsEnum h1 (s.heap.objs.size+1) s.heap.objs.size 0 .none->h1.IsTupleIter s.heap.objs.size t 0->(∀b o,s.heap.get? b=some o->h1.get? b=some o)->Q (.ref (s.heap.objs.size+1)) { s with heap:=h1 }) :
  wpAny (model prog w) A (call (.type "enumerate") [.ref t]) Q E s:=by
 obtain ⟨⟨c,dc,dt,sl⟩,gt,hc,m,hd⟩:=ht
 replace hc:c=.type "tuple":=hc
 replace hd:dt=.seq vs m:=hd
 subst hc hd
 refine callType_new F.called_enumerate (by decide) (F.typeCall_enumerate_1 _) (F.newCall_enumerate_1 _) (fun o=>F.args_object_init_2 o _) F.entry_enumerate_new (yb5 t vs m dc sl) ⟨gt,?_⟩
 have hz:(s.heap.push { cls:=.type "tuple_iterator",data:=.fields #[.ref t,.int 0 0] }).objs.size=s.heap.objs.size+1:=Heap.size_push ..
 show _/\_
 rw [hz]
 have he:IsEnum ((s.heap.push { cls:=.type "tuple_iterator",data:=.fields #[.ref t,.int 0 0] }).push { cls:=.type "enumerate",data:=.fields #[.none,.bool false,.ref s.heap.objs.size,rawInt 0,.none,.none] }) (s.heap.objs.size+1) s.heap.objs.size 0 .none:=by
  rw [←hz];exact Heap.get?_push_size _ rfl
 exact ⟨⟨_,he,rfl⟩,q _ he ⟨_,qps _ (Heap.get?_push_size _ rfl),rfl,rfl⟩ fun b o x=>qps _ (qps _ x)⟩
end
theorem zne:bootBuiltins "enumerate" = some (.type "enumerate"):=by decide +kernel
section
variable {X:Cx}{elts:List Expr}{z:Nat}{tp:Pos}
noncomputable def yb7 (K:QFg) (ta:TA):TI:=fun σ H R=>ta σ H fun vs H1=>∃a,vs=[.ref a]/\(∃xs,SqL K H1 a xs)/\R (Itn (Itl K a)) H1
noncomputable def yb8 (K:QFg) (ta:TA):TI:=fun σ H R=>ta σ H fun vs H1=>∃a,vs=[.ref a]/\(∃xs,SqT K H1 a xs)/\R (Itn (Itt K a)) H1
theorem zk4 {pins:List (Addr × Obj)}{σ:L2.St}{H:Hp}{s:Shared}{R:It->Hp->Prop}{E:Value->Shared->Prop}{J:It}{T:Nat->Heap->Prop}{h1:Heap}(I:Inv X pins σ H s) (tu:Turn X.prog X.w X.K (.Tuple elts z tp) J [s.heap.objs.size+1,s.heap.objs.size] (s.heap.objs.size+1) (fun i h=>(∃old,IsEnum h (s.heap.objs.size+1) s.heap.objs.size i old)/\T i h))
  (he:IsEnum h1 (s.heap.objs.size+1) s.heap.objs.size 0 .none) (t0:T 0 h1) (hk:∀b o,s.heap.get? b=some o->h1.get? b=some o) (q:R J H):wpAny (model X.prog X.w) X.A (pyIter (.ref (s.heap.objs.size+1))) (PIE X pins σ (.Tuple elts z tp) R) E { s with heap:=h1 }:=by
 refine wpAny_pyIter_enum (s:={ s with heap:=h1 }) he ⟨_,_,_,J,H,rfl,I.kept (t':=s.toks) hk,tu,⟨⟨_,he⟩,t0⟩,fun c hc=>?_,q⟩
 have:s.heap.objs.size<=c:=by
  have hc:c=s.heap.objs.size+1∨c=s.heap.objs.size:=by simpa using hc
  rcases hc with rfl|rfl
  ·exact Nat.le_succ _
  ·exact qlr _
 exact I.fpOk this (I.hok.fresh this)
theorem yb9 {a:Expr}{ta:TA}{p pos:Pos}(hg:Gl X "enumerate") (hm:X.mg "enumerate" = none) (ha:PA X [a] ta) (hs:starEach [a] X.env=[(false,eval a X.env)]:=by rfl):PI X (.Tuple elts z tp) (.Call (.Name "enumerate" p) [a] [] pos) (yb7 X.K ta):=by
 intro pins s σ H R I h
 refine Call_ (zga I hg hm zne (PyProof.Rows.callWith_type1 (thn (ha pos pins s σ H _ I h) fun us s1 ⟨vs,H1,I1,r1,q1⟩=>?_) hs rfl))
 obtain ⟨b,rfl,⟨xs,hq⟩,q⟩:=q1
 cases r1 with
 | cons r rr =>
  cases rr
  cases r
  obtain ⟨its,rv,pl,hz⟩:=I1.list hq
  exact call_enumerate_list pl.isList fun h1 he hb _ hk=>zk4 (T:=fun i h=>h.IsListIter s1.heap.objs.size b i) I1 (yb2 b _ _ (Nat.succ_ne_self _)) he hb hk q
theorem yca {a:Expr}{ta:TA}{p pos:Pos}(hg:Gl X "enumerate") (hm:X.mg "enumerate" = none) (ha:PA X [a] ta) (hs:starEach [a] X.env=[(false,eval a X.env)]:=by rfl):PI X (.Tuple elts z tp) (.Call (.Name "enumerate" p) [a] [] pos) (yb8 X.K ta):=by
 intro pins s σ H R I h
 refine Call_ (zga I hg hm zne (PyProof.Rows.callWith_type1 (thn (ha pos pins s σ H _ I h) fun us s1 ⟨vs,H1,I1,r1,q1⟩=>?_) hs rfl))
 obtain ⟨b,rfl,⟨xs,hq⟩,q⟩:=q1
 cases r1 with
 | cons r rr =>
  cases rr
  cases r
  obtain ⟨its,rv,pl,hz⟩:=I1.tuple hq
  exact yb6 (show s1.heap.IsTuple b its.toArray from pl) fun h1 he hb hk=>zk4 (T:=fun i h=>h.IsTupleIter s1.heap.objs.size b i) I1 (yb4 b _ _ (Nat.succ_ne_self _)) he hb hk q
end
noncomputable def ze4 (it:ItM) (g:GM) (b:SM):Nat->Nat->SM
 | 0,_,_,_=>none
 | k+1,i,l,S=>(it i S).bind fun o=>match o with
  | none=>some (.nx,l,S)
  | some x=>(g x l S).bind fun p=>(b p.1 p.2).bind fun q=>match q.1 with
   | .nx=>ze4 it g b k (i+1) q.2.1 q.2.2
   | .ct=>ze4 it g b k (i+1) q.2.1 q.2.2
   | .bk=>some (.nx,q.2)
   | .rt d=>some (.rt d,q.2)
noncomputable def zgj (im:IM) (g:GM) (b:SM):SM:=fun l S=>(im l S).bind fun p=>ze4 p.1 g b p.2.1 0 l p.2.2
noncomputable def zk5 (K:QFg) (ρ:List Addr) (H:Hp) (it:ItM) (J:It):Prop:=∀(i:Nat) ρ' S' H',Ext ρ H ρ' H'->Sim K ρ' S' H' ->
 (it i S' = some none->J.stop i H')/\∀x,it i S' = some (some x)->J.go i H'/\∀y H'',J.yld i H' y H''->Ext ρ' H' ρ' H''/\Sim K ρ' S' H''/\RD ρ' H'' x y
noncomputable def itN (it:ItM):ItM:=fun i S=>(it i S).map fun o=>o.map fun x=>.tup [.int i,x]
section
variable {K:QFg}
theorem znf {ρ:List Addr}{H:Hp}{it:ItM}{J:It}(h:zfv K ρ H it J):zk5 K ρ H (itN it) (Itn J):=by
 intro i ρ1 S1 H1 e s
 obtain ⟨h1,h2⟩:=h i ρ1 S1 H1 e s
 unfold itN
 refine ⟨fun q=>?_,fun x q=>?_⟩
 ·cases hi:it i S1 with
  | none=>rw [hi] at q;cases q
  | some o =>
   cases o with
   | none=>exact h1 hi
   | some x=>rw [hi] at q;cases q
 ·cases hi:it i S1 with
  | none=>rw [hi] at q;cases q
  | some o =>
   cases o with
   | none=>rw [hi] at q;cases q
   | some y =>
    rw [hi] at q;cases q
    obtain ⟨q1,q2⟩:=h2 y hi
    refine ⟨q1,fun v H2 ⟨y2,p,hy1,hp,e1,e2⟩=>?_⟩
    subst e1 e2
    obtain ⟨_,r⟩:=q2 y2 H1 hy1
    exact ⟨zc5 hp,s.laid hp,.tup zcz (.cons (.int _) (.cons (r.mono (zc5 hp)) .nil))⟩
theorem ycb {g:GM}{b:SM}{it:ItM}{J:It}{ρ:List Addr}{l:Lo}{S:Sto}{H:Hp}{σ:L2.St}{f:Fl}{l':Lo}{S':Sto}{E:Ends}{k:Nat}(ok:zk5 K ρ H it J)
  (sim:Sim K ρ S H) (ro:RO ρ H l σ) (hm:ze4 it g b k 0 l S=some (f,l',S')) (p:∀ρ' H' σ',Ext ρ H ρ' H'->Sim K ρ' S' H'->RO ρ' H' l' σ'->zge ρ' H' E σ' f) :
  ∃W:Nat->Nat->L2.St->Hp->Prop,(∃m,W 0 m σ H)/\∀i m σ H,W i m σ H ->
   (J.stop i H/\E.nx σ H)∨(J.go i H/\∃N:L2.St->Hp->Prop,(∀σ' H',N σ' H'->∃m',m' < m/\W (i+1) m' σ' H')/\∀x H',J.yld i H x H'->tg K g x σ H' fun σ2 H2=>ts K b { E with nx:=N,ct:=N,bk:=E.nx } σ2 H2):=by
 refine ⟨fun i m σ1 H1=>∃ρ1 l1 S1,Ext ρ H ρ1 H1/\Sim K ρ1 S1 H1/\RO ρ1 H1 l1 σ1/\ze4 it g b m i l1 S1=some (f,l',S'),⟨k,ρ,l,S,Ext.refl ..,sim,ro,hm⟩,?_⟩
 rintro i m σ1 H1 ⟨ρ1,l1,S1,e1,s1,ro1,hm1⟩
 cases m with
 | zero=>cases hm1
 | succ m =>
  unfold ze4 at hm1
  obtain ⟨o,hi,hm1⟩:=bnd hm1
  obtain ⟨k1,k2⟩:=ok i ρ1 S1 H1 e1 s1
  cases o with
  | none=>cases hm1;exact .inl ⟨k1 hi,p ρ1 H1 σ1 e1 s1 ro1⟩
  | some x =>
   obtain ⟨k3,k4⟩:=k2 x hi
   refine .inr ⟨k3,_,fun σ' H' h=>h,fun y H2 hyl=>?_⟩
   obtain ⟨x2,s2,r2⟩:=k4 y H2 hyl
   refine zmv (next:=ze4 it g b m (i+1)) s2 (ro1.mono x2) r2 hm1 (fun ρ' H' σ' e'=>p ρ' H' σ' ((e1.trans x2).trans e')) fun ρ3 H3 σ3 l3 S3 e3 s3 ro3 hm3=>?_
   exact ⟨m,Nat.lt_succ_self m,ρ3,l3,S3,(e1.trans x2).trans e3,s3,ro3,hm3⟩
end
section
variable {X:Cx}{elts:List Expr}{z:Nat}{tp:Pos}{a:Expr}{mA:AM}{g:GM}{b:SM}{body:List Stmt}{p0 pos' pos:Pos}
end
section
variable {prog:Program}{w:World}{A:Around}{E:Value->Shared->Prop}{s:Shared}
end
section
variable {X:Cx}{gs:GsM}{es:List Expr}{k n:Nat}{pos:Pos}
end
section
variable {X:Cx}{a:Expr}{ma:EM}{lo hi:Option Expr}{ml mh:OM}{p2 pos:Pos}
end
noncomputable abbrev zdj:=oI (fun i j=>decide (0<=j/\j<=1000000/\i.natAbs<2 ^ 64)) fun i j=>.int (i*2 ^ j.toNat)
noncomputable abbrev zq5:=oI (fun _ j=>decide (0<=j)) fun i j=>.int (i / 2 ^ j.toNat)
noncomputable abbrev zq6:=oI0 fun i j=>.int (Builtin.bitAnd i j)
section
variable {X:Cx}{a b:Expr}{ma mb:EM}{mA:AM}{es:List Expr}{pos p:Pos}
theorem ze5 (ha:PE3 X a ma) (hb:PE3 X b mb):PE3 X (.BinOp a .LShift b pos) (eOp zdj ma mb):=zfh zxt (zix (fun i j h=>by unfold zhq;exact of_decide_eq_true h) fun _ _ _ _=>.int _) ha hb
theorem ycc (ha:PE3 X a ma) (hb:PE3 X b mb):PE3 X (.BinOp a .RShift b pos) (eOp zq5 ma mb):=zfh zxu (zix (fun i j h=>of_decide_eq_true h) fun _ _ _ _=>.int _) ha hb
theorem ycd (ha:PE3 X a ma) (hb:PE3 X b mb):PE3 X (.BinOp a .BitAnd b pos) (eOp zq6 ma mb):=zfh zxv (zgt fun _ _ _ _=>.int _) ha hb
end
noncomputable def zng:D->D->Sto->Option (D × Sto)
 | .str z,.int i,S=>if z.length<=sizeLine then (atI z.cps.toList i).bind fun c=>some (.str ⟨#[c]⟩,S) else none
 | _,_,_=>none
noncomputable def za4:D->D->Sto->Option (D × Sto):=fun x y S=>match dIx x y S with|some v=>some v|none=>zng x y S
theorem yce {K:QFg}:Op3 K zng zma:=by
 intro ρ S H x y x' y' v S' Q sim rx ry h p
 unfold zng at h
 split at h
 ·cases rx;cases ry
  split at h
  ·rename_i hz
   obtain ⟨c,h1,h⟩:=bnd h
   cases h
   exact ⟨_,_,c,rfl,rfl,hz,h1,p ρ H _ (Ext.refl ..) sim (.str _)⟩
  ·cases h
 ·cases h
theorem ycf {K:QFg}:Op3 K za4 (rIx K):=by
 intro ρ S H x y x' y' v S' Q sim rx ry hm p
 unfold za4 at hm
 cases e:dIx x y S with
 | some w=>rw [e] at hm;cases hm;exact zz5 ρ S H x y x' y' _ _ Q sim rx ry e p
 | none=>rw [e] at hm;exact .inr (.inr (yce ρ S H x y x' y' _ _ Q sim rx ry hm p))
noncomputable def zbw:FM
 | [.str z],S=>if z.length<=sizeLine then some (.int z.length,S) else none
 | xs,S=>ziz xs S
noncomputable def zh2:FM
 | [.int i],S=>if i.natAbs.log2<1920 then some (.str (toString i),S) else none
 | [.str z],S=>none
 | _,_=>none
section
variable {X:Cx}{a b:Expr}{ma mb:EM}{mA:AM}{es:List Expr}{pos p:Pos}{K:QFg}
theorem zbf (ha:PE3 X a ma) (hb:PE3 X b mb) (hs:zo5 b:=by intro _ _;rfl):PE3 X (.Subscript a b pos) (eOp za4 ma mb):=PE.imp (zyz zy1 ha hb hs) (zht ycf)
theorem ycg:Fn3 K zbw (fun xs H Q=>(∃p ys,xs=[.ref p]/\(SqL K H p ys∨SqT K H p ys)/\Q (.int ys.length) H)∨∃z,xs=[.str z]/\z.length<=sizeLine/\Q (.int z.length) H):=by
 intro ρ S H xs vs v S' Q sim r h p
 unfold zbw at h
 split at h
 ·obtain ⟨hz,e⟩:=zbt h
  cases e
  obtain ⟨w,rfl,rw'⟩:=r.one
  cases rw'
  exact .inr ⟨_,rfl,hz,p ρ H _ (Ext.refl ..) sim (.int _)⟩
 ·exact .inl (yab ρ S H _ vs v S' Q sim r h p)
theorem zcw (hg:Gl X "len") (hm:X.mg "len" = none) (ha:PA3 X (a :: es) mA) (he:starEach (a :: es) X.env=(false,eval a X.env) :: starEach es X.env:=by rfl) (hpl:(backTo pos (starEach es X.env)).any (·.1)=false:=by rfl):PE3 X (.Call (.Name "len" p) (a :: es) [] pos) (zag zbw mA) :=
 zgg (call_len_seq.or zy8) ycg hg hm PySem.boot_len ha (by decide) (by decide) he hpl
theorem ych:Fn3 K zh2 (fun xs H Q=>∃i,xs=[.int i]/\i.natAbs.log2<1920/\Q (.str (toString i)) H):=by
 intro ρ S H xs vs v S' Q sim r h p
 unfold zh2 at h
 split at h
 ·obtain ⟨hz,e⟩:=zbt h
  cases e
  obtain ⟨w,rfl,rw'⟩:=r.one
  cases rw'
  exact ⟨_,rfl,hz,p ρ H _ (Ext.refl ..) sim (.str _)⟩
 ·cases h
 ·cases h
theorem zq7 (hg:Gl X "str") (hm:X.mg "str" = none) (ha:PA3 X (a :: es) mA) (he:starEach (a :: es) X.env=(false,eval a X.env) :: starEach es X.env:=by rfl) (hpl:(backTo pos (starEach es X.env)).any (·.1)=false:=by rfl):PE3 X (.Call (.Name "str" p) (a :: es) [] pos) (zag zh2 mA) :=
 zku zx9 ych hg hm yaw ha (by decide) (by decide) he hpl
end
noncomputable def zf0:D->Option Key
 | .int i=>some (.inl i)
 | .str x=>some (.inr x)
 | _=>none
noncomputable def zdy (kvs:List (Key × D)) (k:Key):Option D:=(kvs.find? fun kv=>decide (kv.1=k)).map (·.2)
noncomputable def zf1 (kvs:List (Key × D)) (k:Key) (v:D):List (Key × D):=if (kvs.any fun kv=>decide (kv.1=k))=true then kvs.map (fun kv=>if kv.1=k then (kv.1,v) else kv) else kvs++[(k,v)]
noncomputable def zi7 (S:Sto) (n:Nat):Option (List (Key × D)):=match S[n]? with
 | some (.dct kvs)=>some kvs
 | _=>none
theorem znh {S:Sto}{n:Nat}{kvs:List (Key × D)}(h:zi7 S n=some kvs):S[n]? = some (.dct kvs):=by
 unfold zi7 at h
 split at h
 ·cases h;assumption
 ·cases h
section
variable {K:QFg}{ρ:List Addr}{H:Hp}{S:Sto}
theorem zk6 {k:Key}:∀{kvs:List (Key × D)}{vs:List V},RDs ρ H (kvs.map (·.2)) vs->(zdy kvs k=none->zc2 ((kvs.map (·.1)).zip vs) k=none)/\∀d,zdy kvs k=some d->∃v,zc2 ((kvs.map (·.1)).zip vs) k=some v/\RD ρ H d v
 | [],vs,r=>by
  cases r
  exact ⟨fun _=>rfl,fun d h=>by cases h⟩
 | (k',d') :: kvs,vs,r=>by
  cases r with
  | @cons _ v _ vs r1 r2 =>
   by_cases e:k' = k
   ·have e1:zdy ((k',d') :: kvs) k=some d':=by simp [zdy,e]
    have e2:zc2 ((((k',d') :: kvs).map (·.1)).zip (v :: vs)) k=some v:=zin (p:=(k',v)) e
    rw [e1,e2]
    exact ⟨fun z=>(by cases z),fun d h=>(by cases h;exact ⟨v,rfl,r1⟩)⟩
   ·have e1:zdy ((k',d') :: kvs) k=zdy kvs k:=by simp [zdy,e]
    have e2:zc2 ((((k',d') :: kvs).map (·.1)).zip (v :: vs)) k=zc2 ((kvs.map (·.1)).zip vs) k:=zio (p:=(k',v)) e
    rw [e1,e2]
    exact zk6 r2
theorem zq8 (k:Key):∀{kvs:List (Key × D)}{vs:List V},RDs ρ H (kvs.map (·.2)) vs->(((kvs.map (·.1)).zip vs).any fun kv=>decide (kv.1=k))=kvs.any fun kv=>decide (kv.1=k)
 | [],vs,r=>by cases r;rfl
 | (k',d') :: kvs,vs,r=>by
  cases r with
  | @cons _ v _ vs r1 r2 =>
   show (decide (k' = k) || (((kvs.map (·.1)).zip vs).any fun kv=>decide (kv.1=k)))=(decide (k' = k) || _)
   rw [zq8 k r2]
theorem zq9 {k:Key}{d:D}{v:V}(rv:RD ρ H d v) {kvs:List (Key × D)}{vs:List V}(r:RDs ρ H (kvs.map (·.2)) vs):∃ws,zcp ((kvs.map (·.1)).zip vs) k v=((zf1 kvs k d).map (·.1)).zip ws/\RDs ρ H ((zf1 kvs k d).map (·.2)) ws:=by
 unfold zcp zf1
 rw [zq8 k r]
 by_cases e:(kvs.any fun kv=>decide (kv.1=k))=true
 ·rw [if_pos e,if_pos e]
  clear e
  induction kvs generalizing vs with
  | nil=>cases r;exact ⟨[],rfl,.nil⟩
  | cons p kvs ih =>
   obtain ⟨k',d'⟩:=p
   cases r with
   | @cons _ u _ us r1 r2 =>
    obtain ⟨ws,h1,h2⟩:=ih r2
    by_cases e:k' = k
    ·refine ⟨v :: ws,?_,?_⟩
     ·simp only [List.map_cons,List.zip_cons_cons,if_pos e];rw [←h1]
     ·simp only [List.map_cons,if_pos e];exact .cons rv h2
    ·refine ⟨u :: ws,?_,?_⟩
     ·simp only [List.map_cons,List.zip_cons_cons,if_neg e];rw [←h1]
     ·simp only [List.map_cons,if_neg e];exact .cons r1 h2
 ·rw [if_neg e,if_neg e]
  refine ⟨vs++[v],?_,?_⟩
  ·rw [List.map_append,List.zip_append (by rw [qlm];have:=r.length;rw [qlm] at this;exact this)];rfl
  ·rw [List.map_append];exact r.append (.cons rv .nil)
theorem zh3 {d:D}{v:V}{k:Key}(h:zf0 d=some k) (r:RD ρ H d v):v=kV k:=by
 cases r <;> first|(cases h;rfl)|cases h
theorem Sim.dct {n:Nat}{kvs:List (Key × D)}(s:Sim K ρ S H) (h:S[n]? = some (.dct kvs)):∃a vs,ρ[n]? = some a/\H a=some (.dK ((kvs.map (·.1)).zip vs))/\RDs ρ H (kvs.map (·.2)) vs:=by
 have hl:n<ρ.length:=by rw [s.len];exact (qme h).1
 obtain ⟨vs,e,r⟩:=s.at' n _ _ (qge hl) h
 exact ⟨_,vs,qge hl,e,r⟩
end
noncomputable def zdk:D->D->Sto->Option (D × Sto)
 | .ref n,y,S=>(zi7 S n).bind fun kvs=>(zf0 y).bind fun k=>(zdy kvs k).bind fun v=>some (v,S)
 | _,_,_=>none
noncomputable def zra:R2:=fun x y H Q=>∃a v,x=.ref a/\DGet H a y (some v)/\Q v H
theorem yci {K:QFg}:Op3 K zdk zra:=by
 intro ρ S H x y x' y' v S' Q sim rx ry h p
 unfold zdk at h
 split at h
 ·obtain ⟨kvs,h1,h⟩:=bnd h
  obtain ⟨k,h2,h⟩:=bnd h
  obtain ⟨w,h3,h⟩:=bnd h
  cases h
  obtain ⟨a,vs,ha,hH,r⟩:=sim.dct (znh h1)
  obtain ⟨u,hu,ru⟩:=(zk6 r).2 _ h3
  cases rx with
  | ref hn =>
   rw [ha] at hn;cases hn
   have ey:=zh3 h2 ry
   subst ey
   exact ⟨_,u,rfl,by rw [←hu];exact DGet.k hH,p ρ H u (Ext.refl ..) sim ru⟩
 ·cases h
section
variable {X:Cx}{a b e:Expr}{ma mb me:EM}{pos pos':Pos}{k:Nat}
theorem zk7 (hr:Room k X.A):X.A.units+1<cLine:=by have:=hr.un;omega
theorem zgk (hr:Room k X.A) (ha:PE3 X a ma) (hb:PE3 X b mb) (hs:zko b:=by intro _ _;rfl):PE3 X (.Subscript a b pos) (eOp zdk ma mb):=PE.imp (zpn (zk7 hr) ha hb hs) (zht yci)
end
noncomputable def zi8:D->D->D->Sto->Option Sto
 | .ref n,y,v,S=>(zi7 S n).bind fun kvs=>(zf0 y).bind fun k=>if kvs.length<sizeLine then some (S.set n (.dct (zf1 kvs k v))) else none
 | _,_,_,_=>none
noncomputable def zh4 (o i:EM):GM:=fun v l S=>(o l S).bind fun p=>(i l p.2).bind fun q=>(zi8 p.1 q.1 v q.2).bind fun S'=>some (l,S')
theorem zk8 (kvs:List (Key × V)):zgr (.dK kvs):=⟨fun _ z=>(by cases z),fun _ _ z=>(by cases z)⟩
section
variable {X:Cx}{o i value:Expr}{mo mi mv:EM}{pos pos':Pos}{k:Nat}
theorem zni (hr:Room k X.A) (ho:PE3 X o mo) (hi:PE3 X i mi) (hv:PE3 X value mv) (hs:swapsWith value (some (.Subscript o i pos')) pos.line X.env=pure false:=by rfl) :
  PS3 X (.Assign [.Subscript o i pos'] value pos) (zap mv (zh4 mo mi)):=PS.imp (zpo (zk7 hr) ho hi hv hs) fun E σ H hx1_=>by
 obtain ⟨ρ,l,S,f,l',S',sim,ro,hm,p⟩:=hx1_
 obtain ⟨⟨d,S1⟩,h1,hm⟩:=bnd hm
 obtain ⟨⟨l2,S2⟩,h2,hm⟩:=bnd hm
 obtain ⟨⟨x,S3⟩,h3,h2⟩:=bnd h2
 obtain ⟨⟨y,S4⟩,h4,h2⟩:=bnd h2
 obtain ⟨S5,h5,h2⟩:=bnd h2
 cases h2;cases hm
 refine ⟨ρ,l,S,d,S1,sim,ro,h1,fun ρ1 H1 v' e1 s1 r1=>⟨ρ1,l,S1,x,S3,s1,ro.mono e1,h3,fun ρ2 H2 x' e2 s2 r2=>⟨ρ2,l,S3,y,S4,s2,(ro.mono e1).mono e2,h4,fun ρ3 H3 y' e3 s3 r3=>?_⟩⟩⟩
 cases r2 with
 | @ref n a' hn =>
  obtain ⟨kvs,q1,h5⟩:=bnd (show (zi7 S4 n).bind (fun kvs=>(zf0 y).bind fun k=>if kvs.length<sizeLine then some (S4.set n (.dct (zf1 kvs k d))) else none)=some _ from h5)
  obtain ⟨ky,q2,h5⟩:=bnd h5
  obtain ⟨hz,e⟩:=zbt h5
  cases e
  obtain ⟨a,vs,ha,hH,r⟩:=s3.dct (znh q1)
  have r1':=r1.mono (e2.trans e3)
  have hn3:=e3.pre _ _ hn
  rw [ha] at hn3;cases hn3
  have ey:=zh3 q2 r3
  subst ey
  have hl:((kvs.map (·.1)).zip vs).length=kvs.length:=by rw [List.length_zip,qlm];have:=r.length;rw [qlm] at this;omega
  obtain ⟨ws,hw1,hw2⟩:=zq9 (k:=ky) r1' r
  refine ⟨_,_,rfl,DPut.k hH (by rw [hl];exact hz),?_⟩
  have ex:=zmk (o:=.dK (zcp ((kvs.map (·.1)).zip vs) ky v')) ha hH (zk8 _)
  refine p ρ3 _ σ ((e1.trans (e2.trans e3)).trans ex) (s3.setG ha (znh q1) rfl hH (zk8 _) ?_) ((((ro.mono e1).mono e2).mono e3).mono ex)
  exact ⟨ws,by rw [zcz,hw1],hw2.mono ex⟩
 | _=>cases h5
end
noncomputable def znj (k1:Str) (n:Nat) (k2:Str) (a:Int) (k3:Str) (b:Int):EM:=fun l S=>match l[n]? with
 | some (some d)=>some (.ref S.length,S++[.dct [(Sum.inr k1,d),(Sum.inr k2,.int a),(Sum.inr k3,.int b)]])
 | _=>none
section
variable {X:Cx}{pos:Pos}
theorem ycj (n:Nat) {a b:Int}{j1 j2 j3 j4 j5:Nat}{p1 p2 p3 p4 p5 p6:Pos}{k1 k2 k3 x:Str}(h12:k1≠k2) (h13:k1≠k3) (h23:k2≠k3) (hN:X.N[n]? = some x:=by rfl) (hv:Vis X.env.scope x:=by first|exact Or.inl rfl|exact Or.inr (Or.inl rfl)|exact Or.inr (Or.inr rfl)) (hd:(x == ("__debug__":Str))=false:=by decide)
  (hcd:(x == ("__classdict__":Str))=false:=by decide) :
  PE3 X (.Dict [some (.Constant (.str k1) j1 p1),some (.Constant (.str k2) j2 p2),some (.Constant (.str k3) j3 p3)] [.Name x p4,.Constant (.int a) j4 p5,.Constant (.int b) j5 p6] pos) (znj k1 n k2 a k3 b) :=
 PE.imp (zzu (zmj zkh (zoj hN hv hd hcd) (zmj zkh zlx (zmj zkh zlx zzs))) rfl rfl (by simp) (by simp)) fun σ H Q hx2_=>by
  obtain ⟨ρ,l,S,v,S',sim,ro,hm,p⟩:=hx2_
  unfold znj at hm
  split at hm
  ·rename_i d e
   cases hm
   obtain ⟨w,h1,h2⟩:=ro.get n _ e
   intro q hq
   refine ⟨w,h1,zcz,[(Sum.inr k1,w),(Sum.inr k2,.int a),(Sum.inr k3,.int b)],rfl,by simp,?_⟩
   have em:zgq [] [((Sum.inr k1:Key),w),(Sum.inr k2,.int a),(Sum.inr k3,.int b)]=[((Sum.inr k1:Key),w),(Sum.inr k2,.int a),(Sum.inr k3,.int b)]:=by
    simp [zgq,zcp,h12,h13,h23]
   rw [em,zvx]
   refine p (ρ++[q]) _ _ (zkq hq) (sim.pushG hq ⟨[w,.int a,.int b],zcz,.cons (h2.mono (zkq hq)) (.cons (.int _) (.cons (.int _) .nil))⟩) (.ref (by rw [←sim.len];exact zbx ρ q))
  ·cases hm
end
noncomputable def zdz:List D->Option (List Str)
 | []=>some []
 | .str z :: r=>(zdz r).bind fun ts=>some (z :: ts)
 | _=>none
noncomputable def zf2:D->List D->Sto->Option (D × Sto)
 | .str z,[.ref n],S=>(lstOf S n).bind fun xs=>(zdz xs).bind fun ts=>if (ts.map (·.length)).sum+ts.length*z.length<=16777216 then some (.str (Str.join z ts),S) else none
 | _,_,_=>none
noncomputable def zrb (K:QFg):V->List V->Hp->VK->Prop:=fun x vs H Q=>∃z p ts,x=.str z/\vs=[.ref p]/\SqL K H p (ts.map V.str)/\(ts.map (·.length)).sum+ts.length*z.length<=16777216/\Q (.str (Str.join z ts)) H
theorem zrc:∀{ts:List Str}{us:List Value},Vals (ts.map V.str) us->StrsAre us ts
 | [],us,h=>by cases h;exact .nil
 | t :: ts,us,h=>by
  cases h with
  | cons r q=>obtain ⟨k,rfl⟩:=r;exact .cons _ _ (zrc q)
theorem zrd {ρ:List Addr}{H:Hp}:∀{xs:List D}{ts:List Str}{vs:List V},zdz xs=some ts->RDs ρ H xs vs->vs=ts.map V.str
 | [],ts,vs,h,r=>by cases h;cases r;rfl
 | x :: xs,ts,vs,h,r=>by
  cases r with
  | cons r1 r2 =>
   cases r1 with
   | str z =>
    obtain ⟨ts',h1,h⟩:=bnd (show (zdz xs).bind (fun ts=>some (z :: ts))=some ts from h)
    cases h
    rw [zrd h1 r2];rfl
   | _=>cases h
section
variable {X:Cx}
theorem yck:MtM X "str.join" (zrb X.K):=by
 intro pins s σ H x vs v us Q I rx rv h
 obtain ⟨z,p,ts,rfl,rfl,sq,hz,q⟩:=h
 obtain ⟨t,rfl⟩:=rx
 obtain ⟨u,rfl,ru⟩:=rv.one
 cases ru
 obtain ⟨its,r,pl,_⟩:=I.list sq
 refine join_list pl.isList (zrc (by simpa using r)) hz fun t' k=>?_
 exact ⟨.str _,H,I.tok _,⟨t',by show Value.str (Builtin.Str.glued z ts) t' = _;rw [StrLaws.glued_eq_join]⟩,q⟩
theorem ycl {K:QFg}:Mt3 K zf2 (zrb K):=by
 intro ρ S H x x' xs vs v S' Q sim rx r h p
 unfold zf2 at h
 split at h
 ·obtain ⟨ys,h1,h⟩:=bnd h
  obtain ⟨ts,h2,h⟩:=bnd h
  obtain ⟨hz,e⟩:=zbt h
  cases e
  obtain ⟨w,rfl,rw'⟩:=r.one
  obtain ⟨a,us,ha,sq,r2⟩:=sim.lstOf h1
  cases rx
  cases rw' with
  | ref hn =>
   rw [ha] at hn;cases hn
   have:=zrd h2 r2
   subst this
   exact ⟨_,_,ts,rfl,rfl,sq,hz,p ρ H _ (Ext.refl ..) sim (.str _)⟩
 ·cases h
noncomputable def znk:D->Option Unit
 | .str _=>some ()
 | _=>none
noncomputable def zh5 (f:D->List D->Sto->Option (D × Sto)) (o:EM) (as:AM):EM:=fun l S=>(o l S).bind fun p=>(znk p.1).bind fun _=>(as l p.2).bind fun q=>f p.1 q.1 q.2
variable {o e:Expr}{mo m:EM}{apos cpos:Pos}
theorem zre (ho:PE3 X o mo) (he:PE3 X e m)
  (hbase:attributeBase o "join" X.env (eval o X.env)=eval o X.env:=by rfl)
  (hfew:((backTo cpos (starEach [e] X.env)).all (fun x=>!x.1) && (backToKw cpos (keywordEach [] X.env)).all (fun x=>x.1.isSome)
   && decide ([e].length+([]:List Keyword).length+(if ([]:List Keyword).isEmpty then 0 else 1)<30))=true:=by rfl)
  (hline:(apos.endLine == cpos.line)=true:=by rfl) (hs:starEach [e] X.env=(false,eval e X.env) :: starEach [] X.env:=by rfl) :
  PE3 X (.Call (.Attribute o "join" apos) [e] [] cpos) (zh5 zf2 mo (zac m zaf)) :=
 PE.imp (zpa PySem.F.plainAttrs_str PySem.F.slot_str_join PySem.F.type_str_join yck ho (zad he zah hs) hbase hfew hline hs rfl) fun σ H Q hx3_=>by
  obtain ⟨ρ,l,S,v,S',sim,ro,hq,p⟩:=hx3_
  obtain ⟨⟨x,S1⟩,h1,hq⟩:=bnd hq
  obtain ⟨_,h2,hq⟩:=bnd hq
  obtain ⟨⟨ys,S2⟩,h4,hq⟩:=bnd hq
  refine ⟨ρ,l,S,x,S1,sim,ro,h1,fun ρ1 H1 x' e1 s1 r1=>⟨?_,ρ1,l,S1,ys,S2,s1,ro.mono e1,h4,fun ρ2 H2 vs e2 s2 r2=>ycl ρ2 S2 H2 x x' ys vs v S' Q s2 (r1.mono e2) r2 hq (p.ext (e1.trans e2))⟩⟩
  cases r1 with
  | str z=>exact rfl
  | _=>cases h2
end
noncomputable def sgn (z:Str):List D:=z.cps.toList.map fun c=>.str ⟨#[c]⟩
noncomputable def Its (z:Str):It:=⟨fun i _=>i<z.cps.size,fun i H x H'=>H' = H/\∃c,z.cps[i]? = some c/\x=.str ⟨#[c]⟩,fun i _=>z.cps.size<=i⟩
theorem zk9 (z:Str):(sgn z).length=z.cps.size:=by simp [sgn]
theorem ycm {K:QFg}{ρ:List Addr}{H:Hp}{z:Str}:zfv K ρ H (itX (sgn z)) (Its z):=by
 intro i ρ' S' H' e s
 refine ⟨fun h=>?_,fun x h=>?_⟩
 ·have h:(sgn z)[i]? = none:=qoi h
  have:=List.getElem?_eq_none_iff.mp h
  rw [zk9] at this
  exact this
 ·have h:(sgn z)[i]? = some x:=qoi h
  have hl:=(qme h).1
  rw [zk9] at hl
  refine ⟨hl,fun y H'' ⟨e1,c,e2,e3⟩=>⟨e1,?_⟩⟩
  subst e3
  unfold sgn at h
  rw [qgm] at h
  have e4:z.cps.toList[i]? = some c:=by simpa using e2
  rw [e4] at h
  cases h
  exact .str _
section
variable {P:Program}{w:World}{K:QFg}{elts:List Expr}{z:Nat}{tp:Pos}
theorem zrf (x:Str) (t:Tok) (T:String) (e b:Addr) (heb:e≠b) (Dr:∀A:Around,A.handled=none->Draws P w A b [b] x.cps.size (fun i v=>∃c u,x.cps[i]? = some c/\v=.str ⟨#[c]⟩ u) (fun i h=>h.IsStrIter b T x t i)) :
  Turn P w K (.Tuple elts z tp) (Itn (Its x)) [e,b] e (fun i h=>(∃old,IsEnum h e b i old)/\(h.IsStrIter b T x t i/\i<=x.cps.size)) where
 mem:=by simp
 obj:=fun i h st=>znc (T:=fun h=>h.IsStrIter b T x t i/\i<=x.cps.size) (fun h ⟨⟨o,q,c,d⟩,_⟩=>⟨o,q,fun v z=>by rw [d] at z;cases z⟩) i h st
 keep:=fun i h h1 st k=>⟨let ⟨old,q⟩:=st.1;⟨old,k e (by simp) _ q⟩,let ⟨⟨o,q,r⟩,l⟩:=st.2;⟨⟨o,k b (by simp) o q,r⟩,l⟩⟩
 item:=by
  intro X hP hw hK hc i pins s σ H E I hf st hg
  subst hP hw hK
  obtain ⟨⟨old,he⟩,hb,hle⟩:=st
  have hlt:i<x.cps.size:=hg
  refine wpAny_pyNext_enum_itemD (Dr X.A.in1 (I.ok.hd hc)) he hb hlt heb (by simp [heb]) fun x1 h1 tk hP ho hs1 hT hsz hk=>?_
  obtain ⟨c,u,hc1,rfl⟩:=hP
  obtain ⟨ob,gb,_⟩:=id hb
  refine ⟨_,rfl,wpAny_letOwnedTupleGo_enum ho fun h2 he2 hs2=>?_⟩
  replace hs2:Heap.SameBut e h1 h2:=hs2
  exact znd (J:=Its x) (x:=.str ⟨#[c]⟩) (T:=fun h=>h.IsStrIter b T x t (i+1)/\i+1<=x.cps.size) I hf ⟨u,rfl⟩ (Heap.lt_size he) (Heap.lt_size gb) hk hT he2 hs2 ⟨let ⟨o,q,r⟩:=hs1;⟨o,(hs2.2 b heb.symm).trans q,r⟩,hlt⟩ ⟨rfl,c,hc1,rfl⟩
 done:=by
  intro X hP hw hK hc i pins s σ H E I hf st hg
  subst hP hw hK
  obtain ⟨⟨old,he⟩,hb,hle⟩:=st
  have hge:x.cps.size<=i:=hg
  have hi:i=x.cps.size:=by omega
  subst hi
  obtain ⟨f0,f1,f2,f3,f4,f5⟩:=hf b (by simp)
  exact wpAny_pyNext_enum_endD (Dr X.A.in1 (I.ok.hd hc)) he hb fun h1 eb=>⟨rfl,I.turned (t':=s.toks) (fun c o hb q=>eb c o hb q) f0 f1 f3 f4 f5⟩
 self:=fun A i s Q E st h=>let ⟨old,q⟩:=st.1;wpAny_pyIter_enum q h
end
section
variable {X:Cx}{elts:List Expr}{z:Nat}{tp:Pos}
noncomputable def ycn (ta:TA):TI:=fun σ H R=>ta σ H fun vs H1=>∃x,vs=[.str x]/\R (Itn (Its x)) H1
theorem yco {a:Expr}{ta:TA}{p pos:Pos}(hg:Gl X "enumerate") (hm:X.mg "enumerate" = none) (ha:PA X [a] ta) (hs:starEach [a] X.env=[(false,eval a X.env)]:=by rfl):PI X (.Tuple elts z tp) (.Call (.Name "enumerate" p) [a] [] pos) (ycn ta):=by
 intro pins s σ H R I h
 refine Call_ (zga I hg hm zne (PyProof.Rows.callWith_type1 (thn (ha pos pins s σ H _ I h) fun us s1 ⟨vs,H1,I1,r1,q1⟩=>?_) hs rfl))
 obtain ⟨x,rfl,q⟩:=q1
 cases r1 with
 | cons r rr =>
  cases rr
  obtain ⟨t,rfl⟩:=r
  refine call_enumerate_str fun h1 he hb _ hk=>?_
  cases hall:x.cps.all (· < 128)
  ·have hb':h1.IsStrIter s1.heap.objs.size "str_iterator" x t 0:=by simpa [strIterType,hall] using hb
   exact zk4 (T:=fun i h=>h.IsStrIter s1.heap.objs.size "str_iterator" x t i/\i<=x.cps.size) I1 (zrf x t _ _ _ (Nat.succ_ne_self _) fun A hA=>Draws.strWide hA _ x t) he ⟨hb',Nat.zero_le _⟩ hk q
  ·have hb':h1.IsStrIter s1.heap.objs.size "str_ascii_iterator" x t 0:=by simpa [strIterType,hall] using hb
   exact zk4 (T:=fun i h=>h.IsStrIter s1.heap.objs.size "str_ascii_iterator" x t i/\i<=x.cps.size) I1 (zrf x t _ _ _ (Nat.succ_ne_self _) fun A hA=>Draws.strAscii hA _ x t) he ⟨hb',Nat.zero_le _⟩ hk q
end
inductive tiL (K:QFg) (im:IM) (σ:St) (H:Hp) (R:It->Hp->Prop):Prop
 | mk (ρ:_) (l:_) (S:_) (it:_) (k:_) (S':_) (_:Sim K ρ S H) (_:RO ρ H l σ) (_:im l S=some (it,k,S')) (_:∀ρ' H' J,Ext ρ H ρ' H'->Sim K ρ' S' H'->zk5 K ρ' H' it J->R J H')
noncomputable def zla (X:Cx) (tgt iter:Expr) (im:IM):Prop:=PI X tgt iter (tiL X.K im)
noncomputable def zd6 (m:AM):IM:=fun l S=>(m l S).bind fun p=>match p.1 with
 | [.tup xs]=>some (itN (itX xs),xs.length+1,p.2)
 | [.ref n]=>(lstOf p.2 n).bind fun xs=>some (itN (itL n),xs.length+1,p.2)
 | [.str z]=>some (itN (itX (sgn z)),z.cps.size+1,p.2)
 | _=>none
section
variable {X:Cx}{elts:List Expr}{z:Nat}{tp:Pos}{a:Expr}{mA:AM}{g:GM}{b:SM}{body:List Stmt}{p0 pos' pos:Pos}
theorem zh6 (hgl:Gl X "enumerate") (hmg:X.mg "enumerate" = none) (ha:PA3 X [a] mA) (hst:starEach [a] X.env=[(false,eval a X.env)]:=by rfl):zla X (.Tuple elts z tp) (.Call (.Name "enumerate" p0) [a] [] pos') (zd6 mA) :=
 PI.imp (PI.or (PI.or (yb9 hgl hmg ha hst) (yca hgl hmg ha hst)) (yco hgl hmg ha hst)) fun σ H R hx1_=>by
  obtain ⟨ρ,l,S,it,k,S',sim,ro,hm,p⟩:=hx1_
  obtain ⟨⟨xs,S2⟩,q2,q1⟩:=bnd hm
  dsimp only at q1
  split at q1
  ·rename_i ys
   cases q1
   refine .inl (.inr ⟨ρ,l,S,[.tup ys],_,sim,ro,q2,fun ρ1 H1 vs e1 s1 r1=>?_⟩)
   obtain ⟨v,rfl,rv⟩:=r1.one
   cases rv with
   | @tup _ c us hc' r=>exact ⟨c,rfl,⟨us,SqT.of hc'⟩,p ρ1 H1 _ e1 s1 (znf (zmx hc' r))⟩
  ·rename_i n
   obtain ⟨ys,hx,q1⟩:=bnd q1
   cases q1
   refine .inl (.inl ⟨ρ,l,S,[.ref n],_,sim,ro,q2,fun ρ1 H1 vs e1 s1 r1=>?_⟩)
   obtain ⟨v,rfl,rv⟩:=r1.one
   obtain ⟨c,us,hc',sq,rv'⟩:=s1.lstOf hx
   cases rv with
   | ref hn =>
    rw [hc'] at hn;cases hn
    exact ⟨c,rfl,⟨us,sq⟩,p ρ1 H1 _ e1 s1 (znf (zmy hc'))⟩
  ·rename_i y
   cases q1
   refine .inr ⟨ρ,l,S,[.str y],_,sim,ro,q2,fun ρ1 H1 vs e1 s1 r1=>?_⟩
   obtain ⟨v,rfl,rv⟩:=r1.one
   cases rv
   exact ⟨y,rfl,p ρ1 H1 _ e1 s1 (znf ycm)⟩
  ·cases q1
theorem zi9 {tgt iter:Expr}{im:IM}(hp:PassesOwn (model X.prog X.w) X.A X.env X.xe) (hc:X.calm=true) (hi:zla X tgt iter im) (hg:PG3 X tgt g) (hb:zd2 X body b) (hs:∀x,foldedSetIterable iter X.env x=pure x:=by intro _;rfl) :
  PS3 X (.For tgt iter body [] pos) (zgj im g b) :=
 PS.imp (zl2 hp hc hi hg hb hs) fun E σ H hx2_=>by
  obtain ⟨ρ,l,S,f,l',S',sim,ro,hm,p⟩:=hx2_
  obtain ⟨⟨it,k,S1⟩,q1,hm⟩:=bnd hm
  exact ⟨ρ,l,S,it,k,S1,sim,ro,q1,fun ρ1 H1 J e1 s1 ok=>ycb ok s1 (ro.mono e1) hm fun ρ' H' σ' e'=>p ρ' H' σ' (e1.trans e')⟩
end
theorem ycp {K:QFg}{im:IM}{ixs:List (Option Nat)}{g:GM}{t:TM}{e:EM}(σ:St) (H:Hp) (Q:VK) (q:te K (zch im ixs g t e) σ H Q):zi2 K (tiL K im) (zcc ixs) (tg K g) (tt K t) (te K e) σ H Q:=by
 obtain ⟨ρ,l,S,v,S',sim,ro,hm,p⟩:=q
 obtain ⟨⟨it,k,S1⟩,q1,hm⟩:=bnd hm
 obtain ⟨⟨all,S2⟩,q2,hm⟩:=bnd hm
 obtain ⟨hz,he⟩:=zbt hm
 cases he
 refine ⟨ρ,l,S,it,k,S1,sim,ro,q1,fun ρ1 H1 J e1 s1 io D hD hK=>?_⟩
 dsimp only at q2 hz p
 refine ⟨fun i m σ' H'=>CI3 K it g t e S2 all ρ1 H1 D i m σ' H',⟨k,?_⟩,?_⟩
 ·exact ⟨ρ1,zcc ixs l,S1,[],[],all,zc5 hD,s1.laid hD,(zmz ixs (ro.mono e1)).mono (zc5 hD),zcz,s1.notin hD hK,.nil,q2,rfl⟩
 ·rintro i m σ' H' ⟨ρ',l',S',ds,vs,rest,e2,s2,ro2,hD2,hn2,rd2,hc,hall⟩
  cases m with
  | zero=>cases hc
  | succ m =>
   unfold zdv at hc
   obtain ⟨o,ho,hc⟩:=bnd hc
   obtain ⟨iStop,iGo⟩:=io i ρ' S' H' e2 s2
   cases o with
   | none =>
    cases hc
    rw [List.append_nil] at hall
    subst hall
    refine .inl ⟨iStop ho,p (ρ'++[D]) H' (.ref D) (e1.trans (e2.adopt hD)) (s2.adopt hD2 hn2 rd2) (.ref ?_)⟩
    rw [←s2.len];exact zbx ρ' D
   | some x =>
    obtain ⟨⟨l3,S3⟩,q3,hc⟩:=bnd hc
    obtain ⟨⟨b,S4⟩,q4,hc⟩:=bnd hc
    obtain ⟨hgo,hy⟩:=iGo x ho
    refine .inr ⟨hgo,_,fun σ' H' h=>h,fun y H'' hyl=>?_⟩
    obtain ⟨ex,sx,ry⟩:=hy y H'' hyl
    refine ⟨ρ',l',S',x,l3,S3,sx,ro2.mono ex,ry,q3,fun ρ3 H3 σ3 e3' s3 ro3=>⟨ρ3,l3,S3,b,S4,s3,ro3,q4,fun ρ4 H4 e4 s4=>?_⟩⟩
    have e3:=ex.trans e3'
    obtain ⟨hD3,hn3⟩:=e3.out D _ hD2 hn2
    obtain ⟨hD4,hn4⟩:=e4.out D _ hD3 hn3
    cases b with
    | false=>exact zeg ⟨m,Nat.lt_succ_self m,ρ4,l3,S4,ds,vs,rest,e2.trans (e3.trans e4),s4,ro3.mono e4,hD4,hn4,rd2.mono (e3.trans e4),hc,hall⟩
    | true =>
     have hc:((e l3 S4).bind fun r=>(zdv it g t e m (i+1) l3 r.2).bind fun z=>some (r.1 :: z.1,z.2))=some (rest,S2):=hc
     obtain ⟨⟨y5,S5⟩,q5,hc⟩:=bnd hc
     obtain ⟨⟨rest',S6⟩,q6,hc⟩:=bnd hc
     cases hc
     refine zeh ⟨ρ4,l3,S4,y5,S5,s4,ro3.mono e4,q5,fun ρ5 H5 v5 e5 s5 r5=>?_⟩
     obtain ⟨hD5,hn5⟩:=e5.out D _ hD4 hn4
     have e25:=e2.trans (e3.trans (e4.trans e5))
     have rd5:=rd2.mono (e3.trans (e4.trans e5))
     have hlen:vs.length<sizeLine:=by
      have h1:=rd5.length
      have h2:=congrArg List.length hall
      rw [qla,List.length_cons] at h2
      omega
     refine ⟨vs,hD5,hlen,m,Nat.lt_succ_self m,ρ5,l3,S5,ds++[y5],vs++[v5],rest',e25.beside hD hD5,s5.beside hD5 hn5,?_,zcz,hn5,((rd5.append (.cons r5 .nil)).mono0 (zfe hD5)),q6,by rw [←hall];simp⟩
     have r0:=(ro3.mono e4).mono e5
     exact ⟨r0.len,fun i d h=>let ⟨w,h1,h2⟩:=r0.get i d h;⟨w,h1,h2.mono0 (zfe hD5)⟩⟩
theorem zrg {X:Cx}{N':List Str}{elt iter tgt:Expr}{ifs:List Expr}{scope:Scope}{pos:Pos}{im:IM}{ixs:List (Option Nat)}{g:GM}{t:TM}{e:EM}(hcalm:X.calm=true) (sc:CompSc X N' scope (zcc ixs))
  (hi:zla X tgt iter im) (hg:∀C s H fp pins,PG3 (cxC X N' scope C s H fp pins) tgt g) (ht:∀C s H fp pins,PTs (cxC X N' scope C s H fp pins) ifs (tt X.K t)) (he:∀C s H fp pins,PE3 (cxC X N' scope C s H fp pins) elt e)
  (hs:∀x,foldedSetIterable iter X.env x=pure x:=by intro _;rfl):PE3 X (.ListComp elt [⟨tgt,iter,ifs,0⟩] scope pos) (zch im ixs g t e) :=
 PE.imp (zqg (g:=tg X.K g) (tts:=tt X.K t) (t:=te X.K e) hcalm sc hi hg ht he hs) ycp
noncomputable def zja:D->D->Sto->Option (D × Sto)
 | .ref n,.ref m,S=>match S[n]?,S[m]? with
  | some (.lst xs),some (.lst [])=>some (.bl xs.isEmpty,S)
  | _,_=>none
 | _,_,_=>none
noncomputable def zrh:R2:=fun x y H Q=>∃a b xs,x=.ref a/\y=.ref b/\H a=some (.lst xs)/\H b=some (.lst [])/\Q (.bl xs.isEmpty) H
section
variable {X:Cx}{a b:Expr}{ma mb:EM}{pos:Pos}{k:Nat}
theorem ycq (hr:Room k X.A):OpR X (compareOp .Eq) zrh:=by
 intro pins s σ H x y v u Q I rx ry h
 obtain ⟨a,b,xs,rfl,rfl,ha,hb,q⟩:=h
 cases rx;cases ry
 obtain ⟨z,its,n,r,hl,e⟩:=I.lstM ha
 obtain ⟨z2,its2,n2,r2,hl2,e2⟩:=I.lstM hb
 cases r2
 have hu:X.A.units<cLine:=by have:=hr.un;omega
 have l1:s.heap.IsList a its.toArray:=⟨_,e,rfl,n,rfl⟩
 have l2:s.heap.IsList b ([]:List Value).toArray:=⟨_,e2,rfl,n2,rfl⟩
 cases xs with
 | nil =>
  cases r
  have:=SeqAt.RcAt.lists (A:=X.A) (e:=fun _=>true) l1 l2 rfl hu (fun j h1 _=>by simp at h1)
  exact this X.prog X.w X.xe _ ⟨.bl _,H,I,rfl,q⟩
 | cons y ys =>
  cases r with
  | cons r1 r2 =>
   exact SeqAt.RcAt.lists_lengths (A:=X.A) l1 l2 (by simp) hu X.prog X.w X.xe _ ⟨.bl _,H,I,rfl,q⟩
theorem ycr {K:QFg}:Op3 K zja zrh:=by
 intro ρ S H x y x' y' v S' Q sim rx ry h p
 unfold zja at h
 split at h
 ·split at h
  ·rename_i n m S xs e1 e2
   cases h
   obtain ⟨a,us,ha,hH,r2⟩:=sim.lst e1
   obtain ⟨b,ws,hb,hH2,r3⟩:=sim.lst e2
   cases r3
   cases rx with
   | ref hn =>
    rw [ha] at hn;cases hn
    cases ry with
    | ref hm =>
     rw [hb] at hm;cases hm
     refine ⟨a,b,us,rfl,rfl,hH,hH2,?_⟩
     have:us.isEmpty=xs.isEmpty:=by cases r2 <;> rfl
     rw [this]
     exact p ρ H _ (Ext.refl ..) sim (.bl _)
  ·cases h
 ·cases h
theorem ycs (hr:Room k X.A) (ha:PE3 X a ma) (hb:PE3 X b mb):PT3 X (.Compare a [.Eq] [b] pos) (tE (eOp zja ma mb)):=zfi (ycq hr) ycr ha hb (zeu b)
end
noncomputable def yct:V->Option Int->Option Int->Hp->VK->Prop:=fun x lo hi H Q=>∃z,x=.str z/\z.length<=sizeLine/\Q (.str (Txt.slice z lo hi)) H
theorem zri {v:Value}{o:Option Int}(h:IsPart v o):∃l:Option (Int × Tok),v=partValue l/\o=l.map (·.1):=by
 cases h with
 | none=>exact ⟨none,rfl,rfl⟩
 | int i t=>exact ⟨some (i,t),rfl,rfl⟩
theorem ycu {X:Cx}:SlR X yct:=by
 intro pins s σ H x v vl vu lo hi sl Q I rx hs pl pu h
 obtain ⟨z,rfl,hz,q⟩:=h
 obtain ⟨t,rfl⟩:=rx
 obtain ⟨l,rfl,rfl⟩:=zri pl
 obtain ⟨u,rfl,rfl⟩:=zri pu
 refine ⟨"str",_,F.slot_str_getitem.lookup,typeIs_str _ _ _,?_⟩
 refine wpAny_getItem_str_slice (l:=l) (u:=u) (st:=none) hs rfl ?_
 refine post_val_or_str ⟨Nat.le_trans (Txt.slice_le z _ _) hz,fun t' k=>?_⟩
 exact ⟨.str _,H,I.tok _,⟨t',rfl⟩,q⟩
noncomputable def zb6 (m:EM) (lo hi:OM):EM:=fun l S=>(m l S).bind fun p=>(lo l p.2).bind fun q=>(hi l q.2).bind fun r=>match p.1 with
 | .tup xs=>some (.tup (zc0 xs q.1 r.1),r.2)
 | .ref n=>(lstOf r.2 n).bind fun xs=>some (.ref r.2.length,r.2++[.lst (zc0 xs q.1 r.1)])
 | .str z=>if z.length<=sizeLine then some (.str (Txt.slice z q.1 r.1),r.2) else none
 | _=>none
section
variable {X:Cx}{a:Expr}{ma:EM}{lo hi:Option Expr}{ml mh:OM}{p2 pos:Pos}
theorem zcx (he:PE3 X a ma) (hl:PO3 X lo ml) (hu:PO3 X hi mh):PE3 X (.Subscript a (.Slice lo hi none p2) pos) (zb6 ma ml mh):=PE.imp (zyw (((sl_tup.or zz7).or zy5).or ycu) he hl hu) fun σ H Q hx1_=>by
 obtain ⟨ρ,l,S,v,S',sim,ro,hm,p⟩:=hx1_
 obtain ⟨⟨x,S1⟩,h1,hm⟩:=bnd hm
 obtain ⟨⟨y,S2⟩,h2,hm⟩:=bnd hm
 obtain ⟨⟨z,S3⟩,h3,hm⟩:=bnd hm
 refine ⟨ρ,l,S,x,S1,sim,ro,h1,fun ρ1 H1 x' e1 s1 r1=>⟨ρ1,l,S1,y,S2,s1,ro.mono e1,h2,fun ρ2 H2 e2 s2=>⟨ρ2,l,S2,z,S3,s2,ro.mono (e1.trans e2),h3,fun ρ3 H3 e3 s3=>?_⟩⟩⟩
 have e13:=e1.trans (e2.trans e3)
 cases r1 with
 | @tup xs a vs ha r =>
  cases hm
  have ha3:=(e2.trans e3).tup _ _ ha
  have r3:=r.mono (e2.trans e3)
  have hlen:=r.length
  by_cases hw:HT.sIx vs.length 0 y=0/\HT.sIx vs.length vs.length z=vs.length
  ·refine .inl (.inl (.inr ⟨a,vs,rfl,SqT.of ha3,hw,?_⟩))
   have:=zz8 xs y z (by rw [hlen];exact hw)
   dsimp only at p
   rw [this] at p
   exact p ρ3 H3 _ e13 s3 (.tup ha3 r3)
  ·refine .inl (.inl (.inl ⟨a,vs,rfl,SqT.of ha3,hw,?_⟩))
   have rc:RDs ρ3 H3 (zc0 xs y z) (zfc vs y z):=by
    unfold zc0 zfc
    rw [hlen]
    exact (r3.drop _).take _
   exact ziv s3 rc (Pv.ext p e13)
 | @ref j b hj =>
  obtain ⟨xs,hx,hm⟩:=bnd (show (lstOf S3 j).bind (fun xs=>some (D.ref S3.length,S3++[.lst (zc0 xs y z)]))=some (v,S') from hm)
  cases hm
  obtain ⟨c,us,hc,sq,rv⟩:=s3.lstOf hx
  have:=(e2.trans e3).pre _ _ hj
  rw [this] at hc;cases hc
  have rc:RDs ρ3 H3 (zc0 xs y z) (zfc us y z):=by
   unfold zc0 zfc
   rw [rv.length]
   exact (rv.drop _).take _
  exact .inl (.inr ⟨b,us,rfl,sq,ziw s3 rc (Pv.ext p e13)⟩)
 | str t =>
  obtain ⟨hz,e⟩:=zbt (show (if t.length<=sizeLine then some (D.str (Txt.slice t y z),S3) else none)=some (v,S') from hm)
  cases e
  exact .inr ⟨t,rfl,hz,p ρ3 H3 _ e13 s3 (.str _)⟩
 | _=>cases hm
end
noncomputable def zjb:D->D->Sto->Option (D × Sto)
 | .str i,.str j,S=>if i.length+j.length<=sizeLine then some (.str (i++j),S) else none
 | _,_,_=>none
noncomputable def za3:D->D->Sto->Option (D × Sto):=fun x y S=>match zjb x y S with|some v=>some v|none=>zm1 x y S
theorem op3_plusS {K:QFg}:Op3 K zjb (fun x y H Q=>∃i j,x=.str i/\y=.str j/\i.length+j.length<=sizeLine/\Q (.str (i++j)) H):=by
 intro ρ S H x y x' y' v S' Q sim rx ry h p
 unfold zjb at h
 split at h
 ·obtain ⟨hz,e⟩:=zbt h
  cases e;cases rx;cases ry
  exact ⟨_,_,rfl,rfl,hz,p ρ H _ (Ext.refl ..) sim (.str _)⟩
 ·cases h
theorem zbi {X:Cx}{a b:Expr}{ma mb:EM}{pos:Pos}(ha:PE3 X a ma) (hb:PE3 X b mb):PE3 X (.BinOp a .Add b pos) (eOp za3 ma mb):=zfh (op_add_str.or (op_add.or ((op_catT.or zz9).or zzd))) (op3_plusS.or yas) ha hb
noncomputable def zg6:FM
 | [.str z],S=>(intText? z).bind fun n=>if z.length<=640 then some (.int n,S) else none
 | xs,S=>zmr xs S
section
variable {X:Cx}{a:Expr}{es:List Expr}{mA:AM}{pos p:Pos}{K:QFg}
theorem call_int_text:CallR X (.type "int") (fun xs H Q=>∃z n,xs=[.str z]/\intText? z=some n/\z.length<=640/\Q (.int n) H):=by
 intro pins s σ H xs us Q I r h
 obtain ⟨z,n,rfl,h1,h2,q⟩:=h
 obtain ⟨u,rfl,ru⟩:=zef r
 obtain ⟨t,rfl⟩:=ru
 exact PySem.W.KIN.call_text h1 h2 ⟨.int n,H,I.tok _,⟨_,rfl⟩,q⟩
theorem ycv:Fn3 K zg6 (fun xs H Q=>(∃z n,xs=[.str z]/\intText? z=some n/\z.length<=640/\Q (.int n) H)∨((∃i,xs=[.int i]/\Q (.int i) H)∨∃k,xs=[.bl k]/\Q (.int (if k then 1 else 0)) H)):=by
 intro ρ S H xs vs v S' Q sim r h p
 unfold zg6 at h
 split at h
 ·obtain ⟨n,h1,h⟩:=bnd h
  obtain ⟨hz,e⟩:=zbt h
  cases e
  obtain ⟨w,rfl,rw'⟩:=r.one
  cases rw'
  exact .inl ⟨_,_,rfl,h1,hz,p ρ H _ (Ext.refl ..) sim (.int _)⟩
 ·exact .inr (yad ρ S H _ vs v S' Q sim r h p)
theorem ycw (hg:Gl X "int") (hm:X.mg "int" = none) (ha:PA3 X (a :: es) mA) (he:starEach (a :: es) X.env=(false,eval a X.env) :: starEach es X.env:=by rfl) (hpl:(backTo pos (starEach es X.env)).any (·.1)=false:=by rfl):PE3 X (.Call (.Name "int" p) (a :: es) [] pos) (zag zg6 mA) :=
 zku (call_int_text.or zx8) ycv hg hm zqi ha (by decide) (by decide) he hpl
end
noncomputable def zg7:D->List D->Sto->Option (D × Sto)
 | .ref n,[.int i,x],S=>match S[n]? with
  | some (.lst xs)=>if 0<=i/\i<=xs.length/\xs.length<sizeLine then some (.non,S.set n (.lst (xs.take i.toNat++[x]++xs.drop i.toNat))) else none
  | _=>none
 | _,_,_=>none
noncomputable def zrj:V->List V->Hp->VK->Prop:=fun x vs H Q=>∃l xs i y,x=.ref l/\vs=[.int i,y]/\H l=some (.lst xs)/\0<=i/\i<=xs.length/\xs.length<sizeLine/\Q .non (upd H l (.lst (xs.take i.toNat++[y]++xs.drop i.toNat)))
section
variable {X:Cx}
theorem ycx:MtM X "list.insert" zrj:=by
 intro pins s σ H x vs v us Q I rx rv h
 obtain ⟨l,xs,i,y,rfl,rfl,hH,h1,h2,hz,q⟩:=h
 cases rx
 obtain ⟨u,w,rfl,ru,rw'⟩:=rv.two
 obtain ⟨t,rfl⟩:=ru
 obtain ⟨z,its,n,r,hl,e⟩:=I.lstM hH
 have hsz:(16777216:Nat)=sizeLine:=by decide
 have hfit:¬(!Builtin.List.listFitsIndex i)=true:=by
  unfold Builtin.List.listFitsIndex
  simp only [Bool.not_eq_true',Bool.not_eq_false]
  simp;omega
 refine call_meets F.slot_list_insert ⟨_,e,rfl⟩ F.entry_list_insert (F.args_list_insert_3 _ _ _) (PySem.AutoListH.list_insert_list_int_val_1 l its.toArray n i t w hfit (by rw [List.size_toArray];omega)) ⟨e,?_⟩
 refine ⟨.non,_,I.lset (its':=its.take i.toNat++[w]++its.drop i.toNat) hH e ?_ (((r.take _).append (.cons rw' .nil)).append (r.drop _)) ?_,rfl,q⟩
 ·have hk:(if i<0 then (i+((its.toArray.size:Nat):Int)).toNat else min i.toNat its.toArray.size)=i.toNat:=by
   rw [if_neg (by omega),List.size_toArray];omega
  show (its.toArray.extract 0 (if i<0 then (i+((its.toArray.size:Nat):Int)).toNat else min i.toNat its.toArray.size)).push w++its.toArray.extract (if i<0 then (i+((its.toArray.size:Nat):Int)).toNat else min i.toNat its.toArray.size)=_
  rw [hk]
  apply Array.toList_inj.mp
  simp
  rw [←List.drop_take]
  simp
 ·simp only [qla,List.length_take,List.length_drop,List.length_cons,List.length_nil];omega
theorem ycy {K:QFg}:Mt3 K zg7 zrj:=by
 intro ρ S H x x' xs vs v S' Q sim rx r h p
 unfold zg7 at h
 split at h
 ·split at h
  ·rename_i n i y S ys e
   obtain ⟨hz,e2⟩:=zbt h
   cases e2
   obtain ⟨w,u,rfl,rw',ru⟩:=r.two
   cases rw'
   obtain ⟨a,us,ha,hH,r2⟩:=sim.lst e
   cases rx with
   | ref hn =>
    rw [ha] at hn;cases hn
    have hl:=r2.length
    refine ⟨_,us,i,u,rfl,rfl,hH,hz.1,by rw [←hl];exact hz.2.1,by rw [←hl];exact hz.2.2,p ρ _ _ (zkp ha hH) (sim.set ha e hH (((r2.take _).append (.cons ru .nil)).append (r2.drop _))) .non⟩
  ·cases h
 ·cases h
variable {o e f:Expr}{mo m m':EM}{apos cpos:Pos}
theorem ycz (ho:PE3 X o mo) (he:PE3 X e m) (hf:PE3 X f m')
  (hbase:attributeBase o "insert" X.env (eval o X.env)=eval o X.env:=by rfl)
  (hfew:((backTo cpos (starEach [e,f] X.env)).all (fun x=>!x.1) && (backToKw cpos (keywordEach [] X.env)).all (fun x=>x.1.isSome)
   && decide ([e,f].length+([]:List Keyword).length+(if ([]:List Keyword).isEmpty then 0 else 1)<30))=true:=by rfl)
  (hline:(apos.endLine == cpos.line)=true:=by rfl) (hs:starEach [e,f] X.env=(false,eval e X.env) :: starEach [f] X.env:=by rfl) (hs2:starEach [f] X.env=(false,eval f X.env) :: starEach [] X.env:=by rfl) (hpl:(backTo cpos (starEach [f] X.env)).any (·.1)=false:=by rfl) :
  PE3 X (.Call (.Attribute o "insert" apos) [e,f] [] cpos) (zdi zg7 mo (zac m (zac m' zaf))) :=
 zms PySem.F.slot_list_insert PySem.F.type_list_insert ycx ycy ho (zad he (zad hf zah hs2) hs) hbase hfew hline hs hpl
end
noncomputable def zd7:List D->Option (List Int)
 | []=>some []
 | .int i :: r=>(zd7 r).bind fun ns=>some (i :: ns)
 | _=>none
noncomputable def zjc:FM
 | [.ref n],S=>(lstOf S n).bind fun xs=>(zd7 xs).bind fun ns=>some (.int ns.sum,S)
 | _,_=>none
theorem zlb {ρ:List Addr}{H:Hp}:∀{xs:List D}{ns:List Int}{vs:List V},zd7 xs=some ns->RDs ρ H xs vs->vs=ns.map V.int
 | [],ts,vs,h,r=>by cases h;cases r;rfl
 | x :: xs,ts,vs,h,r=>by
  cases r with
  | cons r1 r2 =>
   cases r1 with
   | int z =>
    obtain ⟨ts',h1,h⟩:=bnd (show (zd7 xs).bind (fun ts=>some (z :: ts))=some ts from h)
    cases h
    rw [zlb h1 r2];rfl
   | _=>cases h
theorem zrk:∀{ns:List Int}{us:List Value},Vals (ns.map V.int) us->∃ps:List (Int × Tok),us=ps.map (fun p=>.int p.1 p.2)/\ps.map (·.1)=ns
 | [],us,h=>by cases h;exact ⟨[],rfl,rfl⟩
 | n :: ns,us,h=>by
  cases h with
  | cons r q =>
   obtain ⟨t,rfl⟩:=r
   obtain ⟨ps,rfl,h2⟩:=zrk q
   exact ⟨(n,t) :: ps,rfl,by rw [List.map_cons,h2]⟩
section
variable {X:Cx}
theorem yc0 (hc:X.calm=true):CallR X (.builtin "sum") (fun xs H Q=>∃(p:Addr) (ns:List Int),xs=[.ref p]/\SqL X.K H p (ns.map V.int)/\Q (.int ns.sum) H):=by
 intro pins s σ H xs us Q I r h
 obtain ⟨p,ns,rfl,sq,q⟩:=h
 obtain ⟨u,rfl,ru⟩:=zef r
 cases ru
 obtain ⟨its,rv,pl,_⟩:=I.list sq
 obtain ⟨ps,rfl,rfl⟩:=zrk rv
 have hl:s.heap.IsList p (intItems ps.toArray):=by
  have:=pl.isList
  simpa [intItems] using this
 refine sum_intListG (I.ok.hd hc) hl fun h' tk t' hk=>?_
 have e:preSum (numAt ps.toArray) ps.toArray.size=(ps.map (·.1)).sum:=by
  rw [preSum_eq,List.take_of_length_le (by simp)]
 rw [e]
 exact ⟨.int _,H,I.kept (t':=tk) hk,⟨t',rfl⟩,q⟩
theorem yc1 {K:QFg}:Fn3 K zjc (fun xs H Q=>∃(p:Addr) (ns:List Int),xs=[.ref p]/\SqL K H p (ns.map V.int)/\Q (.int ns.sum) H):=by
 intro ρ S H xs vs v S' Q sim r h p
 unfold zjc at h
 split at h
 ·obtain ⟨ys,h1,h⟩:=bnd h
  obtain ⟨ns,h2,h⟩:=bnd h
  cases h
  obtain ⟨w,rfl,rw'⟩:=r.one
  obtain ⟨a,us,ha,sq,r2⟩:=sim.lstOf h1
  cases rw' with
  | ref hn =>
   rw [ha] at hn;cases hn
   have:=zlb h2 r2
   subst this
   exact ⟨_,ns,rfl,sq,p ρ H _ (Ext.refl ..) sim (.int _)⟩
 ·cases h
theorem yc2:bootBuiltins "sum" = some (.builtin "sum"):=by decide +kernel
variable {a:Expr}{es:List Expr}{mA:AM}{p pos:Pos}
theorem yc3 (hc:X.calm=true) (hg:Gl X "sum") (hm:X.mg "sum" = none) (ha:PA3 X (a :: es) mA) (he:starEach (a :: es) X.env=(false,eval a X.env) :: starEach es X.env:=by rfl) (hpl:(backTo pos (starEach es X.env)).any (·.1)=false:=by rfl):PE3 X (.Call (.Name "sum" p) (a :: es) [] pos) (zag zjc mA) :=
 zgg (yc0 hc) yc1 hg hm yc2 ha (by decide) (by decide) he hpl
end
section
variable {prog:Program}{w:World}{A:Around}{E:Value->Shared->Prop}{s:Shared}
end
section
variable {P:Program}{w:World}{K:QFg}{tg:Expr}
end
section
variable {X:Cx}{tg:Expr}
end
section
variable {X:Cx}{tgt:Expr}{a:Expr}{mA:AM}{p0 pos':Pos}
end
section
variable {X:Cx}
theorem yc4:bootBuiltins "sorted" = some (.builtin "sorted"):=by decide +kernel
variable {a:Expr}{es:List Expr}{mA:AM}{pos p:Pos}
end
noncomputable def zdf (z:Str) (k:Nat):Str:=⟨(List.replicate k z.cps.toList).flatten.toArray⟩
noncomputable def yc5:R2:=fun x y H Q=>∃z k,x=.str z/\y=.int k/\1<=k/\k<1000/\1<=z.length/\z.length<1000/\Q (.str (zdf z k.toNat)) H
theorem zrl:∀(l:List (Array Nat)) (a:Array Nat),l.foldl (·++·) a=(a.toList++(l.map Array.toList).flatten).toArray
 | [],a=>by simp
 | x :: l,a=>by
  rw [List.foldl_cons,zrl l]
  simp
theorem yc6 {X:Cx}:OpR X (binaryOp .Mult) yc5:=by
 intro pins s σ H x y v u Q I rx ry h
 obtain ⟨z,k,rfl,rfl,h1,h2,h3,h4,q⟩:=h
 obtain ⟨t,rfl⟩:=rx
 obtain ⟨t',rfl⟩:=ry
 have hm:z.length*k.toNat<=1000*1000:=Nat.mul_le_mul (by omega) (by omega)
 refine P.mul_str (by rw [Bool.or_eq_false_iff];exact ⟨decide_eq_false (by omega),decide_eq_false (by omega)⟩) (fun _ _=>?_) (fun _ _=>?_) ?_
 ·intro hgt
  have hk:=(Int.ediv_lt_iff_lt_mul (by omega:(0:Int)<k)).mp hgt
  have e:(z.length:Int)*k=((z.length*k.toNat:Nat):Int):=by rw [Int.natCast_mul,Int.toNat_of_nonneg (by omega)]
  rw [e] at hk
  omega
 ·unfold Builtin.Str.tooLong
  have:sizeLine=16777216:=by decide
  exact decide_eq_false (by omega)
 ·rw [if_neg (by omega)]
  by_cases k1:k=1
  ·subst k1
   rw [if_pos (by simp)]
   have e:zdf z (1:Int).toNat=z:=by simp [zdf]
   rw [e] at q
   exact ⟨.str z,H,I,⟨t,rfl⟩,q⟩
  ·have hz0:(z.length == 0)=false:=beq_false_of_ne (by omega)
   rw [if_neg (by simp [k1,hz0])]
   have e:(⟨(List.replicate k.toNat z.cps).foldl (·++·) #[]⟩:Str)=zdf z k.toNat:=by
    unfold zdf
    rw [zrl]
    simp
   rw [e]
   have hlen:(zdf z k.toNat).length=z.length*k.toNat:=by
    simp [zdf,Str.length,Nat.mul_comm]
   have hsl:sizeLine=16777216:=by decide
   refine ⟨?_,.str _,H,I.tok _,⟨_,rfl⟩,q⟩
   show (zdf z k.toNat).length<=_
   omega
section
variable {X:Cx}{a b:Expr}{ma mb:EM}{pos:Pos}
end
section
variable {prog:Program}{w:World}{A:Around}{R:Result->Shared->Prop}{s:Shared}
end
section
variable {K:QFg}{ρ:List Addr}{H:Hp}{S:Sto}
end
theorem yc7 {ρ:List Addr}{H:Hp}{kvs:List (Key × D)}{vs:List V}(r:RDs ρ H (kvs.map (·.2)) vs):((kvs.map (·.1)).zip vs).length=kvs.length:=by
 rw [List.length_zip,qlm];have:=r.length;rw [qlm] at this;omega
section
variable {X:Cx}{tg:Expr}
end
section
variable {X:Cx}{tgt iter:Expr}{m:EM}
end
noncomputable def dctR (S:Sto) (n:Nat):Option (List (Key × D)):=match S[n]? with
 | some (.dct kvs)=>some kvs
 | some (.fdct kvs)=>some kvs
 | _=>none
theorem Sim.dctR {K:QFg}{ρ:List Addr}{H:Hp}{S:Sto}{n:Nat}{kvs:List (Key × D)}(s:Sim K ρ S H) (h:dctR S n=some kvs):∃a vs,ρ[n]? = some a/\Rd H a (.dK ((kvs.map (·.1)).zip vs))/\RDs ρ H (kvs.map (·.2)) vs:=by
 unfold L3.dctR at h
 split at h
 ·rename_i e
  cases h
  obtain ⟨a,vs,ha,hH,r⟩:=s.dct e
  exact ⟨a,vs,ha,.inl hH,r⟩
 ·rename_i e
  cases h
  have hl:n<ρ.length:=by rw [s.len];exact (qme e).1
  obtain ⟨o,vs,e1,r⟩:=s.at' n _ _ (qge hl) e
  exact ⟨_,vs,qge hl,.inr ⟨o,e1⟩,r⟩
 ·cases h
section
variable {X:Cx}{a b:Expr}{ma mb:EM}{pos:Pos}{k:Nat}
end
open PySem.W
section
variable {M:Model}{A:Around}{E:Value->Shared->Prop}{s:Shared}{base:Heap}{env:Env}{outer:List Env}{L e C T:Addr}{Q:Unit->Shared->Prop}
end
section
variable {P:Program}{w:World}{K:QFg}{mg:Str->Option Value}{base:Heap}{N:List Str}{qual:Str}{scope:Scope}{f:Addr}{cd:Value}{A:Around}{outer:List Env}{s:Shared}{H:Hp}{E:XK}
end
noncomputable abbrev ZM:=Lo->Sto->Option (Str × Sto)
noncomputable abbrev ZF:=List D->Sto->Option (Str × Sto)
section
variable {X:Cx}{E:XK}{CA:Str->Addr}{e:Expr}{es:List Expr}{st:Stmt}{rest:List Stmt}{r q:ZM}{m:EM}{b:SM}{pos:Pos}
end
section
variable {X:Cx}{E:XK}{CA:Str->Addr}{a:Expr}{es:List Expr}{mA:AM}{pos p:Pos}{x:Str}{k j n:Nat}{rx:ZF}
end
section
variable {P:Program}{w:World}{K:QFg}{mg:Str->Option Value}{base:Heap}{N:List Str}{qual:Str}{scope:Scope}{f:Addr}{cd:Value}{A:Around}{outer:List Env}{s:Shared}{H:Hp}{E:XK}{CA:Str->Addr}
end
section
variable {M:Model}{A:Around}{E:Value->Shared->Prop}{s:Shared}{base:Heap}{env:Env}{outer l:List Env}{L e C T:Addr}{Q:Unit->Shared->Prop}
end
section
variable {X:Cx}{pins:List (Addr × Obj)}{σ:L2.St}{H:Hp}{s:Shared}{h':Heap}{a T:Addr}{t':Nat}
end
section
variable {M:Model}{A:Around}{E:Value->Shared->Prop}{h:Heap}{g:Array GenState}{d:Drawn}{t:Nat}{os:OsState}
variable {nm q nm' q':Str}{C N D N':Addr}{bs bm bs' bm':List Value}{hdct hdct':Bool}{sn sn':List Str}{sub sub':List Value}{ab ab':Bool}{col col':Option Bool}{dd dd':Option Addr}{k0 k1 k2 k3 k5 k0' k1' k2' k3' k5':Option Value}{newId newId':String}
end
section
variable {X:Cx}{pins:List (Addr × Obj)}{σ:L2.St}{H:Hp}{s:Shared}{a C T:Addr}{e:Value}
end
section
variable {X:Cx}{pins:List (Addr × Obj)}{σ:L2.St}{tS:TS}{i:Nat}{Dh:Addr}{n hx:Str}{np hpos:Pos}{b0:Stmt}{suite:List Stmt}
end
section
variable {X:Cx}{E:XK}{CA:Str->Addr}{a:Expr}{es:List Expr}{mA:AM}{cpos p apos py tpos:Pos}{x y:Str}{k j n:Nat}{rx:ZF}
variable {tN tS:TS}{i:Nat}{Dh:Addr}{nm hx:Str}{np hpos:Pos}{b0:Stmt}{suite:List Stmt}
end
section
variable {X:Cx}{E:XK}{CA:Str->Addr}{a:Expr}{es:List Expr}{mA:AM}{cpos p apos py tpos:Pos}{x y:Str}{k j n:Nat}{rx:ZF}{i:Nat}{Dh:Addr}{nm hx:Str}{np hpos:Pos}{b0:Stmt}{suite:List Stmt}{mN mS:SM}{ok:Str->Bool}
end
open PySem.Builtin PySem.Builtin.ObjectAttr PySem.Builtin.Getset_descriptor
section
variable {prog:Program}{w:World}{A:Around}{E:Value->Shared->Prop}{h:Heap}{g:Array GenState}{d:Drawn}{t:Nat}{os:OsState}{a:Addr}{o:Obj}{K:QFg}{C:Addr}
end
section
variable {prog:Program}{w:World}{A:Around}{E:Value->Shared->Prop}{h:Heap}{g:Array GenState}{d:Drawn}{t:Nat}{os:OsState}{a:Addr}{o:Obj}{K:QFg}{C:Addr}
end
section
variable {X:Cx}{es:List Expr}{Cs:List Addr}{y:Str}{C:Addr}{p:Pos}
end
section
variable {X:Cx}{a:Expr}{ma:EM}{pos p tp p2:Pos}{es:List Expr}{Cs:List Addr}{x1:Nat}{tab:List (Str × Bool)}{y:Str}{D0:Addr}
end
noncomputable def zrm (X:Cx) (T:String) (ty:V->Hp->Prop):Prop:=∀(pins:List (Addr × Obj)) (s:Shared) (σ:St) (H:Hp) (x:V) (v:Value),Inv X pins σ H s->RelV x v->ty x H ->
 s.TypeIs v T/\∀a,v=.ref a->∃ob,s.heap.get? a=some ob/\ob.dict=none
section
variable {X:Cx}{o e:Expr}{es:List Expr}{to:TE}{t:TA}{name:Str}{apos cpos:Pos}{T id:String}{r:V->List V->Hp->VK->Prop}{ty:V->Hp->Prop}
theorem yc8 (tok:zrm X T ty) (pa:PlainAttrs T) (slot:Slot T name id) (hty:typeOf (.builtin id)=pure (.type "method_descriptor")) (hm:MtM X id r) (ho:PE X o to) (ha:PA X (e :: es) t)
  (hbase:attributeBase o name X.env (eval o X.env)=eval o X.env:=by rfl)
  (hfew:((backTo cpos (starEach (e :: es) X.env)).all (fun x=>!x.1) && (backToKw cpos (keywordEach [] X.env)).all (fun x=>x.1.isSome)
   && decide ((e :: es).length+([]:List Keyword).length+(if ([]:List Keyword).isEmpty then 0 else 1)<30))=true:=by rfl)
  (hline:(apos.endLine == cpos.line)=true:=by rfl) (hs:starEach (e :: es) X.env=(false,eval e X.env) :: starEach es X.env:=by rfl) (hplain:(backTo cpos (starEach es X.env)).any (·.1)=false:=by rfl) :
  PE X (.Call (.Attribute o name apos) (e :: es) [] cpos) (fun σ H Q=>to σ H fun x H1=>ty x H1/\t σ H1 fun xs H2=>r x xs H2 Q):=by
 intro pins s σ H Q I h
 refine wpAny_Call_method_late hbase hfew hline rfl (thn (ho pins s σ H _ I h) fun v s1 ⟨x,H1,I1,r1,ty1,q1⟩=>?_)
 obtain ⟨h1,h2⟩:=tok pins s1 σ H1 x v I1 r1 ty1
 refine ⟨T,id,pa,slot,hty,h1,h2,?_⟩
 have hA:=ha cpos pins s1 σ H1 _ I1 q1
 rw [hs] at hA ⊢
 refine Calls.callWith_builtin (by show (false || (backTo cpos (starEach es X.env)).any (·.1))=false;rw [hplain] <;> rfl) (Calls.evalArgs_plain ?_)
 exact thn hA fun us s2 ⟨vs,H2,I2,r2,q2⟩=>hm pins s2 σ H2 x vs v us Q I2 r1 r2 q2
end
theorem yc9 (is:List Int):zd7 (is.map D.int)=some is:=by
 induction is with
 | nil=>rfl
 | cons i r ih=>show (zd7 (r.map D.int)).bind _=_;rw [ih];rfl
section
variable {X:Cx}{j:Nat}
end
section
variable {X:Cx}{j:Nat}{o e:Expr}{mo m:EM}{apos cpos:Pos}
variable {a b:Expr}{ma mb:EM}{pos:Pos}
end
noncomputable def zjd:List D->Option (List Key)
 | []=>some []
 | x :: r=>(zf0 x).bind fun k=>(zjd r).bind fun ks=>some (k :: ks)
noncomputable def zlc:D->Option (List Key)
 | .tup xs=>zjd xs
 | _=>none
theorem zrn {ρ:List Addr}{H:Hp}:∀{xs:List D}{ks:List Key}{vs:List V},zjd xs=some ks->RDs ρ H xs vs->vs=ks.map kV
 | [],ks,vs,h,r=>by cases h;cases r;rfl
 | x :: xs,ks,vs,h,r=>by
  cases r with
  | cons r1 r2 =>
   obtain ⟨k,h1,h⟩:=bnd (show (zf0 x).bind (fun k=>(zjd xs).bind fun ks=>some (k :: ks))=some ks from h)
   obtain ⟨ks',h2,h⟩:=bnd h
   cases h
   rw [zrn h2 r2,zh3 h1 r1];rfl
theorem znl {ρ:List Addr}{H:Hp}{d:D}{v:V}{k:List Key}(h:zlc d=some k) (r:RD ρ H d v):∃b,v=.ref b/\H b=some (.tup (k.map kV)):=by
 cases r with
 | @tup xs b vs hb rs =>
  have:=zrn (show zjd xs=some k from h) rs
  subst this
  exact ⟨b,rfl,hb⟩
 | _=>cases h
noncomputable def zf3 (kvs:List (List Key × D)) (k:List Key):Option D:=(kvs.find? fun kv=>decide (kv.1=k)).map (·.2)
noncomputable def zld (kvs:List (List Key × D)) (k:List Key) (v:D):List (List Key × D):=if (kvs.any fun kv=>decide (kv.1=k))=true then kvs.map (fun kv=>if kv.1=k then (kv.1,v) else kv) else kvs++[(k,v)]
section
variable {K:QFg}{ρ:List Addr}{H:Hp}{S:Sto}
theorem znm {k:List Key}:∀{kvs:List (List Key × D)}{vs:List V},RDs ρ H (kvs.map (·.2)) vs->(zf3 kvs k=none->zc2 ((kvs.map (·.1)).zip vs) k=none)/\∀d,zf3 kvs k=some d->∃v,zc2 ((kvs.map (·.1)).zip vs) k=some v/\RD ρ H d v
 | [],vs,r=>by
  cases r
  exact ⟨fun _=>rfl,fun d h=>by cases h⟩
 | (k',d') :: kvs,vs,r=>by
  cases r with
  | @cons _ v _ vs r1 r2 =>
   by_cases e:k' = k
   ·have e1:zf3 ((k',d') :: kvs) k=some d':=by simp [zf3,e]
    have e2:zc2 ((((k',d') :: kvs).map (·.1)).zip (v :: vs)) k=some v:=zin (p:=(k',v)) e
    rw [e1,e2]
    exact ⟨fun z=>(by cases z),fun d h=>(by cases h;exact ⟨v,rfl,r1⟩)⟩
   ·have e1:zf3 ((k',d') :: kvs) k=zf3 kvs k:=by simp [zf3,e]
    have e2:zc2 ((((k',d') :: kvs).map (·.1)).zip (v :: vs)) k=zc2 ((kvs.map (·.1)).zip vs) k:=zio (p:=(k',v)) e
    rw [e1,e2]
    exact znm r2
theorem zro (k:List Key):∀{kvs:List (List Key × D)}{vs:List V},RDs ρ H (kvs.map (·.2)) vs->(((kvs.map (·.1)).zip vs).any fun kv=>decide (kv.1=k))=kvs.any fun kv=>decide (kv.1=k)
 | [],vs,r=>by cases r;rfl
 | (k',d') :: kvs,vs,r=>by
  cases r with
  | @cons _ v _ vs r1 r2 =>
   show (decide (k' = k) || (((kvs.map (·.1)).zip vs).any fun kv=>decide (kv.1=k)))=(decide (k' = k) || _)
   rw [zro k r2]
theorem yda {k:List Key}{d:D}{v:V}(rv:RD ρ H d v) {kvs:List (List Key × D)}{vs:List V}(r:RDs ρ H (kvs.map (·.2)) vs):∃ws,zcp ((kvs.map (·.1)).zip vs) k v=((zld kvs k d).map (·.1)).zip ws/\RDs ρ H ((zld kvs k d).map (·.2)) ws:=by
 unfold zcp zld
 rw [zro k r]
 by_cases e:(kvs.any fun kv=>decide (kv.1=k))=true
 ·rw [if_pos e,if_pos e]
  clear e
  induction kvs generalizing vs with
  | nil=>cases r;exact ⟨[],rfl,.nil⟩
  | cons p kvs ih =>
   obtain ⟨k',d'⟩:=p
   cases r with
   | @cons _ u _ us r1 r2 =>
    obtain ⟨ws,h1,h2⟩:=ih r2
    by_cases e:k' = k
    ·refine ⟨v :: ws,?_,?_⟩
     ·simp only [List.map_cons,List.zip_cons_cons,if_pos e];rw [←h1]
     ·simp only [List.map_cons,if_pos e];exact .cons rv h2
    ·refine ⟨u :: ws,?_,?_⟩
     ·simp only [List.map_cons,List.zip_cons_cons,if_neg e];rw [←h1]
     ·simp only [List.map_cons,if_neg e];exact .cons r1 h2
 ·rw [if_neg e,if_neg e]
  refine ⟨vs++[v],?_,?_⟩
  ·rw [List.map_append,List.zip_append (by rw [qlm];have:=r.length;rw [qlm] at this;exact this)];rfl
  ·rw [List.map_append];exact r.append (.cons rv .nil)
end
noncomputable def dRd (S:Sto):D->D->Option (Option D)
 | .ref n,y=>match S[n]? with
  | some (.dct kvs)=>(zf0 y).bind fun k=>some (zdy kvs k)
  | some (.fdct kvs)=>(zf0 y).bind fun k=>some (zdy kvs k)
  | some (.tdct kvs)=>(zlc y).bind fun k=>some (zf3 kvs k)
  | some (.ftdct kvs)=>(zlc y).bind fun k=>some (zf3 kvs k)
  | _=>none
 | _,_=>none
noncomputable def Ro1 (ρ:List Addr) (H:Hp) (o:Option D) (o':Option V):Prop:=(o=none->o' = none)/\∀d,o=some d->∃v,o' = some v/\RD ρ H d v
theorem Sim.dRd {K:QFg}{ρ:List Addr}{H:Hp}{S:Sto}{x y:D}{x' y':V}{o:Option D}(s:Sim K ρ S H) (rx:RD ρ H x x') (ry:RD ρ H y y') (h:L3.dRd S x y=some o):∃a o',x' = .ref a/\DGet H a y' o'/\Ro1 ρ H o o':=by
 unfold L3.dRd at h
 split at h
 ·cases rx with
  | @ref n a hn =>
   split at h
   ·rename_i e
    obtain ⟨k,hk,h⟩:=bnd h
    cases h
    obtain ⟨vs,hH,r⟩:=s.at' _ a _ hn e
    have ey:=zh3 hk ry
    subst ey
    exact ⟨a,_,rfl,.inl ⟨_,k,.inl hH,rfl,rfl⟩,zk6 r⟩
   ·rename_i e
    obtain ⟨k,hk,h⟩:=bnd h
    cases h
    obtain ⟨ob,vs,hH,r⟩:=s.at' _ a _ hn e
    have ey:=zh3 hk ry
    subst ey
    exact ⟨a,_,rfl,.inl ⟨_,k,.inr ⟨ob,hH⟩,rfl,rfl⟩,zk6 r⟩
   ·rename_i e
    obtain ⟨k,hk,h⟩:=bnd h
    cases h
    obtain ⟨vs,hH,r⟩:=s.at' _ a _ hn e
    obtain ⟨b,rfl,hb⟩:=znl hk ry
    exact ⟨a,_,rfl,.inr ⟨_,k,b,.inl hH,rfl,hb,rfl⟩,znm r⟩
   ·rename_i e
    obtain ⟨k,hk,h⟩:=bnd h
    cases h
    obtain ⟨ob,vs,hH,r⟩:=s.at' _ a _ hn e
    obtain ⟨b,rfl,hb⟩:=znl hk ry
    exact ⟨a,_,rfl,.inr ⟨_,k,b,.inr ⟨ob,hH⟩,rfl,hb,rfl⟩,znm r⟩
   ·cases h
 ·cases h
noncomputable def zg8:D->D->Sto->Option (D × Sto):=fun x y S=>(dRd S x y).bind fun o=>o.bind fun v=>some (v,S)
theorem ydb {K:QFg}:Op3 K zg8 zra:=by
 intro ρ S H x y x' y' v S' Q sim rx ry h p
 obtain ⟨o,h1,h⟩:=bnd h
 obtain ⟨w,h2,h⟩:=bnd h
 cases h
 obtain ⟨a,o',rfl,g,r⟩:=sim.dRd rx ry h1
 obtain ⟨u,e,ru⟩:=r.2 _ h2
 subst e
 exact ⟨a,u,rfl,g,p ρ H u (Ext.refl ..) sim ru⟩
section
variable {X:Cx}{a b e f o i value:Expr}{ma mb me mf mo mi mv:EM}{pos pos' apos cpos:Pos}{k:Nat}
theorem zrp (hr:Room k X.A) (ha:PE3 X a ma) (hb:PE3 X b mb) (hs:zko b:=by intro _ _;rfl):PE3 X (.Subscript a b pos) (eOp zg8 ma mb):=PE.imp (zpn (zk7 hr) ha hb hs) (zht ydb)
end
section
variable {X:Cx}{pos:Pos}
end
theorem zrq (kvs:List (List Key × V)):zgr (.dT kvs):=⟨fun _ z=>(by cases z),fun _ _ z=>(by cases z)⟩
noncomputable def zg9:D->D->D->Sto->Option Sto
 | .ref n,y,v,S=>match S[n]? with
  | some (.dct kvs)=>(zf0 y).bind fun k=>if kvs.length<sizeLine then some (S.set n (.dct (zf1 kvs k v))) else none
  | some (.tdct kvs)=>(zlc y).bind fun k=>if kvs.length<sizeLine then some (S.set n (.tdct (zld kvs k v))) else none
  | _=>none
 | _,_,_,_=>none
theorem ydc {ρ:List Addr}{H:Hp}{kvs:List (List Key × D)}{vs:List V}(r:RDs ρ H (kvs.map (·.2)) vs):((kvs.map (·.1)).zip vs).length=kvs.length:=by
 rw [List.length_zip,qlm];have:=r.length;rw [qlm] at this;omega
theorem ydd {K:QFg}{ρ:List Addr}{S S':Sto}{H:Hp}{x y d:D}{x' y' v':V}(s:Sim K ρ S H) (rx:RD ρ H x x') (ry:RD ρ H y y') (rd:RD ρ H d v') (h:zg9 x y d S=some S'):∃a H',x' = .ref a/\DPut H a y' v' H'/\Ext ρ H ρ H'/\Sim K ρ S' H':=by
 unfold zg9 at h
 split at h
 ·cases rx with
  | @ref n a hn =>
   split at h
   ·rename_i kvs e
    obtain ⟨k,hk,h⟩:=bnd h
    obtain ⟨hz,e2⟩:=zbt h
    cases e2
    obtain ⟨vs,hH,r⟩:=s.at' _ a _ hn e
    have ey:=zh3 hk ry
    subst ey
    obtain ⟨ws,hw1,hw2⟩:=zq9 (k:=k) rd r
    have ex:=zmk (o:=.dK (zcp ((kvs.map (·.1)).zip vs) k v')) hn hH (zk8 _)
    refine ⟨a,_,rfl,DPut.k hH (by rw [yc7 r];exact hz),ex,s.setG hn e rfl hH (zk8 _) ⟨ws,by rw [zcz,hw1],hw2.mono ex⟩⟩
   ·rename_i kvs e
    obtain ⟨k,hk,h⟩:=bnd h
    obtain ⟨hz,e2⟩:=zbt h
    cases e2
    obtain ⟨vs,hH,r⟩:=s.at' _ a _ hn e
    obtain ⟨b,rfl,hb⟩:=znl hk ry
    obtain ⟨ws,hw1,hw2⟩:=yda (k:=k) rd r
    have ex:=zmk (o:=.dT (zcp ((kvs.map (·.1)).zip vs) k v')) hn hH (zrq _)
    refine ⟨a,_,rfl,DPut.t hH hb (by rw [ydc r];exact hz),ex,s.setG hn e rfl hH (zrq _) ⟨ws,by rw [zcz,hw1],hw2.mono ex⟩⟩
   ·cases h
 ·cases h
noncomputable def zje (o i:EM):GM:=fun v l S=>(o l S).bind fun p=>(i l p.2).bind fun q=>(zg9 p.1 q.1 v q.2).bind fun S'=>some (l,S')
section
variable {X:Cx}{o i value:Expr}{mo mi mv:EM}{pos pos':Pos}{k:Nat}
theorem zrr (hr:Room k X.A) (ho:PE3 X o mo) (hi:PE3 X i mi) (hv:PE3 X value mv) (hs:swapsWith value (some (.Subscript o i pos')) pos.line X.env=pure false:=by rfl) :
  PS3 X (.Assign [.Subscript o i pos'] value pos) (zap mv (zje mo mi)):=PS.imp (zpo (zk7 hr) ho hi hv hs) fun E σ H hx4_=>by
 obtain ⟨ρ,l,S,f,l',S',sim,ro,hm,p⟩:=hx4_
 obtain ⟨⟨d,S1⟩,h1,hm⟩:=bnd hm
 obtain ⟨⟨l2,S2⟩,h2,hm⟩:=bnd hm
 obtain ⟨⟨x,S3⟩,h3,h2⟩:=bnd h2
 obtain ⟨⟨y,S4⟩,h4,h2⟩:=bnd h2
 obtain ⟨S5,h5,h2⟩:=bnd h2
 cases h2;cases hm
 refine ⟨ρ,l,S,d,S1,sim,ro,h1,fun ρ1 H1 v' e1 s1 r1=>⟨ρ1,l,S1,x,S3,s1,ro.mono e1,h3,fun ρ2 H2 x' e2 s2 r2=>⟨ρ2,l,S3,y,S4,s2,(ro.mono e1).mono e2,h4,fun ρ3 H3 y' e3 s3 r3=>?_⟩⟩⟩
 obtain ⟨a,H4,rfl,pu,ex,s4⟩:=ydd s3 (r2.mono e3) r3 (r1.mono (e2.trans e3)) h5
 exact ⟨a,H4,rfl,pu,p ρ3 _ σ ((e1.trans (e2.trans e3)).trans ex) s4 ((((ro.mono e1).mono e2).mono e3).mono ex)⟩
end
noncomputable def Fnc (K:QFg) (mg:Str->Option Value) (x:Str):Prop:=∃f o,PySem.W.nsIn K mainGlobals x=some (some (.ref f))/\K.lookup f=some o/\mg x=some (.ref f)
section
variable {K:QFg}{ρ:List Addr}{H:Hp}{S:Sto}
end
section
variable {X:Cx}{x y:Str}{pos p:Pos}{a:Expr}{es:List Expr}
end
section
variable {k:Nat}{names:List (Str × NameKind)}{acc:List (Str × Addr)}
end
end L3
namespace SP
open PySem PySem.W PyProof.Rows PySem.Calls
section
variable {prog:Program}{w:World}{A:Around}{E:Value->Shared->Prop}{s:Shared}
end
end SP
namespace L3
open PySem PySem.Spec PyProof.Rows L2
section
variable {X:Cx}
end
section
variable {X:Cx}{a:Expr}{es:List Expr}{mA:AM}{pos p:Pos}
end
end L3
namespace SP
open PySem PySem.W PyProof.Rows PySem.Calls
noncomputable def DAt (h:Heap) (d:Addr) (es:Array DictEntry) (ep:Nat):Prop:=∃o,h.get? d=some o/\o.ExactDict/\o.data=.dict es ep
section
variable {prog:Program}{w:World}{A:Around}{E:Value->Shared->Prop}{s:Shared}{d it:Addr}{es:Array DictEntry}{ep i:Nat}
theorem DAt.keep {h h':Heap}(x:DAt h d es ep) (k:∀o,h.get? d=some o->h'.get? d=some o):DAt h' d es ep:=let ⟨o,e,r⟩:=x;⟨o,k o e,r⟩
theorem DAt.lt {h:Heap}(x:DAt h d es ep):d<h.objs.size:=let ⟨_,e,_⟩:=x;Heap.lt_size e
theorem DAt.ty (x:DAt s.heap d es ep):s.TypeIs (.ref d) "dict":=let ⟨o,e,c,_⟩:=x;⟨o,e,c.1⟩
theorem yde {Q:Value->Shared->Prop}(hd:(d == sysModules)=false) (x:DAt s.heap d es ep)
  (hQ:Q (.ref s.heap.objs.size) { s with heap:=s.heap.push { cls:=.type "dict_keyiterator",data:=.fields #[.ref d,.int 0 0,.int es.size 0,.int ep 0] } }):wpAny (model prog w) A (pyIter (.ref d)) Q E s:=by
 obtain ⟨o,ho,_,dat⟩:=id x
 refine wpAny_pyIter_slot x.ty PySem.F.slot_dict_iter (wpAny_call_entry PySem.F.slot_dict_iter x.ty PySem.F.entry_dict_iter (show wpAny _ _ (Builtin.«dict.__iter__» _) _ _ _ from ?_) (PySem.F.args_dict_iter_1 _))
 unfold Builtin.«dict.__iter__» Builtin.Dict.dictSlotNone
 refine wpAny_bind (wpAny_bind (wpAny_notOrdered_dict x.ty (show wpAny _ _ (pure (Value.ref d)) _ _ s from wpAny_pure ?_)))
 show wpAny _ _ (Builtin.Dict.showsAll d >>= _) _ _ s
 unfold Builtin.Dict.showsAll
 rw [hd,if_neg Bool.false_ne_true]
 refine wpAny_bind (wpAny_pure (wpAny_bind (wpAny_dictEntries ho dat (wpAny_bind (wpAny_dictEpoch ho dat ?_)))))
 refine wpAny_bind (wpAny_newObj_type (wpAny_pure ⟨_,rfl,"dict_keyiterator",_,⟨_,Heap.get?_push_size _ rfl,rfl⟩,PySem.F.slot_dict_keyiterator_next.lookup,by simpa [rawInt] using hQ⟩))
theorem ydf {Q:Option Value->Shared->Prop}(hit:s.heap.IsKeyIter it d i es.size ep) (x:DAt s.heap d es ep) (hi:i<es.size)
  (hQ:∀h',h'.IsKeyIter it d (i+1) es.size ep->Heap.SameBut it s.heap h'->Q (some es[i].key) { s with heap:=h' }):wpAny (model prog w) A (pyNext (.ref it)) Q E s:=by
 obtain ⟨o,ho,hc,hd⟩:=id hit
 obtain ⟨od,hod,_,hdd⟩:=id x
 have hown:Builtin.Dict_items.ownsTuple "dict_keyiterator" = false:=by decide
 unfold pyNext
 refine wpAny_bind (wpAny_attempt (wpAny_callSpecial?_slot (name:=Str.ofString "__next__") hit.typeIs PySem.F.slot_dict_keyiterator_next (wpAny_call_entry PySem.F.slot_dict_keyiterator_next hit.typeIs PySem.F.entry_dict_keyiterator_next ?_ (PySem.F.args_dict_keyiterator_next_1 _))))
 refine wpAny_bind (wpAny_pure (wpAny_bind (wpAny_bind ?_)))
 first|refine wpAny_bind (wpAny_typeNameOfWhole_keyiter hit.typeIs (wpAny_pure (wpAny_bind (wpAny_fieldsOf ho hd ?_))))|refine wpAny_bind (wpAny_typeNameOf_keyiter hit.typeIs (wpAny_pure (wpAny_bind (wpAny_fieldsOf ho hd ?_))))
 simp only [hown,Bool.false_eq_true,if_false]
 show wpAny _ _ (if (Value.ref d == Value.none)=true then _ else _) _ _ s
 rw [if_neg (show ¬((Value.ref d == Value.none)=true) from Bool.false_ne_true)]
 refine wpAny_bind (wpAny_pure (wpAny_bind (wpAny_dictEntries hod hdd ?_)))
 rw [if_neg (by simp)]
 refine wpAny_bind (wpAny_pure (wpAny_bind (wpAny_dictEpoch hod hdd ?_)))
 rw [if_neg (by simp)]
 refine wpAny_pure ?_
 simp only [show ¬((i:Int)<0) from by omega,if_false,Int.toNat_natCast,Array.getElem?_eq_getElem hi]
 refine wpAny_bind ?_
 first|refine wpAny_bind (wpAny_typeNameOfWhole_keyiter hit.typeIs (wpAny_pure (wpAny_bind (wpAny_isOneOf_keyiter hit.typeIs ?_))))|refine wpAny_bind (wpAny_typeNameOf_keyiter hit.typeIs (wpAny_pure (wpAny_bind (wpAny_isOneOf_keyiter hit.typeIs ?_))))
 show wpAny _ _ (setField (.ref it) 1 (rawInt ((i:Int)+1)) >>= _) _ _ s
 have on:(s.heap.update it (Obj.mapFields (·.setIfInBounds 1 (rawInt ((i:Int)+1))))).IsKeyIter it d (i+1) es.size ep:=⟨_,Heap.get?_update_self _ ho (Obj.isFreed_of_fields (Obj.data_mapFields hd _)),(Obj.cls_mapFields ..).trans hc,by rw [Obj.data_mapFields hd];simp [rawInt]⟩
 refine wpAny_bind (wpAny_setField ho hd (by simp) (wpAny_bind (wpAny_holding (wpAny_bind (wpAny_isOneOf_keyiter (s:={ s with heap:=s.heap.update it (Obj.mapFields (·.setIfInBounds 1 (rawInt ((i:Int)+1)))) }) on.typeIs ?_)))))
 show wpAny _ _ (pure es[i].key) _ _ _
 exact wpAny_pure (wpAny_pure ⟨_,rfl,wpAny_pure (hQ _ on (Heap.SameBut.update ..))⟩)
theorem ydg {Q:Option Value->Shared->Prop}(hh:A.handled=none) (hit:s.heap.IsKeyIter it d i es.size ep) (x:DAt s.heap d es ep) (hi:es.size<=i)
  (hQ:∀h',Heap.ExtBut it s.heap h'->Q none { s with heap:=h' }):wpAny (model prog w) A (pyNext (.ref it)) Q E s:=by
 obtain ⟨o,ho,hc,hd⟩:=id hit
 obtain ⟨od,hod,_,hdd⟩:=id x
 have hown:Builtin.Dict_items.ownsTuple "dict_keyiterator" = false:=by decide
 unfold pyNext
 refine wpAny_bind (wpAny_attempt (wpAny_callSpecial?_slot (name:=Str.ofString "__next__") hit.typeIs PySem.F.slot_dict_keyiterator_next (wpAny_call_entry PySem.F.slot_dict_keyiterator_next hit.typeIs PySem.F.entry_dict_keyiterator_next ?_ (PySem.F.args_dict_keyiterator_next_1 _))))
 refine wpAny_bind (wpAny_pure (wpAny_bind (wpAny_bind ?_)))
 first|refine wpAny_bind (wpAny_typeNameOfWhole_keyiter hit.typeIs (wpAny_pure (wpAny_bind (wpAny_fieldsOf ho hd ?_))))|refine wpAny_bind (wpAny_typeNameOf_keyiter hit.typeIs (wpAny_pure (wpAny_bind (wpAny_fieldsOf ho hd ?_))))
 simp only [hown,Bool.false_eq_true,if_false]
 show wpAny _ _ (if (Value.ref d == Value.none)=true then _ else _) _ _ s
 rw [if_neg (show ¬((Value.ref d == Value.none)=true) from Bool.false_ne_true)]
 refine wpAny_bind (wpAny_pure (wpAny_bind (wpAny_dictEntries hod hdd ?_)))
 rw [if_neg (by simp)]
 refine wpAny_bind (wpAny_pure (wpAny_bind (wpAny_dictEpoch hod hdd ?_)))
 rw [if_neg (by simp)]
 refine wpAny_pure ?_
 simp only [show ¬((i:Int)<0) from by omega,if_false,Int.toNat_natCast,Array.getElem?_eq_none hi]
 refine wpAny_bind ?_
 first|refine wpAny_bind (wpAny_typeNameOfWhole_keyiter hit.typeIs (wpAny_pure (show wpAny _ _ (setField (.ref it) 0 .none >>= _) _ _ s from ?_)))|refine wpAny_bind (wpAny_typeNameOf_keyiter hit.typeIs (wpAny_pure (show wpAny _ _ (setField (.ref it) 0 .none >>= _) _ _ s from ?_)))
 refine wpAny_bind (wpAny_setField ho hd (by simp) (show wpAny _ _ (newExc (.type "StopIteration") [] >>= _) _ _ _ from wpAny_bind ?_))
 simp only [newExc,newTuple]
 refine wpAny_bind (wpAny_newObj_type (wpAny_bind (m:=firstArgMember _ _) (wpAny_of_eq (a:=Value.none) (by first|rfl|(simp only [firstArgMember];rfl)) (wpAny_newObj_type ?_ (by size_fits)))) (by size_fits))
 simp only [raiseNew]
 refine wpAny_bind (wpAny_handled ?_)
 rw [show A.in1.handled=none from hh]
 refine wpAny_bind (wpAny_pure (wpAny_throw ?_))
 refine wpAny_bind (wpAny_isInstance (T:="StopIteration") (b:=true) ⟨_,Heap.get?_push_size _ rfl,rfl⟩ isSubtype_stop ?_)
 exact wpAny_pure (hQ _ (((Heap.SameBut.update ..).extBut.push _).push _))
theorem ydh (hh:A.handled=none) (I d:Addr) (hne:d≠I) (es:Array DictEntry) (ep:Nat) :
  Walks prog w A I [I,d] [I] es.size (fun i v=>es[i]?.map (·.key)=some v) (fun i h=>h.IsKeyIter I d i es.size ep/\DAt h d es ep) where
 sub:=fun b hb=>by simp at hb;simp [hb]
 frame:=fun _ _ _ st hk=>⟨st.1.at fun o e=>hk I (by simp) o e,st.2.keep fun o e=>hk d (by simp) o e⟩
 item:=fun i s Q E hi st hQ=>ydf st.1 st.2 hi fun h' hit' hs'=>hQ _ h' s.toks (by simp [hi]) ⟨hit',st.2.keep fun o e=>hs'.extBut d o hne e⟩ fun b o hb e=>hs'.extBut b o (fun h=>hb (by simp [h])) e
 done:=fun s Q E st hQ=>ydg hh st.1 st.2 (qlr _) fun h' he'=>hQ h' s.toks fun b o hb e=>he' b o (fun h=>hb (by simp [h])) e
 self:=fun _ _ _ _ st hQ=>wpAny_pyIter_keyiter st.1 hQ
theorem ydi (lo:(d == sysModules)=false):KdlSrc prog w "dict" d d es.size (fun i v=>es[i]?.map (·.key)=some v) (fun h=>DAt h d es ep) where
 type:=fun _ hm=>hm.ty
 there:=fun _ hm=>⟨hm.lt,hm.lt⟩
 keep:=fun _ _ hm hk=>hm.keep fun o e=>hk d (.inl rfl) o e
 notList:=by decide
 notTuple:=by decide
 hint:=fun _ _ _ _ hm hq=>kdl_hint_dict hm.ty hq
 iter:=fun _ _ hh hm=>⟨_,_,(fun _ _ hq=>yde lo hm hq),ydh hh _ d (Nat.ne_of_lt hm.lt) es ep,⟨⟨_,Heap.get?_push_size _ rfl,rfl,rfl⟩,hm.keep fun o e=>qps _ e⟩⟩
theorem collectR {R:List Value->Shared->Prop}(lo:(d == sysModules)=false) (hh:A.handled=none) (x:DAt s.heap d es ep) (hn:es.size<=sizeLine)
  (h:∀(h':Heap) (tk:Nat),s.heap.objs.size<=h'.objs.size->(∀b o,s.heap.get? b=some o->h'.get? b=some o)->R (es.toList.map (·.key)) { s with heap:=h',toks:=tk }):wpAny (model prog w) A (collect (.ref d)) R E s:=by
 have K:=ydi (prog:=prog) (w:=w) (es:=es) (ep:=ep) lo
 have hS₁:(s.heap.push { cls:=.type "list",data:=.seq ([]:List Value).toArray }).get? s.heap.objs.size=some { cls:=.type "list",data:=.seq #[] }:=Heap.get?_push_size _ rfl
 have zge:∀(h':Heap) (tk:Nat) (acc:Array Value) (c:Nat),(∀b o,s.heap.get? b=some o->h'.get? b=some o)->h'.get? s.heap.objs.size=some { cls:=.type "list",dict:=none,data:=.seq acc c,slots:=#[] }->ItemsOf (fun i v=>es[i]?.map (·.key)=some v) acc es.size->R acc.toList { s with heap:=h',toks:=tk }:=fun h' tk acc c k g a=>by
  have e:acc.toList=es.toList.map (·.key):=by
   apply List.ext_getElem?
   intro j
   rw [qgm,Array.getElem?_toList,Array.getElem?_toList]
   rcases Nat.lt_or_ge j acc.size with hj|hj
   ·rw [Array.getElem?_eq_getElem hj]
    exact (a.2 j _ (Array.getElem?_eq_getElem hj)).symm
   ·rw [Array.getElem?_eq_none hj,Array.getElem?_eq_none (by rw [←a.1];exact hj)];rfl
  rw [e]
  exact h h' tk (Nat.le_of_lt (Heap.lt_size g)) k
 unfold collect
 refine wpAny_bind (wpAny_runValue (codeAny_builtin entry_proto_collect' ?_))
 rw [Around.under_plainId PySem.F.plain_proto_collect _]
 refine wpAny_bind (m:=newList []) (wpAny_newObj_type (wpAny_pure ⟨plainId_quiet PySem.F.plain_list_iadd _,codeAny_builtin entry_list_iadd' ?_⟩))
 rw [Around.under_plainId PySem.F.plain_list_iadd _]
 have key:=kdl_extend (A:=A) (s:={ s with heap:=s.heap.push { cls:=.type "list",data:=.seq ([]:List Value).toArray } }) (R:=fun (q:Result) (s':Shared)=>∃(h':Heap) (tk:Nat) (acc:Array Value) (c:Nat),q=.ok (.ret (.ref s.heap.objs.size))/\s' = { s with heap:=h',toks:=tk }/\(∀b o,s.heap.get? b=some o->h'.get? b=some o)/\h'.get? s.heap.objs.size=some { cls:=.type "list",dict:=none,data:=.seq acc c,slots:=#[] }/\ItemsOf (fun i v=>es[i]?.map (·.key)=some v) acc es.size)
  K hh (K.keep _ _ x fun b _ o e=>qps _ e) s.heap.objs.size (Nat.ne_of_gt x.lt) (Nat.ne_of_gt x.lt) (.ref s.heap.objs.size) 0 hS₁
  (fun h' tk acc c hk hS' hacc=>⟨h',tk,acc,c,rfl,rfl,fun b o e=>hk b o (Nat.ne_of_lt (Heap.lt_size e)) (qps _ e),hS',hacc⟩) hn
 refine wpAny_mono key (fun fin s' z=>?_) fun e s' z=>let ⟨_,_,_,_,e',_⟩:=z;(by cases e')
 cases fin with
 | done f =>
  obtain ⟨h',tk,acc,c,e,rfl,k,g,a⟩:=z
  cases e
  show wpAny _ A (load s.heap.objs.size >>= _) _ _ _
  exact wpAny_bind (wpAny_load g (wpAny_pure (zge h' tk acc c k g a)))
 | again c₁ =>
  refine ⟨z.1,codeAny_mono z.2 fun q s₂ y=>?_⟩
  obtain ⟨h',tk,acc,c,rfl,rfl,k,g,a⟩:=y
  show wpAny _ A (load s.heap.objs.size >>= _) _ _ _
  exact wpAny_bind (wpAny_load g (wpAny_pure (zge h' tk acc c k g a)))
end
end SP
namespace L3
open PySem PySem.Spec PyProof.Rows L2
section
variable {X:Cx}{tg:Expr}
end
section
variable {X:Cx}{tgt iter:Expr}{m:EM}
end
section
variable {X:Cx}
end
section
variable {X:Cx}{a:Expr}{es:List Expr}{mA:AM}{pos p:Pos}
end
section
variable {X:Cx}{a:Expr}
end
section
variable {prog:Program}{w:World}{A:Around}{E:Value->Shared->Prop}{s:Shared}{c:Addr}{i j:Int}{t u:Tok}
end
section
variable {X:Cx}
end
section
variable {X:Cx}{a:Expr}{es:List Expr}{mA:AM}{pos p:Pos}
end
section
variable {prog:Program}{w:World}{K:Type} [DecidableEq K] {knd:HeapKind prog w K}{A:Around}{E:Value->Shared->Prop}{s:Shared}{d a:Addr}{k:K}{xs:List (K × Addr × Value)}{z:Value}
end
section
variable {X:Cx}{o e f:Expr}{td ty tx:TE}{apos cpos:Pos}
end
section
variable {X:Cx}{o e f:Expr}{mo me mf:EM}{apos cpos:Pos}{k:Nat}
end
section
variable {h:Heap}{p:PyData}
end
section
variable {X:Cx}{k:Nat}
variable {a b:Expr}{ma mb:EM}{pos:Pos}
end
section
variable {X:Cx}{k:Nat}
variable {o e:Expr}{mo me:EM}{apos cpos:Pos}
end
section
variable {X:Cx}{o:Expr}{mo:EM}{apos cpos:Pos}
end
section
variable {X:Cx}{pos:Pos}{ke ve:Expr}
end
section
variable {X:Cx}{pos:Pos}{ke ve:Expr}{mk mv:EM}{k:Nat}
end
section
variable {X:Cx}
end
section
variable {X:Cx}{a:Expr}{es:List Expr}{mA:AM}{pos p:Pos}
end
section
variable {elt t1 i1 t2 i2:Expr}{ifs1 ifs2:List Expr}{scope:Scope}{pos:Pos}{it acc:Value}{env:Env}
noncomputable abbrev two (elt t1 i1 t2 i2:Expr) (ifs1 ifs2:List Expr) (scope:Scope) (pos:Pos):Expr:=.ListComp elt [⟨t1,i1,ifs1,0⟩,⟨t2,i2,ifs2,0⟩] scope pos
theorem ydj:compTurn (two elt t1 i1 t2 i2 ifs1 ifs2 scope pos) 0 it acc env=(do
  standAt i1.pos
  match ←pyNext it with
  | none=>pure (.done .next)
  | some v =>
   letOwnedTupleGo t1 it v
   assign t1 env v
   let mut ok:=true
   for c in ifs1 do
    if ok then ok ←isTrue c env (eval c env)
   if ok then
    let x ←eval i2 env
    standAt i2.pos
    let x ←foldedSetIterable i2 env x
    let _ ←runOwn (.compStart (two elt t1 i1 t2 i2 ifs1 ifs2 scope pos) 1 (←holding [x] (pyIter x)) acc env) env
   again (.compLoop (two elt t1 i1 t2 i2 ifs1 ifs2 scope pos) 0 it acc env)):=by rfl
theorem ydk:compTurn (two elt t1 i1 t2 i2 ifs1 ifs2 scope pos) 1 it acc env=(do
  standAt i2.pos
  match ←pyNext it with
  | none=>pure (.done .next)
  | some v =>
   letOwnedTupleGo t2 it v
   assign t2 env v
   let mut ok:=true
   for c in ifs2 do
    if ok then ok ←isTrue c env (eval c env)
   if ok then
    (do let _ ←call (.builtin "list.append") [acc,←eval elt env])
   again (.compLoop (two elt t1 i1 t2 i2 ifs1 ifs2 scope pos) 1 it acc env)):=by rfl
variable {prog:Program}{w:World}{A:Around}{R:Result->Shared->Prop}{s:Shared}
theorem ydl (h0:codeAny (model prog w) A (.compLoop (two elt t1 i1 t2 i2 ifs1 ifs2 scope pos) 1 it acc env) R s)
  (h:wpAny (model prog w) A (pyIter it) (fun it' s'=>codeAny (model prog w) A (.compLoop (two elt t1 i1 t2 i2 ifs1 ifs2 scope pos) 1 it' acc env) R s') (notedBy (model prog w) A env fun x s'=>R (.error x) s') s) :
  codeAny (model prog w) A (.compStart (two elt t1 i1 t2 i2 ifs1 ifs2 scope pos) 1 it acc env) R s:=by
 refine codeAny_of_tree ?_
 show wpAny _ _ ((compStart (two elt t1 i1 t2 i2 ifs1 ifs2 scope pos) 1 it acc env).onRaise (fun x=>do noteFrame x env;standAt theWindowsPlace)) _ _ s
 refine wpAny_notedAt ?_
 unfold compStart
 show wpAny _ _ (ask >>= _) _ _ s
 refine wpAny_bind (wpAny_askSetting (wpAny_ite ?_))
 split
 ·first
   | exact wpAny_bind (wpAny_pure (wpAny_pure (And.intro rfl h0)))
   | exact wpAny_pure (And.intro rfl h0)
 ·first
   | exact wpAny_bind (wpAny_rule (wpAny_bind (wpAny_standAt (wpAny_bind (wpAny_mono h (fun it' s' h'=>wpAny_pure (And.intro rfl h')) fun _ _ x=>x)))))
   | (refine wpAny_bind (wpAny_rule ?_);show wpAny _ _ (standAt i2.pos >>= _) _ _ s;exact wpAny_bind (wpAny_standAt (wpAny_bind (wpAny_mono h (fun it' s' h'=>wpAny_pure (And.intro rfl h')) fun _ _ x=>x))))
theorem ydm (I:Nat->Shared->Prop)
  (turn:∀n s,I n s->wpAny (model prog w) A (pyNext it) (fun r s₁=>match r with
   | none=>R (.ok .next) s₁
   | some v=>wpAny (model prog w) A (letOwnedTupleGo t2 it v) (fun _ s₁'=>wpAny (model prog w) A (assign t2 env v) (fun _ s₂ =>
     wpAny (model prog w) A (forIn ifs2 true fun c r=>if r=true then do let ok ←isTrue c env (eval c env);pure (ForInStep.yield ok) else pure (ForInStep.yield r)) (fun ok s₃ =>
      if ok=true then wpAny (model prog w) A (eval elt env) (fun x s₄ =>
       wpAny (model prog w) A (call (.builtin "list.append") [acc,x]) (fun _ s₅=>∃m,m<n/\I m s₅) (fun _ _=>False) s₄) (fun _ _=>False) s₃
      else ∃m,m<n/\I m s₃) (fun _ _=>False) s₂) (fun _ _=>False) s₁') (fun _ _=>False) s₁) (fun _ _=>False) s)
  (n:Nat) (h:I n s):codeAny (model prog w) A (.compLoop (two elt t1 i1 t2 i2 ifs1 ifs2 scope pos) 1 it acc env) R s:=by
 refine codeAny_loop rfl I (fun n s hI=>?_) n h
 show wpAny _ A ((compTurn (two elt t1 i1 t2 i2 ifs1 ifs2 scope pos) 1 it acc env).onRaise (fun x=>do noteFrame x env;theTreesLotGoes x)) _ _ s
 refine wpAny_noted ?_
 rw [ydk]
 refine wpAny_bind (wpAny_standAt (wpAny_bind (wpAny_mono (turn n s hI) (fun r s₁ h₁=>?_) fun _ _ h'=>h'.elim)))
 cases r with
 | none=>exact wpAny_pure h₁
 | some v =>
  refine wpAny_bind (wpAny_mono h₁ (fun _ s₁' h₁=>?_) fun _ _ h'=>h'.elim)
  refine wpAny_bind (wpAny_mono h₁ (fun _ s₂ h₂=>wpAny_bind (wpAny_mono h₂ (fun ok s₃ h₃=>?_) fun _ _ h'=>h'.elim)) fun _ _ h'=>h'.elim)
  cases ok with
  | false=>exact wpAny_pure ⟨rfl,h₃⟩
  | true =>
   exact wpAny_bind (wpAny_bind (wpAny_mono h₃ (fun x s₄ h₄=>wpAny_bind (wpAny_mono h₄ (fun _ s₅ h₅=>wpAny_pure (wpAny_pure ⟨rfl,h₅⟩)) fun _ _ h'=>h'.elim)) fun _ _ h'=>h'.elim))
theorem ydn (hs:∀x,foldedSetIterable i2 env x=pure x) (I:Nat->Shared->Prop)
  (turn:∀n s,I n s->wpAny (model prog w) A (pyNext it) (fun r s₁=>match r with
   | none=>R (.ok .next) s₁
   | some v=>wpAny (model prog w) A (letOwnedTupleGo t1 it v) (fun _ s₁'=>wpAny (model prog w) A (assign t1 env v) (fun _ s₂ =>
     wpAny (model prog w) A (forIn ifs1 true fun c r=>if r=true then do let ok ←isTrue c env (eval c env);pure (ForInStep.yield ok) else pure (ForInStep.yield r)) (fun ok s₃ =>
      if ok=true then wpAny (model prog w) A (eval i2 env) (fun x s₄=>wpAny (model prog w) A (pyIter x) (fun it2 s₅ =>
       codeAny (model prog w) A (.compStart (two elt t1 i1 t2 i2 ifs1 ifs2 scope pos) 1 it2 acc env) (fun r s₆=>r=.ok .next/\∃m,m<n/\I m s₆) s₅) (fun _ _=>False) s₄) (fun _ _=>False) s₃
      else ∃m,m<n/\I m s₃) (fun _ _=>False) s₂) (fun _ _=>False) s₁') (fun _ _=>False) s₁) (fun _ _=>False) s)
  (n:Nat) (h:I n s):codeAny (model prog w) A (.compLoop (two elt t1 i1 t2 i2 ifs1 ifs2 scope pos) 0 it acc env) R s:=by
 refine codeAny_loop rfl I (fun n s hI=>?_) n h
 show wpAny _ A ((compTurn (two elt t1 i1 t2 i2 ifs1 ifs2 scope pos) 0 it acc env).onRaise (fun x=>do noteFrame x env;theTreesLotGoes x)) _ _ s
 refine wpAny_noted ?_
 rw [ydj]
 refine wpAny_bind (wpAny_standAt (wpAny_bind (wpAny_mono (turn n s hI) (fun r s₁ h₁=>?_) fun _ _ h'=>h'.elim)))
 cases r with
 | none=>exact wpAny_pure h₁
 | some v =>
  refine wpAny_bind (wpAny_mono h₁ (fun _ s₁' h₁=>?_) fun _ _ h'=>h'.elim)
  refine wpAny_bind (wpAny_mono h₁ (fun _ s₂ h₂=>wpAny_bind (wpAny_mono h₂ (fun ok s₃ h₃=>?_) fun _ _ h'=>h'.elim)) fun _ _ h'=>h'.elim)
  cases ok with
  | false=>exact wpAny_pure ⟨rfl,h₃⟩
  | true =>
   refine wpAny_bind (wpAny_mono h₃ (fun x s₄ h₄=>?_) fun _ _ h'=>h'.elim)
   refine wpAny_bind (wpAny_standAt ?_)
   rw [hs x]
   refine wpAny_bind (wpAny_pure (wpAny_bind (wpAny_holding (wpAny_mono h₄ (fun it2 s₅ h₅=>?_) fun _ _ h'=>h'.elim))))
   refine wpAny_bind (wpAny_runOwn (codeAny_mono h₅ fun r s₆ h₆=>?_))
   obtain ⟨rfl,h₆⟩:=h₆
   exact wpAny_pure ⟨rfl,h₆⟩
end
noncomputable def znn (K:QFg) (wi:TI) (src:St->St) (g:TG) (tts:TT) (wi2:TI) (g2:TG) (tts2:TT) (t:TE):TE:=fun σ H Q=>wi σ H fun J H1=>∀D,H1 D=none->K.lookup D=none->∃W:Nat->Nat->St->Hp->Prop,
 (∃m,W 0 m (src σ) (upd H1 D (.lst [])))/\∀i m σ' H',W i m σ' H' ->
  (J.stop i H'/\Q (.ref D) H')∨(J.go i H'/\∃N:St->Hp->Prop,(∀σ' H',N σ' H'->∃m',m' < m/\W (i+1) m' σ' H') /\
   ∀x H'',J.yld i H' x H''->g x σ' H'' fun σ2 H2=>tts σ2 H2 fun b H3=>if b=true then wi2 σ2 H3 (fun J2 H4=>∃W2:Nat->Nat->St->Hp->Prop,(∃m,W2 0 m σ2 H4)/\∀j m σ3 H5,W2 j m σ3 H5 ->
    (J2.stop j H5/\N σ3 H5)∨(J2.go j H5/\∃N2:St->Hp->Prop,(∀σ' H',N2 σ' H'->∃m',m' < m/\W2 (j+1) m' σ' H') /\
     ∀y H6,J2.yld j H5 y H6->g2 y σ3 H6 fun σ4 H7=>tts2 σ4 H7 fun b H8=>if b=true then t σ4 H8 (fun v H9=>∃ys,H9 D=some (.lst ys)/\ys.length<sizeLine/\N2 σ4 (upd H9 D (.lst (ys++[v])))) else N2 σ4 H8)) else N σ2 H3)
theorem ydo {X:Cx}{N':List Str}{elt iter tgt iter2 tgt2:Expr}{ifs ifs2:List Expr}{scope:Scope}{pos pos':Pos}{use:Option (Value->Sem Unit)}{R:Value->Shared->Prop}{pins:List (Addr × Obj)}{s:Shared}{σ:St}{H:Hp}{Q:VK}{wi:TI}{src:St->St}{g g2:TG}{tts tts2:TT}{wi2:TI}{t:TE}(hcalm:X.calm=true) (sc:CompSc X N' scope src)
  (hi:PI X tgt iter wi) (hg:∀C s H fp pins,PG (cxC X N' scope C s H fp pins) tgt g) (ht:∀C s H fp pins,PTs (cxC X N' scope C s H fp pins) ifs tts) (he:∀C s H fp pins,PE (cxC X N' scope C s H fp pins) elt t)
  (hi2:∀C s H fp pins,PI (cxC X N' scope C s H fp pins) tgt2 iter2 wi2) (hg2:∀C s H fp pins,PG (cxC X N' scope C s H fp pins) tgt2 g2) (ht2:∀C s H fp pins,PTs (cxC X N' scope C s H fp pins) ifs2 tts2)
  (hs:∀x,foldedSetIterable iter X.env x=pure x) (hs2:∀C s H fp pins x,foldedSetIterable iter2 (cxC X N' scope C s H fp pins).env x=pure x) (I:Inv X pins σ H s) (h:znn X.K wi src g tts wi2 g2 tts2 t σ H Q)
  (fin:∀D H5 s6 C mC,Inv X pins σ H5 s6->zdm X pins H5 C->s6.heap.Ns C mC->Q (.ref D) H5->compPost (model X.prog X.w) X.A X.xe use R (.ref D) C (.ok .next) s6) :
  wpAny (model X.prog X.w) X.A (comprehension (two elt tgt iter tgt2 iter2 ifs ifs2 scope pos) scope X.env pos' (newList []) false (eval iter X.env) use) R X.xe s:=by
 have hasC:∀x∈scope.names,x.2=.free->∃c,X.env.cells.lookup x.1=some c:=fun x hx hf=>I.ok.has x.1 (sc.free x hx hf)
 refine wpAny_comprehension_free (use:=use) (env:=X.env) rfl hs (zqe scope X.env hasC) sc.kind sc.names ?_
 show wpAny (model X.prog X.w) X.A (eval iter X.env) _ _ s
 refine wpAny_mono (hi pins s σ H _ I h) (fun v s1 h1=>wpAny_mono h1 (fun itv s2 h2=>?_) fun _ _ z=>z) fun _ _ z=>z
 obtain ⟨it,fp,tn,J,H2,rfl,I2,T,st2,f2,q⟩:=h2
 refine wpAny_newObj_type ?_ (by show 0<=sizeLine;exact Nat.zero_le _)
 have hD:H2 s2.heap.objs.size=none:=I2.hok.fresh (qlr _)
 have I3:Inv X pins σ (upd H2 s2.heap.objs.size (.lst [])) { s2 with heap:=s2.heap.push { cls:=.type "list",data:=.seq ([]:List Value).toArray } }:=I2.lnew (t':=s2.toks) .nil (Nat.zero_le _)
 obtain ⟨W,⟨m0,w0⟩,turn⟩:=q s2.heap.objs.size hD (by
  cases e:X.K.lookup s2.heap.objs.size with
  | none=>rfl
  | some o=>exact absurd (Heap.lt_size (I2.kIn _ o e)) (Nat.lt_irrefl _))
 refine wpAny_newFunctionEnv sc.nocell (by intro y hy;simp at hy) (fun h' hns hsb=>?_) sc.kind
 have fpIn:∀b∈fp,∃o,s2.heap.get? b=some o/\∀v,o.data≠.cell v:=T.obj 0 s2.heap st2
 have fpD:∀b∈fp,b≠s2.heap.objs.size:=fun b hb=>let ⟨o,e,_⟩:=fpIn b hb;Nat.ne_of_lt (Heap.lt_size e)
 have f3:∀b∈fp,zdm X pins (upd H2 s2.heap.objs.size (.lst [])) b:=fun b hb=>⟨by rw [za7 (fpD b hb)];exact (f2 b hb).1,(f2 b hb).2⟩
 have st3:tn 0 (s2.heap.push { cls:=.type "list",data:=.seq ([]:List Value).toArray }):=T.keep _ _ _ st2 fun b hb o e=>qps _ e
 clear q hD h st2 f2 fpD
 generalize upd H2 s2.heap.objs.size (.lst [])=H3 at *
 generalize hDe:s2.heap.objs.size=D at *
 have fpIn3:∀b∈fp,∃o,(s2.heap.push { cls:=.type "list",data:=.seq ([]:List Value).toArray }).get? b=some o/\∀v,o.data≠.cell v:=T.obj 0 _ st3
 clear fpIn
 generalize s2.heap.push { cls:=.type "list",data:=.seq ([]:List Value).toArray }=h3 at *
 have old:∀b o,h3.get? b=some o->h'.get? b=some o:=fun b o e=>hsb.extBut b o (Nat.ne_of_lt (Heap.lt_size e)) (qps _ e)
 have stkNo:∀b,b≠X.env.locals->b ∉ X.fs->b ∉ frs X.stack:=fun b h1 h2 hb=>by
  rcases List.mem_cons.mp (I3.stkSub b hb) with z|z
  ·exact h1 z
  ·exact h2 z
 have sub:=zi1 X.env scope.names [] (fun x c z=>by simp at z)
 have cNe:∀b o,h3.get? b=some o->b≠h3.objs.size:=fun b o e=>Nat.ne_of_lt (Heap.lt_size e)
 have I4:Inv (cxC X N' scope h3.objs.size { s2 with heap:=h3 } H3 fp pins) [] (src σ) H3 { s2 with heap:=h',toks:=s2.toks+([]:List (Str × Value)).length }:=by
  refine ⟨⟨I3.ok.mod,sc.kind,I3.ok.glob,I3.ok.blt,qlr _,fun x y c h1 h2=>I3.ok.inj x y c (sub x c h1) (sub y c h2),fun x hx=>?_,fun x c z=>absurd (show false=true from z) Bool.false_ne_true,I3.ok.hd,I3.ok.frames,.inl rfl,fun b hb=>⟨?_,fun x c z=>(f3 b hb).2.2.2.2.1 x c (sub x c z)⟩,fun b o e=>I3.bs b o e,Nat.le_trans I3.ok.bsz I3.sz,fun b o e hb=>?_,fun b hb=>stkNo b (f3 b hb).2.1 (f3 b hb).2.2.1,I3.stack,I3.stkFree⟩,
   rfl,I3.bare,Un.kept old,⟨_,hns,fun i x v h1 h2 h3'=>?_⟩,fun x c z=>?_,I3.hok.fresh (qlr _),fun x c z=>I3.freeC x c (sub x c z),fun p hp=>?_,I3.hok.kept old,sc.len σ⟩
  ·have hm:=sc.rel x hx
   exact zg1 X.env scope.names [] x (.inl hm) (hasC _ hm rfl)
  ·obtain ⟨o,e,_⟩:=fpIn3 b hb
   exact cNe b o e
  ·rcases (f3 b hb).2.2.2.1 with z|z
   ·exact I3.ok.noex b o e z
   ·have:=Heap.lt_size (I3.ok.bs b o e).1
    exact absurd (Nat.lt_of_lt_of_le this z) (Nat.lt_irrefl _)
  ·obtain ⟨j,e1,e2,e3⟩:=sc.src σ i v x h2 h1
   obtain ⟨m,hn,hl⟩:=I3.loc
   have hmem:=PySem.mem_of_lookup e3
   have hk:=sc.free (x,.free) hmem rfl
   have vis:Vis X.env.scope x:=by
    rcases hk with k|k
    ·exact .inr (.inl k)
    ·exact .inr (.inr k)
   obtain ⟨u,r,lk⟩:=hl j x v e1 e2 vis
   refine ⟨u,r,.inr ⟨?_,?_⟩⟩
   ·exact zmw (scope:=scope) e3
   ·rcases lk with ⟨k,_⟩|⟨_,c,hc,hcell⟩
    ·rcases hk with k' | k' <;> (rw [k] at k';cases k')
    ·obtain ⟨c',hc'⟩:=zg1 X.env scope.names [] x (.inl hmem) ⟨c,hc⟩
     have:=sub x c' hc'
     rw [hc] at this;cases this
     obtain ⟨o,ho,hd⟩:=hcell
     exact ⟨c,hc',o,old _ _ ho,hd⟩
  ·obtain ⟨v,o,ho,hd⟩:=I3.cell x c (sub x c z)
   exact ⟨v,o,old _ _ ho,hd⟩
  ·have hp':p∈X.pn++pins:=by simpa [cxC] using hp
   obtain ⟨e,n,ne,nf,d⟩:=I3.pin p hp'
   exact ⟨old _ _ e,n,cNe _ _ e,stkNo _ ne nf,d⟩
 have st4:tn 0 h':=T.keep _ _ _ st3 fun b hb o e=>old b o e
 have fr4:∀b∈fp,H3 b=none:=fun b hb=>(f3 b hb).1
 have stat:∀{H':Hp},(∀b∈fp,H' b=none)->∀b∈fp,zdm (cxC X N' scope h3.objs.size { s2 with heap:=h3 } H3 fp pins) [] H' b:=fun hn b hb=>by
  obtain ⟨g0,g1,g2,g3,g4,g5⟩:=f3 b hb
  obtain ⟨o,e,_⟩:=fpIn3 b hb
  exact ⟨hn b hb,cNe b o e,stkNo b g1 g2,.inl hb,fun x c z=>g4 x c (sub x c z),fun p hp=>g5 p (by simpa [cxC] using hp)⟩
 have loop:codeAny (model X.prog X.w) X.A (.compLoop (two elt tgt iter tgt2 iter2 ifs ifs2 scope pos) 0 (.ref it) (.ref D) (compEnvC scope (zdr X.env scope.names []) h3.objs.size X.env))
   (compPost (model X.prog X.w) X.A X.xe use R (.ref D) h3.objs.size) { s2 with heap:=h',toks:=s2.toks+([]:List (Str × Value)).length }:=by
  refine ydn (fun x=>hs2 h3.objs.size { s2 with heap:=h3 } H3 fp pins x) (fun n s'=>∃i σ' H',Inv (cxC X N' scope h3.objs.size { s2 with heap:=h3 } H3 fp pins) [] σ' H' s'/\tn i s'.heap/\(∀b∈fp,H' b=none)/\W i n σ' H') ?_ m0 ⟨0,src σ,H3,I4,st4,fr4,w0⟩
  rintro n s5 ⟨i,σ5,H5,I5,st5,fr5,w5⟩
  rcases turn i n σ5 H5 w5 with ⟨stop,qn⟩|⟨go,N,hN,step⟩
  ·refine wpAny_mono (T.done (cxC X N' scope h3.objs.size { s2 with heap:=h3 } H3 fp pins) rfl rfl rfl hcalm i [] s5 σ5 H5 (fun _ _=>False) I5 (stat fr5) st5 stop) (fun r s6 hr=>?_) fun _ _ z=>z
   obtain ⟨hr,I6⟩:=hr
   subst hr
   obtain ⟨mC,hnC,_⟩:=I6.loc
   have IX:Inv X pins σ H5 s6:=I3.call' (s':=s6) (ch:=fp) I6.os I6.base I6.hok I6.bare fun b hb=>⟨(f3 b hb).2.2.2.1,(f3 b hb).2.1,(f3 b hb).2.2.2.2.1,(f3 b hb).2.2.2.2.2⟩
   exact fin D H5 s6 h3.objs.size mC IX (I3.fpOk (qlr _) I6.free) hnC qn
  ·refine wpAny_mono (T.item (cxC X N' scope h3.objs.size { s2 with heap:=h3 } H3 fp pins) rfl rfl rfl hcalm i [] s5 σ5 H5 (fun _ _=>False) I5 (stat fr5) st5 go) (fun r s6 hr=>?_) fun _ _ z=>z
   obtain ⟨u,hr,h6⟩:=hr
   subst hr
   refine wpAny_mono h6 (fun _ s7 h7=>?_) fun _ _ z=>z
   obtain ⟨x,H7,I7,r7,y7,st7,fr7⟩:=h7
   have I7':=I7.pinned (stat fr7) (T.obj _ _ st7)
   refine wpAny_mono (hg _ _ _ _ _ _ s7 σ5 H7 x u _ I7' r7 (step x H7 y7)) (fun _ s8 h8=>?_) fun _ _ z=>z
   obtain ⟨σ8,H8,I8,q8⟩:=h8
   have again:∀{σ9:St} {H9:Hp} {s9:Shared},Inv (cxC X N' scope h3.objs.size { s2 with heap:=h3 } H3 fp pins) ([]++zet fp s7.heap) σ9 H9 s9->N σ9 H9->∃m,m<n/\∃i σ' H',Inv (cxC X N' scope h3.objs.size { s2 with heap:=h3 } H3 fp pins) [] σ' H' s9/\tn i s9.heap/\(∀b∈fp,H' b=none)/\W i m σ' H':=fun {σ9 H9 s9} I9 n9=>by
    obtain ⟨m',hm,w9⟩:=hN σ9 H9 n9
    refine ⟨m',hm,i+1,σ9,H9,I9.unpinned,T.keep _ _ _ st7 fun b hb o e=>(I9.pin (b,o) (List.mem_append_right _ (List.mem_append_right _ (zgb hb e)))).1,fun b hb=>?_,w9⟩
    obtain ⟨o,e,d⟩:=T.obj _ _ st7 b hb
    exact (I9.pin (b,o) (List.mem_append_right _ (List.mem_append_right _ (zgb hb e)))).2.1
   refine wpAny_mono (ht _ _ _ _ _ _ s8 σ8 H8 _ I8 q8) (fun ok s9 h9=>?_) fun _ _ z=>z
   obtain ⟨H9,I9,q9⟩:=h9
   cases ok with
   | false=>exact again I9 q9
   | true =>
    refine wpAny_mono (hi2 _ _ _ _ _ _ s9 σ8 H9 _ I9 q9) (fun v s10 h10=>wpAny_mono h10 (fun itv s11 h11=>?_) fun _ _ z=>z) fun _ _ z=>z
    obtain ⟨it2,fp2,tn2,J2,H11,rfl,I11,T2,st11,f11,W2,⟨m2,w2⟩,turn2⟩:=h11
    have stat2:∀{H':Hp},(∀b∈fp2,H' b=none)->∀b∈fp2,zdm (cxC X N' scope h3.objs.size { s2 with heap:=h3 } H3 fp pins) ([]++zet fp s7.heap) H' b:=fun hn b hb=>⟨hn b hb,(f11 b hb).2⟩
    have inner:codeAny (model X.prog X.w) X.A (.compLoop (two elt tgt iter tgt2 iter2 ifs ifs2 scope pos) 1 (.ref it2) (.ref D) (compEnvC scope (zdr X.env scope.names []) h3.objs.size X.env))
      (fun r s6=>r=.ok .next/\∃m,m<n/\∃i σ' H',Inv (cxC X N' scope h3.objs.size { s2 with heap:=h3 } H3 fp pins) [] σ' H' s6/\tn i s6.heap/\(∀b∈fp,H' b=none)/\W i m σ' H') s11:=by
     refine ydm (fun k s'=>∃j σ' H',Inv (cxC X N' scope h3.objs.size { s2 with heap:=h3 } H3 fp pins) ([]++zet fp s7.heap) σ' H' s'/\tn2 j s'.heap/\(∀b∈fp2,H' b=none)/\W2 j k σ' H') ?_ m2 ⟨0,σ8,H11,I11,st11,fun b hb=>(f11 b hb).1,w2⟩
     rintro k s12 ⟨j,σ12,H12,I12,st12,fr12,w12⟩
     rcases turn2 j k σ12 H12 w12 with ⟨stop2,qn2⟩|⟨go2,N2,hN2,step2⟩
     ·refine wpAny_mono (T2.done (cxC X N' scope h3.objs.size { s2 with heap:=h3 } H3 fp pins) rfl rfl rfl hcalm j _ s12 σ12 H12 (fun _ _=>False) I12 (stat2 fr12) st12 stop2) (fun r s13 hr=>?_) fun _ _ z=>z
      obtain ⟨hr,I13⟩:=hr
      subst hr
      exact ⟨rfl,again I13 qn2⟩
     ·refine wpAny_mono (T2.item (cxC X N' scope h3.objs.size { s2 with heap:=h3 } H3 fp pins) rfl rfl rfl hcalm j _ s12 σ12 H12 (fun _ _=>False) I12 (stat2 fr12) st12 go2) (fun r s13 hr=>?_) fun _ _ z=>z
      obtain ⟨u2,hr,h13⟩:=hr
      subst hr
      refine wpAny_mono h13 (fun _ s14 h14=>?_) fun _ _ z=>z
      obtain ⟨x2,H14,I14,r14,y14,st14,fr14⟩:=h14
      have I14':=I14.pinned (stat2 fr14) (T2.obj _ _ st14)
      refine wpAny_mono (hg2 _ _ _ _ _ _ s14 σ12 H14 x2 u2 _ I14' r14 (step2 x2 H14 y14)) (fun _ s15 h15=>?_) fun _ _ z=>z
      obtain ⟨σ15,H15,I15,q15⟩:=h15
      have again2:∀{H16:Hp} {s16:Shared},Inv (cxC X N' scope h3.objs.size { s2 with heap:=h3 } H3 fp pins) (([]++zet fp s7.heap)++zet fp2 s14.heap) σ15 H16 s16->N2 σ15 H16->∃m,m<k/\∃j σ' H',Inv (cxC X N' scope h3.objs.size { s2 with heap:=h3 } H3 fp pins) ([]++zet fp s7.heap) σ' H' s16/\tn2 j s16.heap/\(∀b∈fp2,H' b=none)/\W2 j m σ' H':=fun {H16 s16} I16 n16=>by
       obtain ⟨m',hm,w16⟩:=hN2 σ15 H16 n16
       refine ⟨m',hm,j+1,σ15,H16,I16.unpinned,T2.keep _ _ _ st14 fun b hb o e=>(I16.pin (b,o) (List.mem_append_right _ (List.mem_append_right _ (zgb hb e)))).1,fun b hb=>?_,w16⟩
       obtain ⟨o,e,d⟩:=T2.obj _ _ st14 b hb
       exact (I16.pin (b,o) (List.mem_append_right _ (List.mem_append_right _ (zgb hb e)))).2.1
      refine wpAny_mono (ht2 _ _ _ _ _ _ s15 σ15 H15 _ I15 q15) (fun ok s16 h16=>?_) fun _ _ z=>z
      obtain ⟨H16,I16,q16⟩:=h16
      cases ok with
      | false=>exact again2 I16 q16
      | true =>
       refine wpAny_mono (he _ _ _ _ _ _ s16 σ15 H16 _ I16 q16) (fun y s17 h17=>?_) fun _ _ z=>z
       obtain ⟨vy,H17,I17,r17,ys,hys,hz,nx⟩:=h17
       refine wpAny_mono (zmd (X:=cxC X N' scope h3.objs.size { s2 with heap:=h3 } H3 fp pins) _ s17 σ15 H17 (.ref D) [vy] (.ref D) [y] (fun _ H'=>N2 σ15 H') I17 rfl (.cons r17 .nil) ⟨D,ys,vy,rfl,rfl,hys,hz,nx⟩) (fun _ s18 h18=>?_) fun _ _ z=>z
       obtain ⟨_,H18,I18,_,n18⟩:=h18
       exact again2 I18 n18
    exact ydl inner (T2.self _ 0 _ _ _ st11 inner)
 exact codeAny_compStart_list loop (T.self _ 0 _ _ _ st4 loop)
theorem ydp {X:Cx}{N':List Str}{elt iter tgt iter2 tgt2:Expr}{ifs ifs2:List Expr}{scope:Scope}{pos:Pos}{wi wi2:TI}{src:St->St}{g g2:TG}{tts tts2:TT}{t:TE}(hcalm:X.calm=true) (sc:CompSc X N' scope src)
  (hi:PI X tgt iter wi) (hg:∀C s H fp pins,PG (cxC X N' scope C s H fp pins) tgt g) (ht:∀C s H fp pins,PTs (cxC X N' scope C s H fp pins) ifs tts) (he:∀C s H fp pins,PE (cxC X N' scope C s H fp pins) elt t)
  (hi2:∀C s H fp pins,PI (cxC X N' scope C s H fp pins) tgt2 iter2 wi2) (hg2:∀C s H fp pins,PG (cxC X N' scope C s H fp pins) tgt2 g2) (ht2:∀C s H fp pins,PTs (cxC X N' scope C s H fp pins) ifs2 tts2)
  (hs:∀x,foldedSetIterable iter X.env x=pure x) (hs2:∀C s H fp pins x,foldedSetIterable iter2 (cxC X N' scope C s H fp pins).env x=pure x) :
  PE X (.ListComp elt [⟨tgt,iter,ifs,0⟩,⟨tgt2,iter2,ifs2,0⟩] scope pos) (znn X.K wi src g tts wi2 g2 tts2 t):=by
 intro pins s σ H Q I h
 rw [eval_ListComp]
 refine ydo (use:=none) hcalm sc hi hg ht he hi2 hg2 ht2 hs hs2 I h fun D H5 s6 C mC IX fp hn q=>⟨mC,hn,fun h'' sb=>⟨.ref D,H5,?_,rfl,q⟩⟩
 exact IX.turned (t':=s6.toks) (fun b o hb e=>sb.extBut b o hb e) fp.1 fp.2.1 fp.2.2.2.1 fp.2.2.2.2.1 fp.2.2.2.2.2
noncomputable abbrev RM:=Lo->Sto->Option ((Int × Nat) × Sto)
inductive tr (K:QFg) (r:RM) (σ:St) (H:Hp) (R:It->Hp->Prop):Prop
 | mk (ρ:_) (l:_) (S:_) (lo:_) (n:_) (S':_) (_:Sim K ρ S H) (_:RO ρ H l σ) (_:r l S=some ((lo,n),S')) (_:∀ρ' H',Ext ρ H ρ' H'->Sim K ρ' S' H'->R (Itr lo n) H')
section
variable {X:Cx}{tgt:Expr}{mA:AM}{p0 pos':Pos}{a a2:Expr}
end
noncomputable def zfl (xs:List D) (g:GM) (t:TM) (e:EM):Nat->Nat->Lo->Sto->Option (List D × Lo × Sto)
 | 0,_,_,_=>none
 | k+1,i,l,S=>match xs[i]? with
  | none=>some ([],l,S)
  | some x=>(g x l S).bind fun p=>(t p.1 p.2).bind fun q=>if q.1=true then (e p.1 q.2).bind fun r=>(zfl xs g t e k (i+1) p.1 r.2).bind fun z=>some (r.1 :: z.1,z.2) else zfl xs g t e k (i+1) p.1 q.2
theorem Inv.turnedL {X:Cx}{pins:List (Addr × Obj)}{σ:L2.St}{H:Hp}{s:Shared}{h':Heap}{t':Nat}{ch:List Addr}(I:Inv X pins σ H s) (hf:∀b∈ch,zdm X pins H b) (k:∀b o,b ∉ ch->s.heap.get? b=some o->h'.get? b=some o):Inv X pins σ H { s with heap:=h',toks:=t' }:=by
 have nf:∀b u,H b=some u->b ∉ ch:=fun b u e z=>by rw [(hf b z).1] at e;cases e
 refine I.step (g':=s.gens) (d':=s.drawn) (ch:=ch) (fun b hb=>?_) (fun b o _ _ hc e _=>k b o hc e) (fun b o _ _ hc e _=>⟨o.slots,k b o hc e⟩) (fun _ _ _ _ n=>n) (fun b o hc e=>⟨o,k b o hc e⟩) (fun _ _ e=>e) (fun _ _ _ e=>e) (fun b ps e=>⟨#[],by rw [e];simp⟩) (fun m hm=>?_) (fun b u e=>?_) I.bare
 ·obtain ⟨_,q1,_,q3,q4,q5⟩:=hf b hb
  exact ⟨q3,q1,q4,q5⟩
 ·obtain ⟨o,es,ep,ho,q⟩:=hm
  exact ⟨o,es,ep,k _ o (fun z=>(hf _ z).2.1 rfl) ho,q⟩
 ·refine (I.hok b u e).stay (fun c v hc q=>k c v ?_ q) (fun _ q=>q) fun _ _ q=>q
  rcases hc with z|z
  ·rw [z];exact nf b u e
  ·exact nf c _ z
section
variable {prog:Program}{w:World}{A:Around}{E:Value->Shared->Prop}{s:Shared}
variable {z TI TO i1 i2 c1 c2:Addr}{n1 n2 k:Nat}{P1 P2:Nat->Value->Prop}{T1 T2:Nat->Heap->Prop}{a b:Value}
theorem fr1 {h h':Heap}(D1:Draws prog w A i1 [i1,c1] n1 P1 T1) (st:T1 k h) {x:Addr}(sb:Heap.ExtBut x h h') (n1':i1≠x) (n2':c1≠x):T1 k h':=D1.frame k h h' st fun b hb o e=>by
 have hb:b=i1∨b=c1:=by simpa using hb
 rcases hb with rfl|rfl
 ·exact sb _ _ n1' e
 ·exact sb _ _ n2' e
theorem ydq {Q:Value->Shared->Prop}(D1:Draws prog w A i1 [i1,c1] n1 P1 T1) (D2:Draws prog w A i2 [i2,c2] n2 P2 T2) (G:ZipApart z TI TO i1 i2 c1 c2) (hz:IsZip s.heap z TI TO .none) (hI:IsPair s.heap TI (.ref i1) (.ref i2)) (hO:IsPair s.heap TO a b)
  (h1:T1 k s.heap) (h2:T2 k s.heap) (k1:k<n1) (k2:k<n2)
  (hQ:∀x y h' tk,P1 k x->P2 k y->IsZip h' z TI TO (rawInt s.heap.objs.size)->IsPair h' TO x y->T1 (k+1) h'->T2 (k+1) h'->IsPair h' s.heap.objs.size x y ->
   (∀c o,c≠z->c≠TO->c≠i1->c≠i2->s.heap.get? c=some o->h'.get? c=some o)->Q (.ref s.heap.objs.size) { s with heap:=h',toks:=tk }) :
  wpAny (model prog w) A (Builtin.«zip.__next__» ⟨[.ref z],[]⟩) (fun fin s'=>∃v,fin=.done (.ret v)/\Q v s') E s:=by
 show wpAny _ _ (field (.ref z) 2 >>= _) _ _ _
 refine wpAny_bind (wpAny_field hz rfl (x:=.bool false) rfl ?_)
 show wpAny _ _ (field (.ref z) 3 >>= _) _ _ _
 refine wpAny_bind (wpAny_field hz rfl (x:=.ref TI) rfl (wpAny_bind (wpAny_seqItems hI rfl ?_)))
 show wpAny _ _ (Builtin.SmallTypes.ownedTupleIsFree (.ref z) >>= _) _ _ _
 refine wpAny_bind ?_
 unfold Builtin.SmallTypes.ownedTupleIsFree
 refine wpAny_bind (wpAny_field hz rfl (x:=.none) rfl (wpAny_pure ?_))
 simp only [if_true]
 refine wpAny_bind (wpAny_rule (wpAny_bind (wpAny_field hz rfl (x:=.ref TO) rfl (wpAny_bind (wpAny_setField_rec hz (by simp) fun g1 z1 s1=>?_)))))
 replace z1:IsZip g1 z TI TO .ellipsis:=z1
 refine wpAny_bind ?_
 simp only [List.zipIdx_cons,List.zipIdx_nil,List.forIn_cons,List.forIn_nil]
 refine wpAny_bind (wpAny_bind (wpAny_onRaise ?_))
 show wpAny _ _ (Builtin.SmallTypes.nextOf (.ref i1) >>= _) _ _ _
 refine wpAny_bind (D1.item k _ _ _ k1 (fr1 D1 h1 s1.extBut G.i1z G.l1z) fun x g2 tk2 px t1 s2=>wpAny_pure ?_)
 have o2:IsPair g2 TO a b:=s2.extBut _ _ G.TOi1 (s1.extBut _ _ G.TOz hO)
 refine wpAny_bind (wpAny_seqItems o2 rfl (wpAny_bind (wpAny_updateSeq_pair o2 fun g3 o3 s3=>?_)))
 replace o3:IsPair g3 TO x b:=o3
 refine wpAny_bind (wpAny_letGo (wpAny_pure (wpAny_bind (wpAny_bind (wpAny_onRaise ?_)))))
 show wpAny _ _ (Builtin.SmallTypes.nextOf (.ref i2) >>= _) _ _ _
 have t2:T2 k g3:=fr1 D2 (fr1 D2 (fr1 D2 h2 s1.extBut G.i2z G.l2z) s2.extBut G.i12.symm G.l2i1) s3.extBut G.TOi2.symm G.l2TO
 refine wpAny_bind (D2.item k _ _ _ k2 t2 fun y g4 tk4 py u2 s4=>wpAny_pure ?_)
 have o4:IsPair g4 TO x b:=s4.extBut _ _ G.TOi2 o3
 refine wpAny_bind (wpAny_seqItems o4 rfl (wpAny_bind (wpAny_updateSeq_pair o4 fun g5 o5 s5=>?_)))
 replace o5:IsPair g5 TO x y:=o5
 refine wpAny_bind (wpAny_letGo (wpAny_pure (wpAny_pure (wpAny_bind (wpAny_seqItems o5 rfl (wpAny_bind (wpAny_newTuple ?_)))))))
 have sz:g5.objs.size=s.heap.objs.size:=by rw [s5.1,s4.1,s3.1,s2.1,s1.1]
 have z5:IsZip g5 z TI TO .ellipsis:=s5.extBut _ _ G.TOz.symm (s4.extBut _ _ G.i2z.symm (s3.extBut _ _ G.TOz.symm (s2.extBut _ _ G.i1z.symm z1)))
 have old5:∀c o,c≠z->c≠TO->c≠i1->c≠i2->s.heap.get? c=some o->g5.get? c=some o:=fun c o q1 q2 q3 q4 e=>s5.extBut _ _ q2 (s4.extBut _ _ q4 (s3.extBut _ _ q2 (s2.extBut _ _ q3 (s1.extBut _ _ q1 e))))
 have v1:T1 (k+1) g5:=fr1 D1 (fr1 D1 (fr1 D1 t1 s3.extBut G.TOi1.symm G.l1TO) s4.extBut G.i12 G.l1i2) s5.extBut G.TOi1.symm G.l1TO
 have v2:T2 (k+1) g5:=fr1 D2 u2 s5.extBut G.TOi2.symm G.l2TO
 have zl:z<g5.objs.size:=Heap.lt_size z5
 show wpAny _ _ (Builtin.SmallTypes.ownedTupleHandOut (.ref z) (.ref g5.objs.size) >>= _) _ _ _
 refine wpAny_bind ?_
 unfold Builtin.SmallTypes.ownedTupleHandOut
 have z6:IsZip (g5.push { cls:=.type "tuple",data:=.seq #[x,y] }) z TI TO .ellipsis:=qps _ z5
 refine wpAny_bind (wpAny_setField_rec z6 (by simp) fun g7 z7 s7=>?_)
 replace z7:IsZip g7 z TI TO (rawInt g5.objs.size):=z7
 refine wpAny_setField_rec z7 (by simp) fun g8 z8 s8=>?_
 replace z8:IsZip g8 z TI TO (rawInt g5.objs.size):=z8
 have rise:∀c o,c≠z->g5.get? c=some o->g8.get? c=some o:=fun c o q e=>s8.extBut _ _ q (s7.extBut _ _ q (qps _ e))
 have pr8:IsPair g8 g5.objs.size x y:=s8.extBut _ _ (Nat.ne_of_gt zl) (s7.extBut _ _ (Nat.ne_of_gt zl) (Heap.get?_push_size _ rfl))
 rw [sz] at z8 pr8
 refine wpAny_pure ⟨_,rfl,?_⟩
 show Q (.ref g5.objs.size) _
 rw [sz]
 exact hQ x y g8 _ px py z8 (rise _ _ G.TOz o5) (fr1 D1 v1 (x:=z) (fun c o q e=>rise c o q e) G.i1z G.l1z) (fr1 D2 v2 (x:=z) (fun c o q e=>rise c o q e) G.i2z G.l2z) pr8 fun c o q1 q2 q3 q4 e=>rise c o q1 (old5 c o q1 q2 q3 q4 e)
theorem ydr {Q:Fin->Shared->Prop}(D1:Draws prog w A i1 [i1,c1] n1 P1 T1) (G:ZipApart z TI TO i1 i2 c1 c2) (hz:IsZip s.heap z TI TO .none) (hI:IsPair s.heap TI (.ref i1) (.ref i2)) (hO:IsPair s.heap TO a b)
  (h1:T1 k s.heap) (hend:k=n1∨k<n1/\∃P2 T2,Draws prog w A i2 [i2,c2] k P2 T2/\T2 k s.heap)
  (hE:∀h' e tk,(∀c o,c≠z->c≠TO->c≠i1->c≠i2->s.heap.get? c=some o->h'.get? c=some o)->(∃o,h'.get? e=some o/\o.cls=.type "StopIteration")->E (.ref e) { s with heap:=h',toks:=tk }) :
  wpAny (model prog w) A (Builtin.«zip.__next__» ⟨[.ref z],[]⟩) Q E s:=by
 show wpAny _ _ (field (.ref z) 2 >>= _) _ _ _
 refine wpAny_bind (wpAny_field hz rfl (x:=.bool false) rfl ?_)
 show wpAny _ _ (field (.ref z) 3 >>= _) _ _ _
 refine wpAny_bind (wpAny_field hz rfl (x:=.ref TI) rfl (wpAny_bind (wpAny_seqItems hI rfl ?_)))
 show wpAny _ _ (Builtin.SmallTypes.ownedTupleIsFree (.ref z) >>= _) _ _ _
 refine wpAny_bind ?_
 unfold Builtin.SmallTypes.ownedTupleIsFree
 refine wpAny_bind (wpAny_field hz rfl (x:=.none) rfl (wpAny_pure ?_))
 simp only [if_true]
 refine wpAny_bind (wpAny_rule (wpAny_bind (wpAny_field hz rfl (x:=.ref TO) rfl (wpAny_bind (wpAny_setField_rec hz (by simp) fun g1 z1 s1=>?_)))))
 replace z1:IsZip g1 z TI TO .ellipsis:=z1
 refine wpAny_bind ?_
 simp only [List.zipIdx_cons,List.zipIdx_nil,List.forIn_cons,List.forIn_nil]
 refine wpAny_bind (wpAny_bind (wpAny_onRaise ?_))
 show wpAny _ _ (Builtin.SmallTypes.nextOf (.ref i1) >>= _) _ _ _
 have q1:=fr1 D1 h1 s1.extBut G.i1z G.l1z
 rcases hend with rfl|⟨k1,P2,T2,D2,h2⟩
 ·refine wpAny_bind (D1.done _ _ _ q1 fun g2 e s2 he=>?_)
  obtain ⟨oe,hoe,hce⟩:=he
  have z2:IsZip g2 z TI TO .ellipsis:=s2 _ _ G.i1z.symm z1
  have ez:e≠z:=fun x=>by subst x;rw [z2] at hoe;cases hoe;simp at hce
  refine wpAny_setField_rec z2 (by simp) fun g3 _ s3=>hE g3 e _ (fun c o c1 _ c3 _ x=>s3.extBut _ _ c1 (s2 _ _ c3 (s1.extBut _ _ c1 x))) ⟨oe,s3.extBut _ _ ez hoe,hce⟩
 ·refine wpAny_bind (D1.item k _ _ _ k1 q1 fun x g2 tk2 px t1 s2=>wpAny_pure ?_)
  have o2:IsPair g2 TO a b:=s2.extBut _ _ G.TOi1 (s1.extBut _ _ G.TOz hO)
  refine wpAny_bind (wpAny_seqItems o2 rfl (wpAny_bind (wpAny_updateSeq_pair o2 fun g3 o3 s3=>?_)))
  refine wpAny_bind (wpAny_letGo (wpAny_pure (wpAny_bind (wpAny_bind (wpAny_onRaise ?_)))))
  show wpAny _ _ (Builtin.SmallTypes.nextOf (.ref i2) >>= _) _ _ _
  have t2:T2 k g3:=fr1 D2 (fr1 D2 (fr1 D2 h2 s1.extBut G.i2z G.l2z) s2.extBut G.i12.symm G.l2i1) s3.extBut G.TOi2.symm G.l2TO
  refine wpAny_bind (D2.done _ _ _ t2 fun g4 e s4 he=>?_)
  obtain ⟨oe,hoe,hce⟩:=he
  have z4:IsZip g4 z TI TO .ellipsis:=s4 _ _ G.i2z.symm (s3.extBut _ _ G.TOz.symm (s2.extBut _ _ G.i1z.symm z1))
  have ez:e≠z:=fun x=>by subst x;rw [z4] at hoe;cases hoe;simp at hce
  refine wpAny_setField_rec z4 (by simp) fun g5 _ s5=>hE g5 e _ (fun c o q1 q2 q3 q4 x=>s5.extBut _ _ q1 (s4 _ _ q4 (s3.extBut _ _ q2 (s2.extBut _ _ q3 (s1.extBut _ _ q1 x))))) ⟨oe,s5.extBut _ _ ez hoe,hce⟩
end
section
variable {prog:Program}{w:World}{A:Around}{E:Value->Shared->Prop}{s:Shared}
variable {z TI TO i1 i2 c1 c2:Addr}{n1 n2 k:Nat}{P1 P2:Nat->Value->Prop}{T1 T2:Nat->Heap->Prop}{a b:Value}
theorem yds {Q:Option Value->Shared->Prop}(D1:Draws prog w A.in1 i1 [i1,c1] n1 P1 T1) (D2:Draws prog w A.in1 i2 [i2,c2] n2 P2 T2) (G:ZipApart z TI TO i1 i2 c1 c2) (hz:IsZip s.heap z TI TO .none) (hI:IsPair s.heap TI (.ref i1) (.ref i2)) (hO:IsPair s.heap TO a b)
  (h1:T1 k s.heap) (h2:T2 k s.heap) (k1:k<n1) (k2:k<n2)
  (hQ:∀x y h' tk,P1 k x->P2 k y->IsZip h' z TI TO (rawInt s.heap.objs.size)->IsPair h' TO x y->T1 (k+1) h'->T2 (k+1) h'->IsPair h' s.heap.objs.size x y ->
   (∀c o,c≠z->c≠TO->c≠i1->c≠i2->s.heap.get? c=some o->h'.get? c=some o)->Q (some (.ref s.heap.objs.size)) { s with heap:=h',toks:=tk }) :
  wpAny (model prog w) A (pyNext (.ref z)) Q E s:=by
 have hT:s.TypeIs (.ref z) "zip":=⟨_,hz,rfl⟩
 unfold pyNext
 exact wpAny_bind (wpAny_attempt (wpAny_callSpecial?_slot (name:=Str.ofString "__next__") hT F.slot_zip_next (wpAny_call_entry F.slot_zip_next hT F.entry_zip_next (ydq D1 D2 G hz hI hO h1 h2 k1 k2 fun x y h' tk p1 p2 p3 p4 p5 p6 p7 p8=>wpAny_pure (hQ x y h' tk p1 p2 p3 p4 p5 p6 p7 p8)) (F.args_zip_next_1 _))))
theorem zrs {Q:Option Value->Shared->Prop}(D1:Draws prog w A.in1 i1 [i1,c1] n1 P1 T1) (G:ZipApart z TI TO i1 i2 c1 c2) (hz:IsZip s.heap z TI TO .none) (hI:IsPair s.heap TI (.ref i1) (.ref i2)) (hO:IsPair s.heap TO a b)
  (h1:T1 k s.heap) (hend:k=n1∨k<n1/\∃P2 T2,Draws prog w A.in1 i2 [i2,c2] k P2 T2/\T2 k s.heap)
  (hQ:∀h' tk,(∀c o,c≠z->c≠TO->c≠i1->c≠i2->s.heap.get? c=some o->h'.get? c=some o)->Q none { s with heap:=h',toks:=tk }):wpAny (model prog w) A (pyNext (.ref z)) Q E s:=by
 have hT:s.TypeIs (.ref z) "zip":=⟨_,hz,rfl⟩
 unfold pyNext
 refine wpAny_bind (wpAny_attempt (wpAny_callSpecial?_slot (name:=Str.ofString "__next__") hT F.slot_zip_next (wpAny_call_entry F.slot_zip_next hT F.entry_zip_next (ydr D1 G hz hI hO h1 hend fun h' e tk hk he=>?_) (F.args_zip_next_1 _))))
 obtain ⟨o,ho,hc⟩:=he
 exact wpAny_bind (wpAny_isInstance (T:="StopIteration") (b:=true) ⟨o,ho,hc⟩ isSubtype_stop (wpAny_pure (hQ _ _ hk)))
end
structure Zs (P:Program) (w:World) (K:QFg) (J:It) (b a:Addr) (tn:Nat->Heap->Prop):Prop where
 obj:∀i h,tn i h->∃o,h.get? b=some o/\∀v,o.data≠.cell v
 keep:∀i h h',tn i h->(∀o,h.get? b=some o->h'.get? b=some o)->tn i h'
 go:∀(X:Cx),X.prog=P->X.w=w->X.K=K->X.calm=true->∀(i:Nat) (pins:List (Addr × Obj)) (s:Shared) (σ:L2.St) (H:Hp),Inv X pins σ H s->tn i s.heap->J.go i H ->
  ∃n Pv St,Draws P w X.A.in1 b [b,a] n Pv St/\St i s.heap/\i<n/\(∀h',St (i+1) h'->tn (i+1) h')/\∀u,Pv i u->∃x,RelV x u/\J.yld i H x H
 stop:∀(X:Cx),X.prog=P->X.w=w->X.K=K->X.calm=true->∀(i:Nat) (pins:List (Addr × Obj)) (s:Shared) (σ:L2.St) (H:Hp),Inv X pins σ H s->tn i s.heap->J.stop i H ->
  ∃Pv St,Draws P w X.A.in1 b [b,a] i Pv St/\St i s.heap
theorem ydt {P:Program}{w:World}{K:QFg}(b a:Addr) (nab:a≠b):Zs P w K (Itl K a) b a (fun i h=>h.IsListIter b a i) where
 obj:=fun i h st=>by
  obtain ⟨o,q,c,d⟩:=st
  exact ⟨o,q,fun v z=>by rw [d] at z;cases z⟩
 keep:=fun i h h1 st k=>st.at fun o q=>k o q
 go:=by
  intro X hP hw hK hc i pins s σ H I st hg
  subst hP hw hK
  obtain ⟨xs,x,hq,hx⟩:=hg
  obtain ⟨its,rv,p,hz⟩:=I.list hq
  obtain ⟨u,hu,ru⟩:=rv.get hx
  have hlt:i<its.toArray.size:=by simpa using (qme hu).1
  refine ⟨_,_,_,Draws.list (A:=X.A.in1) (I.ok.hd hc) b a nab its.toArray,⟨st,p.isList⟩,hlt,fun h' q=>q.1,fun v hv=>⟨x,?_,rfl,fun ys hy=>by rw [I.list_inj hy hq];exact hx⟩⟩
  have:its.toArray[i]? = some u:=by simpa using hu
  rw [this] at hv
  exact (qoi hv) ▸ ru
 stop:=by
  intro X hP hw hK hc i pins s σ H I st hg
  subst hP hw hK
  obtain ⟨xs,hq,hx⟩:=hg
  obtain ⟨its,rv,p,hz⟩:=I.list hq
  have hl:=rv.length
  refine ⟨fun _ _=>False,fun j h=>j=i/\h.IsListIter b a i/\h.IsList a its.toArray,?_,rfl,st,p.isList⟩
  refine ⟨fun j h q=>?_,fun j h h' q k=>⟨q.1,q.2.1.at fun o e=>k b (by simp) o e,q.2.2.at fun o e=>k a (by simp) o e⟩,fun j s' Q E hj q=>absurd hj (by rw [q.1];exact Nat.lt_irrefl _),fun s' Q E q hE=>?_⟩
  ·obtain ⟨_,⟨o,e,_⟩,_⟩:=q
   exact ⟨o,e⟩
  ·exact wpAny_nextOf_list_end (I.ok.hd hc) q.2.1 q.2.2 (by simp;omega) hE
theorem ydu {P:Program}{w:World}{K:QFg}(b a:Addr) (nab:a≠b):Zs P w K (Itt K a) b a (fun i h=>h.IsTupleIter b a i) where
 obj:=fun i h st=>by
  obtain ⟨o,q,c,d⟩:=st
  exact ⟨o,q,fun v z=>by rw [d] at z;cases z⟩
 keep:=fun i h h1 st k=>by
  obtain ⟨o,q,r⟩:=st
  exact ⟨o,k o q,r⟩
 go:=by
  intro X hP hw hK hc i pins s σ H I st hg
  subst hP hw hK
  obtain ⟨xs,x,hq,hx⟩:=hg
  obtain ⟨its,rv,p,hz⟩:=I.tuple hq
  obtain ⟨u,hu,ru⟩:=rv.get hx
  have p:s.heap.IsTuple a its.toArray:=p
  have hlt:i<its.toArray.size:=by simpa using (qme hu).1
  refine ⟨_,_,_,zq4 (A:=X.A.in1) (I.ok.hd hc) b a nab its.toArray,⟨st,p⟩,hlt,fun h' q=>q.1,fun v hv=>⟨x,?_,rfl,fun ys hy=>by rw [I.tuple_inj hy hq];exact hx⟩⟩
  have:its.toArray[i]? = some u:=by simpa using hu
  rw [this] at hv
  exact (qoi hv) ▸ ru
 stop:=by
  intro X hP hw hK hc i pins s σ H I st hg
  subst hP hw hK
  obtain ⟨xs,hq,hx⟩:=hg
  obtain ⟨its,rv,p,hz⟩:=I.tuple hq
  have p:s.heap.IsTuple a its.toArray:=p
  have hl:=rv.length
  refine ⟨fun _ _=>False,fun j h=>j=i/\h.IsTupleIter b a i/\h.IsTuple a its.toArray,?_,rfl,st,p⟩
  refine ⟨fun j h q=>?_,fun j h h' q k=>⟨q.1,?_,?_⟩,fun j s' Q E hj q=>absurd hj (by rw [q.1];exact Nat.lt_irrefl _),fun s' Q E q hE=>?_⟩
  ·obtain ⟨_,⟨o,e,_⟩,_⟩:=q
   exact ⟨o,e⟩
  ·obtain ⟨o,e,r⟩:=q.2.1
   exact ⟨o,k b (by simp) o e,r⟩
  ·obtain ⟨o,e,r⟩:=q.2.2
   exact ⟨o,k a (by simp) o e,r⟩
  ·exact znb (I.ok.hd hc) q.2.1 q.2.2 (by simp;omega) hE
noncomputable def Itz (J1 J2:It):It:=⟨fun i H=>J1.go i H/\J2.go i H,fun i H x H1=>∃y1 y2 p,J1.yld i H y1 H/\J2.yld i H y2 H/\H p=none/\x=.ref p/\H1=upd H p (.tup [y1,y2]),fun i H=>J1.stop i H∨(J1.go i H/\J2.stop i H)⟩
theorem ydv {P:Program}{w:World}{K:QFg}{elts:List Expr}{x0:Nat}{tp:Pos}{J1 J2:It}{z TI TO i1 i2 c1 c2:Addr}{t1 t2:Nat->Heap->Prop}(Z1:Zs P w K J1 i1 c1 t1) (Z2:Zs P w K J2 i2 c2 t2) (G:ZipApart z TI TO i1 i2 c1 c2) :
  Turn P w K (.Tuple elts x0 tp) (Itz J1 J2) [z,TI,TO,i1,i2] z (fun i h=>IsZip h z TI TO .none/\IsPair h TI (.ref i1) (.ref i2)/\(∃a b,IsPair h TO a b)/\t1 i h/\t2 i h) where
 mem:=by simp
 obj:=by
  rintro i h ⟨hz,hI,⟨a,b,hO⟩,q1,q2⟩ c hc
  simp only [List.mem_cons,List.not_mem_nil,or_false] at hc
  rcases hc with rfl|rfl|rfl|rfl|rfl
  ·exact ⟨_,hz,fun v e=>by have e:Data.fields _=Data.cell v:=e
                           cases e⟩
  ·exact ⟨_,hI,fun v e=>by have e:Data.seq _ _=Data.cell v:=e
                           cases e⟩
  ·exact ⟨_,hO,fun v e=>by have e:Data.seq _ _=Data.cell v:=e
                           cases e⟩
  ·exact Z1.obj i h q1
  ·exact Z2.obj i h q2
 keep:=by
  rintro i h h' ⟨hz,hI,⟨a,b,hO⟩,q1,q2⟩ k
  exact ⟨k z (by simp) _ hz,k TI (by simp) _ hI,⟨a,b,k TO (by simp) _ hO⟩,Z1.keep i h h' q1 (k i1 (by simp)),Z2.keep i h h' q2 (k i2 (by simp))⟩
 item:=by
  intro X hP hw hK hc i pins s σ H E I hf st hg
  obtain ⟨hz,hI,⟨a,b,hO⟩,q1,q2⟩:=st
  obtain ⟨n1,P1,T1,D1,u1,k1,v1,r1⟩:=Z1.go X hP hw hK hc i pins s σ H I q1 hg.1
  obtain ⟨n2,P2,T2,D2,u2,k2,v2,r2⟩:=Z2.go X hP hw hK hc i pins s σ H I q2 hg.2
  subst hP hw hK
  have hn:H s.heap.objs.size=none:=I.hok.fresh (qlr _)
  have lt:∀{c:Addr} {o:Obj},s.heap.get? c=some o->c≠s.heap.objs.size:=fun e=>Nat.ne_of_lt (Heap.lt_size e)
  have li1:i1≠s.heap.objs.size:=by
   obtain ⟨o,e,_⟩:=Z1.obj i _ q1
   exact lt e
  have li2:i2≠s.heap.objs.size:=by
   obtain ⟨o,e,_⟩:=Z2.obj i _ q2
   exact lt e
  refine yds D1 D2 G hz hI hO u1 u2 k1 k2 fun x y h1 tk p1 p2 p3 p4 p5 p6 p7 p8=>⟨_,rfl,wpAny_letOwnedTupleGo_zip p3 fun h2 z2 s2=>?_⟩
  replace s2:Heap.SameBut z h1 h2:=s2
  obtain ⟨dx,rx,yx⟩:=r1 x p1
  obtain ⟨dy,ry,yy⟩:=r2 y p2
  refine ⟨.ref s.heap.objs.size,upd H s.heap.objs.size (.tup [dx,dy]),?_,rfl,⟨dx,dy,s.heap.objs.size,yx,yy,hn,rfl,rfl⟩,⟨z2,s2.extBut _ _ G.TIz (p8 _ _ G.TIz G.TITO G.TIi1 G.TIi2 hI),⟨_,_,s2.extBut _ _ G.TOz p4⟩,Z1.keep _ _ _ (v1 _ p5) (fun o e=>s2.extBut _ _ G.i1z e),Z2.keep _ _ _ (v2 _ p6) (fun o e=>s2.extBut _ _ G.i2z e)⟩,fun c hc=>?_⟩
  ·refine Inv.dealt (t1:=tk) (us:=[x,y]) (ch:=[z,TI,TO,i1,i2]) I hf (fun c o hc q=>?_) ⟨_,s2.extBut _ _ (lt hz).symm p7,rfl,_,rfl,rfl⟩ (.cons rx (.cons ry .nil)) (by show 2<=sizeLine;decide)
   simp only [List.mem_cons,List.not_mem_nil,or_false,not_or] at hc
   exact s2.extBut _ _ hc.1 (p8 c o hc.1 hc.2.2.1 hc.2.2.2.1 hc.2.2.2.2 q)
  ·have hne:c≠s.heap.objs.size:=by
    simp only [List.mem_cons,List.not_mem_nil,or_false] at hc
    rcases hc with rfl|rfl|rfl|rfl|rfl
    ·exact lt hz
    ·exact lt hI
    ·exact lt hO
    ·exact li1
    ·exact li2
   rw [za7 hne];exact (hf c hc).1
 done:=by
  intro X hP hw hK hc i pins s σ H E I hf st hg
  obtain ⟨hz,hI,⟨a,b,hO⟩,q1,q2⟩:=st
  have fin:∀(h1:Heap) (tk:Nat),(∀c o,c≠z->c≠TO->c≠i1->c≠i2->s.heap.get? c=some o->h1.get? c=some o)->Inv X pins σ H { s with heap:=h1,toks:=tk }:=fun h1 tk k =>
   Inv.turnedL (ch:=[z,TI,TO,i1,i2]) I hf fun c o hc q=>by
    simp only [List.mem_cons,List.not_mem_nil,or_false,not_or] at hc
    exact k c o hc.1 hc.2.2.1 hc.2.2.2.1 hc.2.2.2.2 q
  rcases hg with g1|⟨g1,g2⟩
  ·obtain ⟨P1,T1,D1,u1⟩:=Z1.stop X hP hw hK hc i pins s σ H I q1 g1
   subst hP hw hK
   exact zrs D1 G hz hI hO u1 (.inl rfl) fun h1 tk k=>⟨rfl,fin h1 tk k⟩
  ·obtain ⟨n1,P1,T1,D1,u1,k1,_⟩:=Z1.go X hP hw hK hc i pins s σ H I q1 g1
   obtain ⟨P2,T2,D2,u2⟩:=Z2.stop X hP hw hK hc i pins s σ H I q2 g2
   subst hP hw hK
   exact zrs D1 G hz hI hO u1 (.inr ⟨k1,P2,T2,D2,u2⟩) fun h1 tk k=>⟨rfl,fin h1 tk k⟩
 self:=fun A i s Q E st h=>wpAny_pyIter_zip st.1 h
noncomputable abbrev itO (t:Bool) (a:Addr):Obj:={ cls:=.type (if t then "tuple_iterator" else "list_iterator"),data:=.fields #[.ref a,.int 0 0] }
noncomputable def SqB (t:Bool) (h:Heap) (a:Addr) (vs:Array Value):Prop:=if t then h.IsTuple a vs else h.IsList a vs
theorem SqB.push {t:Bool}{h:Heap}{a:Addr}{vs:Array Value}(q:SqB t h a vs) (o:Obj):SqB t (h.push o) a vs:=by
 cases t with
 | true =>
  obtain ⟨x,e,r⟩:=(q:h.IsTuple a vs)
  exact (⟨x,qps _ e,r⟩:(h.push o).IsTuple a vs)
 | false=>exact Heap.IsList.push (q:h.IsList a vs) o
theorem zrt {prog:Program}{w:World}{A:Around}{E:Value->Shared->Prop}{s:Shared}{t:Bool}{a:Addr}{vs:Array Value}{Q:Value->Shared->Prop}(q:SqB t s.heap a vs) (h:Q (.ref s.heap.objs.size) { s with heap:=s.heap.push (itO t a) }):wpAny (model prog w) A (pyIter (.ref a)) Q E s:=by
 cases t with
 | true=>exact wpAny_pyIter_tuple (q:s.heap.IsTuple a vs) h
 | false=>exact wpAny_pyIter_list (q:s.heap.IsList a vs) h
noncomputable abbrev zp1 (t1:Bool) (h:Heap) (l1:Addr):Heap:=h.push (itO t1 l1)
noncomputable abbrev zp2 (t1 t2:Bool) (h:Heap) (l1 l2:Addr):Heap:=(zp1 t1 h l1).push (itO t2 l2)
noncomputable abbrev zp3 (t1 t2:Bool) (h:Heap) (l1 l2:Addr):Heap:=(zp2 t1 t2 h l1 l2).push { cls:=.type "tuple",data:=.seq #[.ref h.objs.size,.ref (zp1 t1 h l1).objs.size] }
noncomputable abbrev zp4 (t1 t2:Bool) (h:Heap) (l1 l2:Addr):Heap:=(zp3 t1 t2 h l1 l2).push { cls:=.type "tuple",data:=.seq #[.none,.none] }
noncomputable abbrev zp5 (t1 t2:Bool) (h:Heap) (l1 l2:Addr):Heap:=(zp4 t1 t2 h l1 l2).push { cls:=.type "zip",data:=.fields #[.none,.bool false,.bool false,.ref (zp2 t1 t2 h l1 l2).objs.size,.ref (zp3 t1 t2 h l1 l2).objs.size] }
theorem ydw (t1 t2:Bool) (l1 l2:Addr) (xs ys:Array Value) :
  Meets (Builtin.«zip.__new__» ⟨[.type "zip",.ref l1,.ref l2],[]⟩) (fun _ R s=>SqB t1 s.heap l1 xs/\SqB t2 s.heap l2 ys/\R (.ok (.ret (.ref (zp4 t1 t2 s.heap l1 l2).objs.size))) { s with heap:=zp5 t1 t2 s.heap l1 l2 }) :=
 .of_wp fun prog w A R s h=>by
  obtain ⟨hp,g,d,tk,os⟩:=s
  obtain ⟨q1,q2,h⟩:=h
  have hsub:=sub_zip
  have b1:SqB t1 (Shared.heap ⟨hp,g,d,tk,os⟩) l1 xs:=q1
  have b2:SqB t2 (Shared.heap ⟨hp.push (itO t1 l1),g,d,tk,os⟩) l2 ys:=SqB.push q2 _
  wp_walk using zrt b1,zrt b2
  exact ⟨_,rfl,h⟩
section
variable {prog:Program}{w:World}{A:Around}{E:Value->Shared->Prop}{s:Shared}
theorem ydx {t1 t2:Bool}{l1 l2:Addr}{xs ys:Array Value}{Q:Value->Shared->Prop}(q1:SqB t1 s.heap l1 xs) (q2:SqB t2 s.heap l2 ys)
  (h:∀h',IsZip h' (s.heap.objs.size+4) (s.heap.objs.size+2) (s.heap.objs.size+3) .none->IsPair h' (s.heap.objs.size+2) (.ref s.heap.objs.size) (.ref (s.heap.objs.size+1))->IsPair h' (s.heap.objs.size+3) .none .none ->
   h'.get? s.heap.objs.size=some (itO t1 l1)->h'.get? (s.heap.objs.size+1)=some (itO t2 l2)->(∀c o,s.heap.get? c=some o->h'.get? c=some o)->Q (.ref (s.heap.objs.size+4)) { s with heap:=h' }) :
  wpAny (model prog w) A (call (.type "zip") [.ref l1,.ref l2]) Q E s:=by
 refine callType_new F.called_zip (by decide) (F.typeCall_zip_2 _ _) (F.newCall_zip_2 _ _) (fun obj=>F.args_object_init_3 obj _ _) F.entry_zip_new (ydw t1 t2 l1 l2 xs ys) ⟨q1,q2,?_⟩
 have e1:(zp1 t1 s.heap l1).objs.size=s.heap.objs.size+1:=Heap.size_push ..
 have e2:(zp2 t1 t2 s.heap l1 l2).objs.size=s.heap.objs.size+2:=by rw [Heap.size_push,e1]
 have e3:(zp3 t1 t2 s.heap l1 l2).objs.size=s.heap.objs.size+3:=by rw [Heap.size_push,e2]
 have e4:(zp4 t1 t2 s.heap l1 l2).objs.size=s.heap.objs.size+4:=by rw [Heap.size_push,e3]
 have g5:(zp5 t1 t2 s.heap l1 l2).get? (zp4 t1 t2 s.heap l1 l2).objs.size=some _:=Heap.get?_push_size _ rfl
 have g4:(zp5 t1 t2 s.heap l1 l2).get? (zp3 t1 t2 s.heap l1 l2).objs.size=some _:=qps _ (Heap.get?_push_size _ rfl)
 have g3:(zp5 t1 t2 s.heap l1 l2).get? (zp2 t1 t2 s.heap l1 l2).objs.size=some _:=qps _ (qps _ (Heap.get?_push_size _ rfl))
 have g2:(zp5 t1 t2 s.heap l1 l2).get? (zp1 t1 s.heap l1).objs.size=some _:=qps _ (qps _ (qps _ (Heap.get?_push_size _ rfl)))
 have g1:(zp5 t1 t2 s.heap l1 l2).get? s.heap.objs.size=some _:=qps _ (qps _ (qps _ (qps _ (Heap.get?_push_size _ rfl))))
 show _/\_
 rw [e2,e3,e4] at g5
 rw [e1,e2] at g3
 rw [e3] at g4
 rw [e1] at g2
 rw [e4]
 exact ⟨⟨_,g5,rfl⟩,h _ g5 g3 g4 g1 g2 fun c o x=>qps _ (qps _ (qps _ (qps _ (qps _ x))))⟩
end
theorem ydy:bootBuiltins "zip" = some (.type "zip"):=by decide +kernel
noncomputable def ItB (K:QFg) (t:Bool) (a:Addr):It:=if t then Itt K a else Itl K a
noncomputable def SqK (K:QFg) (t:Bool) (H:Hp) (a:Addr):Prop:=if t then ∃xs,SqT K H a xs else ∃xs,SqL K H a xs
noncomputable def iZp (K:QFg) (ta:TA):TI:=fun σ H R=>ta σ H fun vs H1=>∃(t1 t2:Bool) (a b:Addr),vs=[.ref a,.ref b]/\SqK K t1 H1 a/\SqK K t2 H1 b/\R (Itz (ItB K t1 a) (ItB K t2 b)) H1
theorem SqK.at {X:Cx}{pins:List (Addr × Obj)}{σ:L2.St}{H:Hp}{s:Shared}{t:Bool}{a:Addr}(I:Inv X pins σ H s) (q:SqK X.K t H a):∃vs,SqB t s.heap a vs/\a<s.heap.objs.size:=by
 cases t with
 | true =>
  obtain ⟨xs,hq⟩:=(q:∃xs,SqT X.K H a xs)
  obtain ⟨its,rv,pl,hz⟩:=I.tuple hq
  have pl:s.heap.IsTuple a its.toArray:=pl
  obtain ⟨o,e,_⟩:=id pl
  exact ⟨_,pl,Heap.lt_size e⟩
 | false =>
  obtain ⟨xs,hq⟩:=(q:∃xs,SqL X.K H a xs)
  obtain ⟨its,rv,pl,hz⟩:=I.list hq
  obtain ⟨o,e,_⟩:=id pl.isList
  exact ⟨_,pl.isList,Heap.lt_size e⟩
theorem zru {P:Program}{w:World}{K:QFg}(t:Bool) (b a:Addr) (nab:a≠b):Zs P w K (ItB K t a) b a (fun i h=>if t then h.IsTupleIter b a i else h.IsListIter b a i):=by
 cases t with
 | true=>exact ydu b a nab
 | false=>exact ydt b a nab
theorem ydz {X:Cx}{elts:List Expr}{x0:Nat}{tp:Pos}{a a2:Expr}{ta:TA}{p pos:Pos}(hg:Gl X "zip") (hm:X.mg "zip" = none) (ha:PA X [a,a2] ta) (hs:starEach [a,a2] X.env=(false,eval a X.env) :: starEach [a2] X.env:=by rfl) (hs2:(backTo pos (starEach [a2] X.env)).any (·.1)=false:=by rfl) :
  PI X (.Tuple elts x0 tp) (.Call (.Name "zip" p) [a,a2] [] pos) (iZp X.K ta):=by
 intro pins s σ H R I h
 refine Call_ (zga I hg hm ydy (PyProof.Rows.callWith_type1 (thn (ha pos pins s σ H _ I h) fun us s1 hx_=>?_) hs hs2))
 obtain ⟨vs,H1,I1,r1,q1⟩:=hx_
 obtain ⟨t1,t2,b,c,rfl,k1,k2,q⟩:=q1
 obtain ⟨u,v,rfl,ru,rv⟩:=Vals.two r1
 cases ru;cases rv
 obtain ⟨xs,b1,l1⟩:=k1.at I1
 obtain ⟨ys,b2,l2⟩:=k2.at I1
 refine ydx b1 b2 fun h' hz hI hO w1 w2 hk=>?_
 have m1:@LT.lt Nat _ b s1.heap.objs.size:=l1
 have m2:@LT.lt Nat _ c s1.heap.objs.size:=l2
 generalize hn:s1.heap.objs.size=n at *
 have G:ZipApart (n+4) (n+2) (n+3) n (n+1) b c:=by constructor <;> (show (_:Nat)≠_) <;> omega
 refine wpAny_pyIter_zip (s:={ s1 with heap:=h' }) hz ⟨_,_,_,_,H1,rfl,I1.kept (t':=s1.toks) hk,ydv (zru t1 n b (Nat.ne_of_lt m1)) (zru t2 (n+1) c (Nat.ne_of_lt (Nat.lt_succ_of_lt m2))) G,⟨hz,hI,⟨_,_,hO⟩,?_,?_⟩,fun c hc=>?_,q⟩
 ·cases t1 with
  | true=>exact ⟨_,w1,rfl,rfl⟩
  | false=>exact ⟨_,w1,rfl,rfl⟩
 ·cases t2 with
  | true=>exact ⟨_,w2,rfl,rfl⟩
  | false=>exact ⟨_,w2,rfl,rfl⟩
 ·have:s1.heap.objs.size<=c:=by
   simp only [List.mem_cons,List.not_mem_nil,or_false] at hc
   rcases hc with rfl|rfl|rfl|rfl|rfl <;> omega
  exact I1.fpOk this (I1.hok.fresh this)
noncomputable def itZ (i1 i2:ItM):ItM:=fun i S=>(i1 i S).bind fun o=>match o with
 | none=>some none
 | some x=>(i2 i S).bind fun p=>match p with
  | none=>some none
  | some y=>some (some (.tup [x,y]))
noncomputable def sqI (S:Sto):D->Option (ItM × Nat)
 | .tup xs=>some (itX xs,xs.length)
 | .ref n=>(lstOf S n).bind fun xs=>some (itL n,xs.length)
 | _=>none
noncomputable def zle (m:AM):IM:=fun l S=>(m l S).bind fun p=>match p.1 with
 | [x,y]=>(sqI p.2 x).bind fun a=>(sqI p.2 y).bind fun b=>some (itZ a.1 b.1,min a.2 b.2+1,p.2)
 | _=>none
theorem yd0 {K:QFg}{ρ:List Addr}{H:Hp}{i1 i2:ItM}{J1 J2:It}(h1:zfv K ρ H i1 J1) (h2:zfv K ρ H i2 J2):zk5 K ρ H (itZ i1 i2) (Itz J1 J2):=by
 intro i ρ1 S1 H1 e s
 obtain ⟨a1,a2⟩:=h1 i ρ1 S1 H1 e s
 obtain ⟨b1,b2⟩:=h2 i ρ1 S1 H1 e s
 unfold itZ
 refine ⟨fun q=>?_,fun x q=>?_⟩
 ·obtain ⟨o,ho,q⟩:=bnd q
  cases o with
  | none=>exact .inl (a1 ho)
  | some x =>
   obtain ⟨p,hp,q⟩:=bnd q
   cases p with
   | none=>exact .inr ⟨(a2 x ho).1,b1 hp⟩
   | some y=>cases q
 ·obtain ⟨o,ho,q⟩:=bnd q
  cases o with
  | none=>cases q
  | some x1 =>
   obtain ⟨p,hp,q⟩:=bnd q
   cases p with
   | none=>cases q
   | some y1 =>
    cases q
    obtain ⟨g1,r1⟩:=a2 x1 ho
    obtain ⟨g2,r2⟩:=b2 y1 hp
    refine ⟨⟨g1,g2⟩,fun v H2 hx_=>?_⟩
    obtain ⟨y,y',p,hy1,hy2,hp,e1,e2⟩:=hx_
    subst e1 e2
    obtain ⟨_,s1⟩:=r1 y H1 hy1
    obtain ⟨_,s2⟩:=r2 y' H1 hy2
    exact ⟨zc5 hp,s.laid hp,.tup zcz (.cons (s1.mono (zc5 hp)) (.cons (s2.mono (zc5 hp)) .nil))⟩
theorem zrv {K:QFg}{ρ:List Addr}{S:Sto}{H:Hp}{x:D}{v:V}{a:ItM × Nat}(h:sqI S x=some a) (sim:Sim K ρ S H) (r:RD ρ H x v):∃t c,v=.ref c/\SqK K t H c/\zfv K ρ H a.1 (ItB K t c):=by
 unfold sqI at h
 split at h
 ·cases h
  cases r with
  | @tup _ c us hc' rr=>exact ⟨true,c,rfl,⟨us,SqT.of hc'⟩,zmx hc' rr⟩
 ·obtain ⟨ys,hx,h⟩:=bnd h
  cases h
  obtain ⟨c,us,hc',sq,rv'⟩:=sim.lstOf hx
  cases r with
  | ref hn =>
   rw [hc'] at hn;cases hn
   exact ⟨false,c,rfl,⟨us,sq⟩,zmy hc'⟩
 ·cases h
theorem yd1 {X:Cx}{elts:List Expr}{x0:Nat}{tp:Pos}{a a2:Expr}{mA:AM}{p0 pos':Pos}(hgl:Gl X "zip") (hmg:X.mg "zip" = none) (ha:PA3 X [a,a2] mA) (hst:starEach [a,a2] X.env=(false,eval a X.env) :: starEach [a2] X.env:=by rfl) (hst2:(backTo pos' (starEach [a2] X.env)).any (·.1)=false:=by rfl):zla X (.Tuple elts x0 tp) (.Call (.Name "zip" p0) [a,a2] [] pos') (zle mA) :=
 PI.imp (ydz hgl hmg ha hst hst2) fun σ H R hx_=>by
  obtain ⟨ρ,l,S,it,k,S',sim,ro,hm,p⟩:=hx_
  obtain ⟨⟨xs,S2⟩,q2,q1⟩:=bnd hm
  dsimp only at q1
  split at q1
  ·rename_i x y
   obtain ⟨u1,e1,q1⟩:=bnd q1
   obtain ⟨u2,e2,q1⟩:=bnd q1
   cases q1
   refine ⟨ρ,l,S,[x,y],_,sim,ro,q2,fun ρ1 H1 vs ex s1 r1=>?_⟩
   obtain ⟨v,u,rfl,rv,ru⟩:=r1.two
   obtain ⟨t1,c1,rfl,k1,o1⟩:=zrv e1 s1 rv
   obtain ⟨t2,c2,rfl,k2,o2⟩:=zrv e2 s1 ru
   exact ⟨t1,t2,c1,c2,rfl,k1,k2,p ρ1 H1 _ ex s1 (yd0 o1 o2)⟩
  ·cases q1
section
variable {P:Program}{w:World}{K:QFg}{tg:Expr}
end
section
variable {X:Cx}{tg l:Expr}{tl:TE}{m:EM}
end
section
variable {X:Cx}{a b e:Expr}{m ma mb:EM}{pos:Pos}{es:List Expr}{ms:List EM}{out:Str}
end
open PySem.Builtin PySem.Builtin.Str
section
variable {X:Cx}
variable {o e:Expr}{mo m:EM}{apos cpos:Pos}{name:Str}{id:String}{f:D->List D->Sto->Option (D × Sto)}{r:V->List V->Hp->VK->Prop}
end
noncomputable def zlf:D->Sto->Option (D × Sto)
 | .int i,S=>some (.int (Builtin.Int.intBits i),S)
 | _,_=>none
section
variable {X:Cx}{o:Expr}{mo:EM}{apos cpos:Pos}
theorem yd2:MtM X "int.bit_length" (fun x vs H Q=>∃i,x=.int i/\vs=[]/\Q (.int (Builtin.Int.intBits i)) H):=by
 intro pins s σ H x vs v us Q I rx rv h
 obtain ⟨i,rfl,rfl,q⟩:=h
 obtain ⟨t,rfl⟩:=rx
 cases rv
 exact call_int_bit_length ⟨.int (Builtin.Int.intBits i),H,I.tok _,⟨_,rfl⟩,q⟩
theorem zrw (ho:PE3 X o mo) (hbase:attributeBase o "bit_length" X.env (eval o X.env)=eval o X.env:=by rfl) (hline:(apos.endLine == cpos.line)=true:=by rfl) :
  PE3 X (.Call (.Attribute o "bit_length" apos) [] [] cpos) (eUn zlf mo) :=
 PE.imp (zzb PySem.F.plainAttrs_int PySem.F.slot_int_bit_length PySem.F.type_int_bit_length yd2 ho hbase hline) fun σ H Q hx2_=>by
  obtain ⟨ρ,l,S,v,S',sim,ro,hq,p⟩:=hx2_
  obtain ⟨⟨x,S1⟩,h1,hq⟩:=bnd hq
  refine ⟨ρ,l,S,x,S1,sim,ro,h1,fun ρ1 H1 x' e1 s1 r1=>?_⟩
  cases r1 with
  | int i=>cases hq;exact ⟨rfl,i,rfl,rfl,p ρ1 H1 _ e1 s1 (.int _)⟩
  | _=>cases hq
end
inductive tq (K:QFg) (m:EM) (σ:St) (H:Hp) (R:It->Hp->Prop):Prop
 | mk (ρ:_) (l:_) (S:_) (xs:_) (S':_) (_:Sim K ρ S H) (_:RO ρ H l σ) (_:m l S=some (.tup xs,S')) (_:∀ρ' H' a vs,Ext ρ H ρ' H'->Sim K ρ' S' H'->H' a=some (.tup vs)->RDs ρ' H' xs vs->R (Itt K a) H')
noncomputable def PQ3 (X:Cx) (tgt iter:Expr) (m:EM):Prop:=PI X tgt iter (tq X.K m)
theorem yd3 {X:Cx}{tgt iter:Expr}{m:EM}(hi:PE3 X iter m):PQ3 X tgt iter m:=PI.imp (zl1 hi) fun σ H R hx1_=>by
 obtain ⟨ρ,l,S,xs,S',sim,ro,q1,p⟩:=hx1_
 refine ⟨ρ,l,S,.tup xs,S',sim,ro,q1,fun ρ1 H1 x' e1 s1 r1=>?_⟩
 cases r1 with
 | @tup xs a vs ha r=>exact ⟨a,rfl,⟨vs,SqT.of ha⟩,p ρ1 H1 a vs e1 s1 ha r⟩
noncomputable def zfm (it:ItM) (g:GM) (t:TM) (r:EM) (g2:GM) (t2:TM) (e:EM):Nat->Nat->Lo->Sto->Option (List D × Sto)
 | 0,_,_,_=>none
 | k+1,i,l,S=>(it i S).bind fun o=>match o with
  | none=>some ([],S)
  | some x=>(g x l S).bind fun p=>(t p.1 p.2).bind fun q=>if q.1=true then (r p.1 q.2).bind fun y=>match y.1 with
   | .tup xs=>(zfl xs g2 t2 e (xs.length+1) 0 p.1 y.2).bind fun u=>(zfm it g t r g2 t2 e k (i+1) u.2.1 u.2.2).bind fun z=>some (u.1++z.1,z.2)
   | _=>none
   else zfm it g t r g2 t2 e k (i+1) p.1 q.2
noncomputable def zjf (im:IM) (ixs:List (Option Nat)) (g:GM) (t:TM) (r:EM) (g2:GM) (t2:TM) (e:EM):EM:=fun l S=>(im l S).bind fun p=>(zfm p.1 g t r g2 t2 e p.2.1 0 (zcc ixs l) p.2.2).bind fun z=>if z.1.length<=sizeLine then some (.ref z.2.length,z.2++[.lst z.1]) else none
inductive CIT2 (K:QFg) (it:ItM) (g:GM) (t:TM) (r:EM) (g2:GM) (t2:TM) (e:EM) (S2:Sto) (all:List D) (ρ1:List Addr) (H1:Hp) (Da:Addr) (i m:Nat) (σ':St) (H':Hp):Prop
 | mk (ρ':List Addr) (l':Lo) (S':Sto) (ds:List D) (vs:List V) (rest:List D) (_:Ext ρ1 H1 ρ' H') (_:Sim K ρ' S' H') (_:RO ρ' H' l' σ') (_:H' Da=some (.lst vs)) (_:(∀n:Nat,ρ'[n]?≠some Da)) (_:RDs ρ' H' ds vs) (_:zfm it g t r g2 t2 e m i l' S' = some (rest,S2)) (_:ds++rest=all)
inductive CITi (K:QFg) (xs:List D) (ys:List V) (a:Addr) (g2:GM) (t2:TM) (e:EM) (l6:Lo) (S6:Sto) (rest' all:List D) (ρ1:List Addr) (H1:Hp) (Da:Addr) (i m:Nat) (σ':St) (H':Hp):Prop
 | mk (ρ':List Addr) (l':Lo) (S':Sto) (ds:List D) (vs:List V) (rest2:List D) (_:Ext ρ1 H1 ρ' H') (_:H' a=some (.tup ys)) (_:RDs ρ' H' xs ys) (_:Sim K ρ' S' H') (_:RO ρ' H' l' σ') (_:H' Da=some (.lst vs)) (_:(∀n:Nat,ρ'[n]?≠some Da)) (_:RDs ρ' H' ds vs) (_:zfl xs g2 t2 e m i l' S' = some (rest2,l6,S6)) (_:ds++rest2++rest' = all)
theorem yd4 {K:QFg}{im:IM}{ixs:List (Option Nat)}{g g2:GM}{t t2:TM}{r:EM}{e:EM}(σ:St) (H:Hp) (Q:VK) (q:te K (zjf im ixs g t r g2 t2 e) σ H Q):znn K (ti K im) (zcc ixs) (tg K g) (tt K t) (tq K r) (tg K g2) (tt K t2) (te K e) σ H Q:=by
 obtain ⟨ρ,l,S,v,S',sim,ro,hm,p⟩:=q
 obtain ⟨⟨it,k,S1⟩,q1,hm⟩:=bnd hm
 obtain ⟨⟨all,S2⟩,q2,hm⟩:=bnd hm
 obtain ⟨hz,he⟩:=zbt hm
 cases he
 refine ⟨ρ,l,S,it,k,S1,sim,ro,q1,fun ρ1 H1 J e1 s1 io D hD hK=>?_⟩
 dsimp only at q2 hz p
 refine ⟨fun i m σ' H'=>CIT2 K it g t r g2 t2 e S2 all ρ1 H1 D i m σ' H',⟨k,?_⟩,?_⟩
 ·exact ⟨ρ1,zcc ixs l,S1,[],[],all,zc5 hD,s1.laid hD,(zmz ixs (ro.mono e1)).mono (zc5 hD),zcz,s1.notin hD hK,.nil,q2,rfl⟩
 ·rintro i m σ' H' ⟨ρ',l',S',ds,vs,rest,e2,s2,ro2,hD2,hn2,rd2,hc,hall⟩
  cases m with
  | zero=>cases hc
  | succ m =>
   unfold zfm at hc
   obtain ⟨o,ho,hc⟩:=bnd hc
   obtain ⟨iStop,iGo⟩:=io i ρ' S' H' e2 s2
   cases o with
   | none =>
    cases hc
    rw [List.append_nil] at hall
    subst hall
    refine .inl ⟨iStop ho,p (ρ'++[D]) H' (.ref D) (e1.trans (e2.adopt hD)) (s2.adopt hD2 hn2 rd2) (.ref ?_)⟩
    rw [←s2.len];exact zbx ρ' D
   | some x =>
    obtain ⟨⟨l3,S3⟩,q3,hc⟩:=bnd hc
    obtain ⟨⟨b,S4⟩,q4,hc⟩:=bnd hc
    obtain ⟨hgo,hy⟩:=iGo x ho
    refine .inr ⟨hgo,_,fun σ' H' h=>h,fun y H'' hyl=>?_⟩
    obtain ⟨rfl,ry⟩:=hy y H'' hyl
    refine ⟨ρ',l',S',x,l3,S3,s2,ro2,ry,q3,fun ρ3 H3 σ3 e3 s3 ro3=>⟨ρ3,l3,S3,b,S4,s3,ro3,q4,fun ρ4 H4 e4 s4=>?_⟩⟩
    obtain ⟨hD3,hn3⟩:=e3.out D _ hD2 hn2
    obtain ⟨hD4,hn4⟩:=e4.out D _ hD3 hn3
    cases b with
    | false=>exact zeg ⟨m,Nat.lt_succ_self m,ρ4,l3,S4,ds,vs,rest,e2.trans (e3.trans e4),s4,ro3.mono e4,hD4,hn4,rd2.mono (e3.trans e4),hc,hall⟩
    | true =>
     have hc:((r l3 S4).bind fun y=>match y.1 with
      | .tup xs=>(zfl xs g2 t2 e (xs.length+1) 0 l3 y.2).bind fun u=>(zfm it g t r g2 t2 e m (i+1) u.2.1 u.2.2).bind fun z=>some (u.1++z.1,z.2)
      | _=>none)=some (rest,S2):=hc
     obtain ⟨⟨dx,S5⟩,q5,hc⟩:=bnd hc
     obtain ⟨xs,rfl⟩:∃xs,dx=.tup xs:=by
      cases dx with
      | tup xs=>exact ⟨xs,rfl⟩
      | _=>cases hc
     obtain ⟨⟨r1,l6,S6⟩,q6,hc⟩:=bnd hc
     obtain ⟨⟨rest',S7⟩,q7,hc⟩:=bnd hc
     cases hc
     dsimp only at q6 q7
     refine zeh ⟨ρ4,l3,S4,xs,S5,s4,ro3.mono e4,q5,fun ρ5 H5 a ys e5 s5 ha5 rx5=>?_⟩
     obtain ⟨hD5,hn5⟩:=e5.out D _ hD4 hn4
     refine ⟨fun j m2 σ' H'=>CITi K xs ys a g2 t2 e l6 S6 rest' all ρ1 H1 D j m2 σ' H',⟨xs.length+1,?_⟩,?_⟩
     ·exact ⟨ρ5,l3,S5,ds,vs,r1,e2.trans (e3.trans (e4.trans e5)),ha5,rx5,s5,(ro3.mono e4).mono e5,hD5,hn5,rd2.mono (e3.trans (e4.trans e5)),q6,by rw [←hall,List.append_assoc]⟩
     ·rintro j m2 σ6 H6 ⟨ρ6,l7,S8,ds6,vs6,rest6,e6,ha6,rx6,s6,ro6,hD6,hn6,rd6,hc6,hall6⟩
      cases m2 with
      | zero=>cases hc6
      | succ m2 =>
       unfold zfl at hc6
       cases hx:xs[j]? with
       | none =>
        rw [hx] at hc6
        cases hc6
        have hj:=List.getElem?_eq_none_iff.mp hx
        have hl6:=rx6.length
        rw [List.append_nil] at hall6
        exact .inl ⟨⟨ys,SqT.of ha6,by omega⟩,m,Nat.lt_succ_self m,ρ6,l6,S6,ds6,vs6,rest',e6,s6,ro6,hD6,hn6,rd6,q7,hall6⟩
       | some y =>
        rw [hx] at hc6
        obtain ⟨vy,hvy,rvy⟩:=rx6.get hx
        obtain ⟨⟨l9,S9⟩,q9,hc6⟩:=bnd hc6
        obtain ⟨⟨b9,S10⟩,q10,hc6⟩:=bnd hc6
        refine .inr ⟨⟨ys,vy,SqT.of ha6,hvy⟩,_,fun σ' H' h=>h,fun z H'' ⟨hz1,hz2⟩=>?_⟩
        subst hz1
        have hz2:=hz2 ys (SqT.of ha6)
        rw [hvy] at hz2
        cases hz2
        refine ⟨ρ6,l7,S8,_,l9,S9,s6,ro6,rvy,q9,fun ρ7 H7 σ7 e7 s7 ro7=>⟨ρ7,l9,S9,b9,S10,s7,ro7,q10,fun ρ8 H8 e8 s8=>?_⟩⟩
        obtain ⟨hD7,hn7⟩:=e7.out D _ hD6 hn6
        obtain ⟨hD8,hn8⟩:=e8.out D _ hD7 hn7
        cases b9 with
        | false=>exact zeg ⟨m2,Nat.lt_succ_self m2,ρ8,l9,S10,ds6,vs6,rest6,e6.trans (e7.trans e8),e8.tup _ _ (e7.tup _ _ ha6),rx6.mono (e7.trans e8),s8,ro7.mono e8,hD8,hn8,rd6.mono (e7.trans e8),hc6,hall6⟩
        | true =>
         have hc6:((e l9 S10).bind fun r=>(zfl xs g2 t2 e m2 (j+1) l9 r.2).bind fun z=>some (r.1 :: z.1,z.2))=some (rest6,l6,S6):=hc6
         obtain ⟨⟨y5,S11⟩,q11,hc6⟩:=bnd hc6
         obtain ⟨⟨rest7,l12,S12⟩,q12,hc6⟩:=bnd hc6
         cases hc6
         refine zeh ⟨ρ8,l9,S10,y5,S11,s8,ro7.mono e8,q11,fun ρ9 H9 v9 e9 s9 r9=>?_⟩
         obtain ⟨hD9,hn9⟩:=e9.out D _ hD8 hn8
         have e69:=e6.trans (e7.trans (e8.trans e9))
         have rd9:=rd6.mono (e7.trans (e8.trans e9))
         have hlen:vs6.length<sizeLine:=by
          have h1:=rd9.length
          have h2:=congrArg List.length hall6
          rw [qla,qla,List.length_cons] at h2
          omega
         refine ⟨vs6,hD9,hlen,m2,Nat.lt_succ_self m2,ρ9,l9,S11,ds6++[y5],vs6++[v9],rest7,e69.beside hD hD9,(zfe (ρ:=ρ9) hD9).tup _ _ (e9.tup _ _ (e8.tup _ _ (e7.tup _ _ ha6))),(rx6.mono (e7.trans (e8.trans e9))).mono0 (zfe hD9),s9.beside hD9 hn9,?_,zcz,hn9,((rd9.append (.cons r9 .nil)).mono0 (zfe hD9)),q12,by rw [←hall6];simp⟩
         have r0:=(ro7.mono e8).mono e9
         exact ⟨r0.len,fun i d h=>let ⟨w,h1,h2⟩:=r0.get i d h;⟨w,h1,h2.mono0 (zfe hD9)⟩⟩
theorem yd5 {X:Cx}{N':List Str}{elt iter tgt iter2 tgt2:Expr}{ifs ifs2:List Expr}{scope:Scope}{pos:Pos}{im:IM}{ixs:List (Option Nat)}{g g2:GM}{t t2:TM}{r:EM}{e:EM}(hcalm:X.calm=true) (sc:CompSc X N' scope (zcc ixs))
  (hi:PI3 X tgt iter im) (hg:∀C s H fp pins,PG3 (cxC X N' scope C s H fp pins) tgt g) (ht:∀C s H fp pins,PTs (cxC X N' scope C s H fp pins) ifs (tt X.K t))
  (hi2:∀C s H fp pins,PQ3 (cxC X N' scope C s H fp pins) tgt2 iter2 r) (hg2:∀C s H fp pins,PG3 (cxC X N' scope C s H fp pins) tgt2 g2) (ht2:∀C s H fp pins,PTs (cxC X N' scope C s H fp pins) ifs2 (tt X.K t2))
  (he:∀C s H fp pins,PE3 (cxC X N' scope C s H fp pins) elt e)
  (hs:∀x,foldedSetIterable iter X.env x=pure x:=by intro _;rfl) (hs2:∀C s H fp pins x,foldedSetIterable iter2 (cxC X N' scope C s H fp pins).env x=pure x:=by intro _ _ _ _ _ _;rfl) :
  PE3 X (.ListComp elt [⟨tgt,iter,ifs,0⟩,⟨tgt2,iter2,ifs2,0⟩] scope pos) (zjf im ixs g t r g2 t2 e) :=
 PE.imp (ydp (g:=tg X.K g) (g2:=tg X.K g2) (tts:=tt X.K t) (tts2:=tt X.K t2) (t:=te X.K e) hcalm sc hi hg ht he (wi2:=tq X.K r) hi2 hg2 ht2 hs hs2) yd4
section
variable {prog:Program}{w:World}{A:Around}{E:Value->Shared->Prop}
noncomputable def zjg (its:Array Value) (x:Value) (i:Nat) (_:Option PySem.Fin × Unit):Sem (ForInStep (Option PySem.Fin × Unit)):=match its[i]? with
 | some y=>do
  let b ←eqBool y x
  if b=true then do
   let r ←retInt i
   pure (ForInStep.done (some r,()))
  else pure (ForInStep.yield (none,()))
 | _=>pure (ForInStep.yield (none,()))
theorem zrx {its:Array Value}{x:Int}{u:Tok}{j:Nat}{s:Shared}{Q:Option PySem.Fin × Unit->Shared->Prop}(hj:∃t,its[j]? = some (.int x t)) (hb:∀m,m<j->∃y t,its[m]? = some (.int y t)/\y≠x)
  (h:Q (some (.done (.ret (.int j s.toks))),()) { s with toks:=s.toks+1 }):∀(n k:Nat),k<=j->j<k+n->wpAny (model prog w) A (forIn (List.range' k n) (none,()) (zjg its (.int x u))) Q E s
 | 0,k,h1,h2=>absurd h2 (by omega)
 | n+1,k,h1,h2=>by
  rw [List.range'_succ,List.forIn_cons]
  by_cases hk:k=j
  ·subst hk
   obtain ⟨t,e⟩:=hj
   unfold zjg
   rw [e]
   refine wpAny_bind (wpAny_bind (wpAny_eqBool_int ?_))
   rw [beq_self_eq_true,if_pos rfl]
   refine wpAny_bind ?_
   unfold retInt
   exact wpAny_bind (wpAny_mkInt (wpAny_pure (wpAny_pure (wpAny_pure h))))
  ·obtain ⟨y,t,e,hne⟩:=hb k (by omega)
   have hstep:wpAny (model prog w) A (zjg its (.int x u) k (none,())) (fun r s'=>r=.yield (none,())/\s' = s) E s:=by
    unfold zjg
    rw [e]
    refine wpAny_bind (wpAny_eqBool_int ?_)
    rw [if_neg (by simpa using hne)]
    exact wpAny_pure ⟨rfl,rfl⟩
   refine wpAny_bind (thn hstep ?_)
   rintro r s' ⟨rfl,rfl⟩
   exact zrx hj hb h n (k+1) (by omega) (by omega)
theorem yd6 {a:Addr}{its:Array Value}{o:Obj}{e0:Nat}{s:Shared}{x:Int}{u:Tok}{j:Nat}{Q:Value->Shared->Prop}(ho:s.heap.get? a=some o) (hc:o.cls=.type "tuple") (hd:o.data=.seq its e0)
  (hj:∃t,its[j]? = some (.int x t)) (hb:∀m,m<j->∃y t,its[m]? = some (.int y t)/\y≠x) (h:Q (.int j s.toks) { s with toks:=s.toks+1 }) :
  wpAny (model prog w) A (call (.builtin "tuple.index") [.ref a,.int x u]) Q E s:=by
 refine wpAny_call_entry F.slot_tuple_index ⟨_,ho,hc⟩ F.entry_tuple_index ?_ (F.args_tuple_index_2 _ _)
 unfold Builtin.«tuple.index»
 obtain ⟨hp,g,d,tk,os⟩:=s
 obtain ⟨c1,c2,c3,c4⟩:=o
 dsimp only at hc hd ho
 subst hc hd
 simp only [Std.Legacy.Range.forIn_eq_forIn_range',Std.Legacy.Range.size,Nat.add_sub_cancel,Nat.div_one]
 wp_walk
 have hlt:j<its.size:=by
  obtain ⟨t,e⟩:=hj
  exact (Array.getElem?_eq_some_iff.mp e).1
 show wpAny (model prog w) A.in1 (forIn (List.range' 0 (min its.size its.size-0)) (none,()) (zjg its (.int x u))) _ E ⟨hp,g,d,tk,os⟩
 refine zrx hj hb ?_ _ 0 (Nat.zero_le _) (by rw [Nat.min_self];omega)
 exact wpAny_pure ⟨_,rfl,h⟩
end
theorem zno {X:Cx}{pins:List (Addr × Obj)}{σ:St}{H:Hp}{s:Shared}{a:Addr}{xs:List V}(I:Inv X pins σ H s) (h:H a=some (.tup xs)):∃its:List Value,Vals xs its/\IsTD s.heap a its.toArray:=by
 obtain ⟨_,its,r,p⟩:=I.hok a _ h
 exact ⟨its,r,p⟩
noncomputable def yd7:V->Hp->Prop:=fun x H=>∃a xs,x=.ref a/\H a=some (.tup xs)
theorem yd8 {X:Cx}:zrm X "tuple" yd7:=by
 intro pins s σ H x v I rx h
 obtain ⟨a,xs,rfl,hH⟩:=h
 cases rx
 obtain ⟨its,r,o,e,c,n,d,hd⟩:=zno I hH
 exact ⟨⟨o,e,c⟩,fun b z=>by cases z;exact ⟨o,e,hd⟩⟩
theorem yd9 {ns:List Int}{x:Int}{j:Nat}(h:ns.idxOf? x=some j):ns[j]? = some x/\∀m,m<j->∃y,ns[m]? = some y/\y≠x:=by
 unfold List.idxOf? at h
 rw [List.findIdx?_eq_some_iff_getElem] at h
 obtain ⟨hj,h1,h2⟩:=h
 refine ⟨by rw [qge hj];simpa using h1,fun m hm=>⟨ns[m]'(Nat.lt_trans hm hj),qge _,?_⟩⟩
 have:=h2 m hm
 simpa using this
theorem zry {ns:List Int}{its:List Value}(r:Vals (ns.map V.int) its) {i:Nat}{y:Int}(h:ns[i]? = some y):∃t,its[i]? = some (.int y t):=by
 have e:(ns.map V.int)[i]? = some (.int y):=by rw [qgm,h];rfl
 obtain ⟨u,hu,ru⟩:=r.get e
 obtain ⟨t,rfl⟩:=ru
 exact ⟨t,hu⟩
noncomputable def zrz:V->List V->Hp->VK->Prop:=fun y vs H Q=>∃(a:Addr) (ns:List Int) (x:Int) (j:Nat),y=.ref a/\vs=[.int x]/\H a=some (.tup (ns.map V.int))/\ns.idxOf? x=some j/\Q (.int j) H
noncomputable def zjh:D->List D->Sto->Option (D × Sto)
 | .tup xs,[.int x],S=>(zd7 xs).bind fun ns=>(ns.idxOf? x).bind fun j=>some (.int j,S)
 | _,_,_=>none
section
variable {X:Cx}
theorem yea:MtM X "tuple.index" zrz:=by
 intro pins s σ H y vs v us Q I ry rv h
 obtain ⟨a,ns,x,j,rfl,rfl,hH,hj,q⟩:=h
 cases ry
 obtain ⟨u,rfl,ru⟩:=rv.one
 obtain ⟨t,rfl⟩:=ru
 obtain ⟨its,r,o,e,c,n,d,hd⟩:=zno I hH
 obtain ⟨h1,h2⟩:=yd9 hj
 refine yd6 e c d (j:=j) ?_ (fun m hm=>?_) ⟨.int j,H,I.tok _,⟨_,rfl⟩,q⟩
 ·obtain ⟨t,ht⟩:=zry r h1
  exact ⟨t,by simpa using ht⟩
 ·obtain ⟨y,hy,hne⟩:=h2 m hm
  obtain ⟨t,ht⟩:=zry r hy
  exact ⟨y,t,by simpa using ht,hne⟩
theorem yeb {K:QFg}:Mt3 K zjh zrz:=by
 intro ρ S H x x' xs vs v S' Q sim rx r h p
 unfold zjh at h
 split at h
 ·obtain ⟨ns,h1,h⟩:=bnd h
  obtain ⟨j,h2,h⟩:=bnd h
  cases h
  obtain ⟨w,rfl,rw'⟩:=r.one
  cases rw'
  cases rx with
  | tup ha rr =>
   have:=zlb h1 rr
   subst this
   exact ⟨_,ns,_,j,rfl,rfl,ha,h2,p ρ H _ (Ext.refl ..) sim (.int _)⟩
 ·cases h
noncomputable def yec:D->Option Unit
 | .tup _=>some ()
 | _=>none
noncomputable def zlg (f:D->List D->Sto->Option (D × Sto)) (o:EM) (as:AM):EM:=fun l S=>(o l S).bind fun p=>(yec p.1).bind fun _=>(as l p.2).bind fun q=>f p.1 q.1 q.2
variable {o e:Expr}{mo m:EM}{apos cpos:Pos}
theorem yed (ho:PE3 X o mo) (he:PE3 X e m)
  (hbase:attributeBase o "index" X.env (eval o X.env)=eval o X.env:=by rfl)
  (hfew:((backTo cpos (starEach [e] X.env)).all (fun x=>!x.1) && (backToKw cpos (keywordEach [] X.env)).all (fun x=>x.1.isSome)
   && decide ([e].length+([]:List Keyword).length+(if ([]:List Keyword).isEmpty then 0 else 1)<30))=true:=by rfl)
  (hline:(apos.endLine == cpos.line)=true:=by rfl) (hs:starEach [e] X.env=(false,eval e X.env) :: starEach [] X.env:=by rfl) :
  PE3 X (.Call (.Attribute o "index" apos) [e] [] cpos) (zlg zjh mo (zac m zaf)) :=
 PE.imp (yc8 yd8 PySem.F.plainAttrs_tuple PySem.F.slot_tuple_index PySem.F.type_tuple_index yea ho (zad he zah hs) hbase hfew hline hs rfl) fun σ H Q hx2_=>by
  obtain ⟨ρ,l,S,v,S',sim,ro,hq,p⟩:=hx2_
  obtain ⟨⟨x,S1⟩,h1,hq⟩:=bnd hq
  obtain ⟨_,h2,hq⟩:=bnd hq
  obtain ⟨⟨ys,S2⟩,h4,hq⟩:=bnd hq
  refine ⟨ρ,l,S,x,S1,sim,ro,h1,fun ρ1 H1 x' e1 s1 r1=>⟨?_,ρ1,l,S1,ys,S2,s1,ro.mono e1,h4,fun ρ2 H2 vs e2 s2 r2=>yeb ρ2 S2 H2 x x' ys vs v S' Q s2 (r1.mono e2) r2 hq (p.ext (e1.trans e2))⟩⟩
  cases r1 with
  | @tup xs a us ha rr=>exact ⟨a,us,rfl,ha⟩
  | _=>cases h2
end
theorem yee:isSubtype (.type "tuple") (.type "set")=pure false:=by rw [isSubtype_type];kernel_rfl
theorem yef:isSubtype (.type "tuple") (.type "frozenset")=pure false:=by rw [isSubtype_type];kernel_rfl
noncomputable abbrev zh7 (led:Bool):Obj:={ cls:=.type "set",dict:=none,data:=.set #[] 0 (.fresh 0 0 led) }
section
variable {prog:Program}{w:World}{A:Around}{E:Value->Shared->Prop}{s:Shared}
noncomputable abbrev dis (ns:List Int) (n:Nat):List Int:=firstMet (fun i=>ns.getD i 0) n
theorem yeg {t d:Addr}{its:Array Value}{ns:List Int}{led:Bool}{Q:PySem.Fin->Shared->Prop}(hh:A.handled=none) (ht:s.heap.IsTuple t its) (hi:IntsAre its.toList ns) (hb:its.size+1<scanBound)
  (hd:s.heap.get? d=some (zh7 led)) (htd:t≠d)
  (h:∀(h':Heap) (tk:Nat),h'.SetOf (intKind prog w) d (fun k'=>(dis ns its.size).any (· == k')) (dis ns its.size).length->(∀b o,b≠d->s.heap.get? b=some o->h'.get? b=some o)->Q (.done (.ret .none)) { s with heap:=h',toks:=tk }) :
  wpAny (model prog w) A (Builtin.«set.__init__» ⟨[.ref d,.ref t],[]⟩) Q E s:=by
 obtain ⟨ol,hol,hcl,nl,hdl⟩:=id ht
 have hTs:s.TypeIs (.ref d) "set":=⟨_,hd,rfl⟩
 have hTt:s.TypeIs (.ref t) "tuple":=⟨_,hol,hcl⟩
 have q1:=yee
 have q2:=yef
 obtain ⟨hp,g,dr,tk,os⟩:=s
 obtain ⟨c1,c2,c3,c4⟩:=ol
 dsimp only at hcl hdl hol
 subst hcl hdl
 unfold Builtin.«set.__init__» noKeywords Builtin.Frozenset.updateFrom
 generalize hPI:pyIter=PI
 wp_walk
 subst hPI
 have ht':hp.IsTuple t its:=ht
 have lt1:t<hp.objs.size:=Heap.lt_size hol
 have lt2:d<hp.objs.size:=Heap.lt_size hd
 refine wpAny_pyIter_tuple ht' (wpAny_bind (wpAny_runValue ?_))
 have vi:∀(i:Nat) (v:Value),its[i]? = some v->∃t,v=.int (ns.getD i 0) t:=fun i v hv=>IntsAre.int_at hi i v (by rw [Array.getElem?_toList];exact hv)
 have nf:d ∉ [hp.objs.size,t]:=by
  simp only [List.mem_cons,List.not_mem_nil,or_false,not_or]
  exact ⟨Nat.ne_of_lt lt2,Ne.symm htd⟩
 refine codeAny_set_update_loopS (Walks.tuple (by simpa using hh) hp.objs.size t (Nat.ne_of_lt lt1) its).toS d nf (fun i=>ns.getD i 0) vi hb (its.size-0) 0 _ (by omega) (Nat.zero_le _) ⟨⟨_,Heap.get?_push_size _ rfl,rfl,rfl⟩,?_⟩ ?_ fun s' mv hS=>?_
 ·obtain ⟨o,e,r⟩:=id ht'
  exact ⟨o,qps _ e,r⟩
 ·exact SetOf_congr ((setObjOf_fresh (knd:=intKind prog w) led).setOf (qps _ hd) (by unfold scanBound;omega)) (fun _=>rfl) rfl
 ·obtain ⟨h',g',d',tk',os'⟩:=s'
  have eg:g' = g:=mv.gens
  have ed:d' = dr:=mv.drawn
  have eo:os' = os:=mv.os
  subst eg ed eo
  refine wpAny_pure (wpAny_pure (h h' tk' hS fun b o hb e=>?_))
  exact mv.heap b o (by simp only [List.mem_cons,List.not_mem_nil,or_false,not_or];exact ⟨hb,Nat.ne_of_lt (Heap.lt_size e)⟩) (qps _ e)
theorem yeh {t:Addr}{its:Array Value}{ns:List Int}{Q:Value->Shared->Prop}(hh:A.handled=none) (ht:s.heap.IsTuple t its) (hi:IntsAre its.toList ns) (hb:its.size+1<scanBound)
  (h:∀(h':Heap) (tk:Nat),h'.SetOf (intKind prog w) s.heap.objs.size (fun k'=>(dis ns its.size).any (· == k')) (dis ns its.size).length->(∀b o,s.heap.get? b=some o->h'.get? b=some o)->Q (.ref s.heap.objs.size) { s with heap:=h',toks:=tk }) :
  wpAny (model prog w) A (call (.type "set") [.ref t]) Q E s:=by
 obtain ⟨c,tl,k0⟩:=F.called_set.mro;have k1:=F.called_set.made;have k2:=F.called_set.sub
 refine wpAny_call (codeAny_of_tree (show wpAny _ _ (callAny (.type "set") _) _ _ _ from ?_))
 refine wpAny_pure ⟨Code.quiet_builtin _ (by decide +kernel),codeAny_builtin F.entry_type_call ?_⟩;rw [Around.under_plain (weight_type_call_type "set" [.ref t] []) rfl]
 have k3:=F.called_set.notType;have k4:=F.called_set.canCreate;have k5:=F.typeCall_set_1 (.ref t)
 repeat (any_goals (first|assumption|wp_step))
 refine codeAny_mono (code_set_new_1 (.ref t) (E:=E) (Q₁:=fun x s1=>∃led,x=.ref s.heap.objs.size/\s1={ s with heap:=s.heap.push (zh7 led) }) fun led=>⟨led,rfl,rfl⟩) fun r s1 hr=>?_
 match r,hr with
 | .error e,hr=>exact hr
 | .ok .next,hr=>exact hr.elim
 | .ok .brk,hr=>exact hr.elim
 | .ok .cont,hr=>exact hr.elim
 | .ok (.ret x),hr =>
  obtain ⟨led,rfl,rfl⟩:=hr
  have g1:(s.heap.push (zh7 led)).get? s.heap.objs.size=some (zh7 led):=Heap.get?_push_size _ rfl
  have g2:Shared.TypeIs { s with heap:=s.heap.push (zh7 led) } (.ref s.heap.objs.size) "set":=⟨_,g1,rfl⟩
  have k6:=F.called_set.init.lookup;have k7:=F.called_set.init.bind (.ref s.heap.objs.size)
  repeat (any_goals (first|assumption|wp_step))
  have ht':(s.heap.push (zh7 led)).IsTuple t its:=by
   obtain ⟨o,e,q⟩:=ht
   exact ⟨o,qps _ e,q⟩
  have lt1:t≠s.heap.objs.size:=by
   obtain ⟨o,e,q⟩:=ht
   exact Nat.ne_of_lt (Heap.lt_size e)
  refine codeAny_mono (codeAny_call_builtin (R:=wants (fun r s2=>r=.none/\∃h' tk,s2={ s with heap:=h',toks:=tk }/\h'.SetOf (intKind prog w) s.heap.objs.size (fun k'=>(dis ns its.size).any (· == k')) (dis ns its.size).length/\∀b o,s.heap.get? b=some o->h'.get? b=some o) E) F.called_set.init.plain F.entry_set_init
   (check_set_init_1 g2 (yeg (led:=led) (by simpa using hh) ht' hi hb g1 lt1 fun h' tk hS hk=>⟨rfl,h',tk,rfl,hS,fun b o e=>hk b o (Nat.ne_of_lt (Heap.lt_size e)) (qps _ e)⟩))) fun r2 s2 hr2=>?_
  match r2,hr2 with
  | .error e,hr2=>exact hr2
  | .ok .next,hr2=>exact hr2.elim
  | .ok .brk,hr2=>exact hr2.elim
  | .ok .cont,hr2=>exact hr2.elim
  | .ok (.ret y),hr2 =>
   obtain ⟨rfl,h',tk,rfl,hS,hk⟩:=hr2
   repeat (any_goals (first|assumption|wp_step))
   exact h _ _ hS hk
end
noncomputable def zji:FM
 | [.tup xs],S=>(zd7 xs).bind fun ns=>if ns.length+1<scanBound then some (.ref S.length,S++[.iset (fun k=>(dis ns ns.length).any (· == k)) (dis ns ns.length).length]) else none
 | _,_=>none
noncomputable def zjj:FM
 | [.ref n],S=>match S[n]? with
  | some (.iset _ k)=>if k<scanBound then some (.int k,S) else none
  | _=>none
 | _,_=>none
theorem zr0:∀{ns:List Int}{its:List Value},Vals (ns.map V.int) its->IntsAre its ns
 | [],its,r=>by cases r;exact .nil
 | n :: ns,its,r=>by
  cases r with
  | cons p q=>obtain ⟨t,rfl⟩:=p;exact .cons n t (zr0 q)
noncomputable def zr1:List V->Hp->VK->Prop:=fun xs H Q=>∃(a:Addr) (ns:List Int),xs=[.ref a]/\H a=some (.tup (ns.map V.int))/\ns.length+1<scanBound/\∀l,H l=none->Q (.ref l) (upd H l (.set (fun k=>(dis ns ns.length).any (· == k)) (dis ns ns.length).length))
noncomputable def zr2:List V->Hp->VK->Prop:=fun xs H Q=>∃(a:Addr) (f:Int->Bool) (k:Nat),xs=[.ref a]/\H a=some (.set f k)/\k<scanBound/\Q (.int k) H
section
variable {X:Cx}{K:QFg}{a:Expr}{es:List Expr}{mA:AM}{pos p:Pos}{k:Nat}
theorem yei (hr:Room k X.A):CallR X (.type "set") zr1:=by
 intro pins s σ H xs us Q I r h
 obtain ⟨b,ns,rfl,hH,hb,q⟩:=h
 obtain ⟨u,rfl,ru⟩:=zef r
 cases ru
 obtain ⟨its,rv,o,e,c,n,d,hd⟩:=zno I hH
 have hl:its.toArray.size=ns.length:=by have:=rv.length;simp at this;simp;omega
 refine yeh (its:=its.toArray) (ns:=ns) hr.hd ⟨o,e,c,n,d⟩ (by simpa using zr0 rv) (by rw [hl];exact hb) fun h' tk hS hk=>?_
 rw [hl] at hS
 exact ⟨.ref s.heap.objs.size,_,I.laid (o:=.set _ _) hk (qlr _) hS,rfl,q _ I.fresh⟩
theorem yej:CallR X (.builtin "len") zr2:=by
 intro pins s σ H xs us Q I r h
 obtain ⟨b,f,j,rfl,hH,hj,q⟩:=h
 obtain ⟨u,rfl,ru⟩:=zef r
 cases ru
 obtain ⟨o,es,ep,t,ho,hex,hd,_,_,_,hf,hn⟩:=(show s.heap.SetOf (intKind X.prog X.w) b f j from I.hok b _ hH)
 have h4:(4096:Nat)=scanBound:=rfl
 refine call_len_set ho hex hd hf (by omega) ?_
 rw [hn]
 exact ⟨.int j,H,I.tok _,⟨_,rfl⟩,q⟩
theorem yek:Fn3 K zji zr1:=by
 intro ρ S H xs vs v S' Q sim r h p
 unfold zji at h
 split at h
 ·obtain ⟨ns,h1,h⟩:=bnd h
  obtain ⟨hz,e⟩:=zbt h
  cases e
  obtain ⟨w,rfl,rw'⟩:=r.one
  cases rw' with
  | tup ha rr =>
   have:=zlb h1 rr
   subst this
   exact ⟨_,ns,rfl,ha,hz,fun l hl=>p (ρ++[l]) _ _ (zkq hl) (sim.pushG hl zcz) (.ref (by rw [←sim.len];exact zbx ρ l))⟩
 ·cases h
theorem yel:Fn3 K zjj zr2:=by
 intro ρ S H xs vs v S' Q sim r h p
 unfold zjj at h
 split at h
 ·split at h
  ·rename_i n S f j e
   obtain ⟨hz,e2⟩:=zbt h
   cases e2
   obtain ⟨w,rfl,rw'⟩:=r.one
   cases rw' with
   | ref hn=>exact ⟨_,f,j,rfl,sim.at' _ _ _ hn e,hz,p ρ H _ (Ext.refl ..) sim (.int _)⟩
  ·cases h
 ·cases h
theorem yem:bootBuiltins "set" = some (.type "set"):=by decide +kernel
theorem yen (hr:Room k X.A) (hg:Gl X "set") (hm:X.mg "set" = none) (ha:PA3 X (a :: es) mA) (he:starEach (a :: es) X.env=(false,eval a X.env) :: starEach es X.env:=by rfl) (hpl:(backTo pos (starEach es X.env)).any (·.1)=false:=by rfl):PE3 X (.Call (.Name "set" p) (a :: es) [] pos) (zag zji mA) :=
 zku (yei hr) yek hg hm yem ha (by decide) (by decide) he hpl
theorem yeo (hg:Gl X "len") (hm:X.mg "len" = none) (ha:PA3 X (a :: es) mA) (he:starEach (a :: es) X.env=(false,eval a X.env) :: starEach es X.env:=by rfl) (hpl:(backTo pos (starEach es X.env)).any (·.1)=false:=by rfl):PE3 X (.Call (.Name "len" p) (a :: es) [] pos) (zag zjj mA) :=
 zgg yej yel hg hm PySem.boot_len ha (by decide) (by decide) he hpl
end
theorem yep (ns:List Int):(dis ns ns.length).length=ns.length↔ns.Nodup:=by
 have key:∀(l acc:List Int),acc.Nodup->((l.foldl step_dedup acc).length=acc.length+l.length↔(acc++l).Nodup)/\(l.foldl step_dedup acc).length<=acc.length+l.length:=by
  intro l
  induction l with
  | nil=>intro acc h;simp [h]
  | cons x l ih =>
   intro acc h
   rw [List.foldl_cons]
   unfold step_dedup
   by_cases hx:acc.any (· == x)=true
   ·rw [if_pos hx]
    obtain ⟨i1,i2⟩:=ih acc h
    have hm:x∈acc:=by simpa using hx
    constructor
    ·constructor
     ·intro z;simp only [List.length_cons] at z;have i2:=i2;unfold step_dedup at i2;omega
     ·intro z
      rw [List.nodup_append] at z
      exact absurd rfl (z.2.2 x hm x List.mem_cons_self)
    ·simp only [List.length_cons];unfold step_dedup at i2;omega
   ·rw [if_neg hx]
    have hm:x ∉ acc:=by simpa using hx
    have hn:(acc++[x]).Nodup:=by rw [List.nodup_append];exact ⟨h,by simp,fun a ha b hb=>by rw [List.mem_singleton.mp hb];exact fun z=>hm (z ▸ ha)⟩
    obtain ⟨i1,i2⟩:=ih (acc++[x]) hn
    unfold step_dedup at i1 i2
    rw [qla,List.length_singleton] at i1 i2
    rw [List.append_assoc] at i1
    constructor
    ·rw [List.length_cons,show l.length+1=1+l.length from Nat.add_comm _ _,←Nat.add_assoc]
     exact i1
    ·simp only [List.length_cons];omega
 have e:dis ns ns.length=ns.foldl step_dedup []:=by
  unfold dis firstMet
  congr 1
  apply List.ext_getElem?
  intro i
  rw [qgm]
  by_cases hi:i<ns.length
  ·rw [List.getElem?_range hi,qge hi];simp [hi]
  ·rw [List.getElem?_eq_none (by simpa using hi),List.getElem?_eq_none (by simpa using hi)];rfl
 rw [e]
 simpa using (key ns [] List.nodup_nil).1
end L3
namespace SP
open PySem PySem.W PyProof.Rows PySem.Calls
section
variable {prog:Program}{w:World}{A:Around}{E:Value->Shared->Prop}{s:Shared}
theorem sorted_lays {x:Addr}{ns:List Int}{Q:Value->Shared->Prop}
  (hc:∀(E:Value->Shared->Prop) (R:List Value->Shared->Prop),(∀h' tk vs,s.heap.objs.size<=h'.objs.size->(∀b o,s.heap.get? b=some o->h'.get? b=some o)->IntsAre vs ns->R vs { s with heap:=h',toks:=tk })->wpAny (model prog w) A.in1 (collect (.ref x)) R E s) (h64:ns.length<64)
  (h:∀h' tk D e out ns',(∀b o,s.heap.get? b=some o->h'.get? b=some o)->s.heap.objs.size<=D->h'.get? D=some (seqObj "list" out e)->IntsAre out.toList ns'->ns'.Perm ns->ns'.Pairwise (·<=·)->Q (.ref D) { s with heap:=h',toks:=tk }) :
  wpAny (model prog w) A (call (.builtin "sorted") [.ref x]) Q E s:=by
 have fits:∀k,k<64->k<=sizeLine:=fun k hk=>by rw [sizeLine_eq];omega
 refine call_function_entry kind_sorted plain_sorted entry_sorted (args_sorted1 _) ?_
 unfold Builtin.«sorted»
 refine wpAny_bind (m:=checkCount "sorted" 1 1 _) (wpAny_pure (wpAny_bind (hc _ _ fun h' tk vs sz keep t=>?_)))
 have hl:vs.length=ns.length:=by
  clear hc h
  induction t with
  | nil=>rfl
  | cons n t q ih=>simp [ih (by simp at h64;omega)]
 refine wpAny_bind (wpAny_newList ?_ (fits _ (by omega)))
 have hD:(h'.push (seqObj "list" vs.toArray 0)).get? h'.objs.size=some (seqObj "list" vs.toArray 0):=Heap.get?_push_size _ rfl
 refine wpAny_bind (wpAny_holding (wpAny_call_entry slot_list_sort ⟨_,hD,rfl⟩ entry_list_sort (list_sort_tree (s:={ s with heap:=h'.push (seqObj "list" vs.toArray 0),toks:=tk }) hD t (by omega) fun out ns' a1 a2 a3=>⟨_,rfl,?_⟩) (args_list_sort _)))
 refine wpAny_pure ⟨_,rfl,?_⟩
 obtain ⟨c,hc2⟩:=sortedHeap_at (out:=out) hD
 refine h _ tk h'.objs.size c out ns' (fun b o e=>?_) sz hc2 a1 a2 a3
 have lb:=Heap.lt_size (keep b o e)
 rw [sortedHeap_old (Nat.ne_of_lt lb) (by rw [size_push'];exact Nat.lt_succ_of_lt lb)]
 exact qps _ (keep b o e)
end
end SP
namespace L3
open PySem PySem.Spec PyProof.Rows L2
noncomputable def zgl (ns:List Int):List Int:=ns.mergeSort fun a b=>decide (a<=b)
theorem zh8 (ns:List Int):(zgl ns).Perm ns:=List.mergeSort_perm ns _
theorem yeq (ns:List Int):(zgl ns).Pairwise (·<=·):=by
 have:=List.pairwise_mergeSort (le:=fun a b:Int=>decide (a<=b)) (fun a b c h1 h2=>by simp at *;omega) (fun a b=>by simp;omega) ns
 exact this.imp fun h=>by simpa using h
theorem yer {a l:List Int}(h:a.Perm l) (s:a.Pairwise (·<=·)):a=zgl l :=
 List.Perm.eq_of_pairwise (fun _ _ _ _ h1 h2=>Int.le_antisymm h1 h2) s (yeq l) (h.trans (zh8 l).symm)
noncomputable def zha:List Key->Option (List Int)
 | []=>some []
 | .inl i :: r=>(zha r).bind fun ns=>some (i :: ns)
 | _=>none
theorem zr3:∀{ks:List Key}{ns:List Int},zha ks=some ns->ks=ns.map Sum.inl
 | [],ns,h=>by cases h;rfl
 | .inl i :: r,ns,h=>by
  obtain ⟨m,h1,h⟩:=bnd (show (zha r).bind (fun ns=>some (i :: ns))=some ns from h)
  cases h
  rw [zr3 h1];rfl
 | .inr x :: r,ns,h=>nomatch h
theorem zr4:∀ns:List Int,zha (ns.map Sum.inl)=some ns
 | []=>rfl
 | n :: ns=>by show (zha (ns.map Sum.inl)).bind _=_;rw [zr4 ns];rfl
noncomputable def zjk:FM
 | [.ref n],S=>(dctR S n).bind fun kvs=>(zha (kvs.map (·.1))).bind fun ns=>if ns.length<64 then some (.ref S.length,S++[.lst ((zgl ns).map .int)]) else none
 | _,_=>none
noncomputable def zr5:List V->Hp->VK->Prop:=fun xs H Q=>∃(a:Addr) (kvs:List (Key × V)) (ns:List Int),xs=[.ref a]/\Rd H a (.dK kvs)/\kvs.map (·.1)=ns.map Sum.inl/\ns.length<64/\∀l,H l=none->Q (.ref l) (upd H l (.lst ((zgl ns).map V.int)))
theorem zr6:∀{ns:List Int}{us:List Value},IntsAre us ns->Vals (ns.map V.int) us
 | [],us,h=>by cases h;exact .nil
 | t :: ts,us,h=>by
  cases h with
  | cons x k q=>exact .cons ⟨_,rfl⟩ (zr6 q)
theorem zr7 {ρ:List Addr}{H:Hp}:∀ns:List Int,RDs ρ H (ns.map D.int) (ns.map V.int)
 | []=>.nil
 | n :: ns=>.cons (.int n) (zr7 ns)
theorem zr8 {P:Program}{w:World}:∀{ns:List Int}{es:List DictEntry}{vs:List (Key × Value)},Pairs (zdl P w) es vs->vs.map (·.1)=ns.map Sum.inl->IntsAre (es.map (·.key)) ns
 | [],es,vs,h,e=>by
  cases h with
  | nil=>exact .nil
  | cons _ _ _=>simp at e
 | n :: ns,es,vs,h,e=>by
  cases h with
  | nil=>simp at e
  | @cons e0 kv es' kvs' h1 h2 q =>
   rw [List.map_cons,List.map_cons,List.cons.injEq] at e
   rw [e.1] at h1
   rcases zfb (show zgp (Sum.inl n:Key) e0.key=true from h1) with ⟨i,t,e1,e2⟩|⟨x,t,e1,e2⟩
   ·cases e1
    rw [List.map_cons,e2]
    exact .cons _ t (zr8 q e.2)
   ·cases e1
section
variable {X:Cx}{K:QFg}{a:Expr}{es:List Expr}{mA:AM}{pos p:Pos}
theorem yes (hcalm:X.calm=true):CallR X (.builtin "sorted") zr5:=by
 intro pins s σ H xs us Q I r h
 obtain ⟨b,kvs,ns,rfl,hH,ek,h64,q⟩:=h
 obtain ⟨u,rfl,ru⟩:=zef r
 cases ru
 obtain ⟨z,hs,vs,rel,o,es,ep,ho,hx,hd,_,pr,_⟩:=zkn I.hok hH
 have ek2:vs.map (·.1)=ns.map Sum.inl:=by rw [←rel.keys];exact ek
 have iv:=zr8 pr ek2
 have hl:es.size=ns.length:=by
  have h1:=pr.length
  have h2:=congrArg List.length ek2
  simp at h1 h2;omega
 refine SP.sorted_lays (fun E R hR=>SP.collectR hs (I.ok.hd hcalm) ⟨o,ho,hx,hd⟩ (by rw [sizeLine_eq];omega) fun h' tk sz keep=>hR h' tk _ sz keep iv) h64 fun h' tk D e out ns' keep sz hD a1 a2 a3=>?_
 have e1:=yer a2 a3
 subst e1
 exact ⟨.ref D,_,I.laid (t':=tk) keep sz (show ObjOk X.prog X.w _ _ _ (.lst ((zgl ns).map V.int)) from ⟨by rw [qlm,(zh8 ns).length_eq,sizeLine_eq];omega,out.toList,e,zr6 a1,by rw [hD]⟩),rfl,q D (I.hok.fresh sz)⟩
theorem yet:Fn3 K zjk zr5:=by
 intro ρ S H xs vs v S' Q sim r h p
 unfold zjk at h
 split at h
 ·obtain ⟨kvs,h1,h⟩:=bnd h
  obtain ⟨ns,h2,h⟩:=bnd h
  obtain ⟨hz,e⟩:=zbt h
  cases e
  obtain ⟨w,rfl,rw'⟩:=r.one
  obtain ⟨a,us,ha,hH,rr⟩:=sim.dctR h1
  cases rw' with
  | ref hn =>
   rw [ha] at hn;cases hn
   refine ⟨a,_,ns,rfl,hH,?_,hz,ziw sim (zr7 _) p⟩
   rw [List.map_fst_zip]
   ·exact zr3 h2
   ·have:=rr.length
    rw [qlm] at this ⊢
    omega
 ·cases h
theorem yeu (hcalm:X.calm=true) (hg:Gl X "sorted") (hm:X.mg "sorted" = none) (ha:PA3 X (a :: es) mA) (he:starEach (a :: es) X.env=(false,eval a X.env) :: starEach es X.env:=by rfl) (hpl:(backTo pos (starEach es X.env)).any (·.1)=false:=by rfl):PE3 X (.Call (.Name "sorted" p) (a :: es) [] pos) (zag zjk mA) :=
 zgg (yes hcalm) yet hg hm yc4 ha (by decide) (by decide) he hpl
end
noncomputable def zhb:D->D->Sto->Option (D × Sto)
 | .str z,.int k,S=>if 0<=k/\k<1000/\1<=z.length/\z.length<1000 then some (.str (zdf z k.toNat),S) else none
 | _,_,_=>none
noncomputable def zr9:R2:=fun x y H Q=>∃z k,x=.str z/\y=.int k/\0<=k/\k<1000/\1<=z.length/\z.length<1000/\Q (.str (zdf z k.toNat)) H
theorem yev {X:Cx}:OpR X (binaryOp .Mult) zr9:=by
 intro pins s σ H x y v u Q I rx ry h
 obtain ⟨z,k,rfl,rfl,h1,h2,h3,h4,q⟩:=h
 by_cases hk:1<=k
 ·exact yc6 pins s σ H _ _ v u Q I rx ry ⟨z,k,rfl,rfl,hk,h2,h3,h4,q⟩
 ·have e:k=0:=by omega
  subst e
  obtain ⟨t,rfl⟩:=rx
  obtain ⟨t',rfl⟩:=ry
  have e0:zdf z (0:Int).toNat=Str.empty:=by simp [zdf];rfl
  rw [e0] at q
  exact P.mul_str_none (by decide) (by decide) ⟨.str Str.empty,H,I.tok _,⟨_,rfl⟩,q⟩
theorem yew {K:QFg}:Op3 K zhb zr9:=by
 intro ρ S H x y x' y' v S' Q sim rx ry h p
 unfold zhb at h
 split at h
 ·obtain ⟨hz,e⟩:=zbt h
  cases e
  cases rx;cases ry
  exact ⟨_,_,rfl,rfl,hz.1,hz.2.1,hz.2.2.1,hz.2.2.2,p ρ H _ (Ext.refl ..) sim (.str _)⟩
 ·cases h
section
variable {X:Cx}{a b:Expr}{ma mb:EM}{pos:Pos}
theorem znp (ha:PE3 X a ma) (hb:PE3 X b mb):PE3 X (.BinOp a .Mult b pos) (eOp zhb ma mb):=zfh yev yew ha hb
theorem yex {z:Str}{k:Int}{S:Sto}{Q:D->Sto->Prop}:Wo (zhb (.str z) (.int k) S) Q=((0<=k/\k<1000/\1<=z.length/\z.length<1000)/\Q (.str (zdf z k.toNat)) S):=zd5
theorem znq (z:Str) (k:Nat):(zdf z k).cps.size=k*z.cps.size:=by simp [zdf]
end
theorem zan {α:Type}{x:α}{p:α->Prop}:(∃d,(some (some x):Option (Option α))=some (some d)/\p d)=p x:=by
 apply propext;constructor
 ·rintro ⟨d,h,q⟩;cases h;exact q
 ·exact fun q=>⟨x,rfl,q⟩
theorem zbl {α:Type}{x:α}{p:α->Prop}:(∃d,(some x:Option α)=some d/\p d)=p x:=by
 apply propext;constructor
 ·rintro ⟨d,h,q⟩;cases h;exact q
 ·exact fun q=>⟨x,rfl,q⟩
theorem zbb {b:Bool}{p:Bool->Prop}:(∃k,D.bl b=D.bl k/\p k)=p b:=by
 apply propext;constructor
 ·rintro ⟨d,h,q⟩;cases h;exact q
 ·exact fun q=>⟨b,rfl,q⟩
theorem yey {α:Type}{x y:α}:L2.atI [x,y] 0=some x:=rfl
theorem yez {α:Type}{x y:α}:L2.atI [x,y] 1=some y:=rfl
theorem ye0 {α:Type}{x y z:α}:L2.atI [x,y,z] 0=some x:=rfl
theorem ye1 {α:Type}{x y z:α}:L2.atI [x,y,z] 1=some y:=rfl
theorem ye2 {α:Type}{x y z:α}:L2.atI [x,y,z] 2=some z:=rfl
theorem zdp {S:Sto}{xs:List D}:lstOf (S++[.lst xs]) S.length=some xs:=by unfold lstOf;rw [zbx]
theorem ye3 {α:Type}(xs:List α) (i:Int) (h0:0<=i) (h1:i<xs.length):∃x,L2.atI xs i=some x/\x∈xs:=by
 have hl:i.toNat<xs.length:=by omega
 refine ⟨xs[i.toNat],?_,List.getElem_mem hl⟩
 unfold L2.atI L2.ixN
 rw [if_pos h0,if_pos h1]
 simp [hl]
theorem atI_get {α:Type}{xs:List α}{i:Nat}{x:α}(h:xs[i]? = some x):L2.atI xs (i:Int)=some x:=by
 have hl:=(qme h).1
 unfold L2.atI L2.ixN
 rw [if_pos (by omega),if_pos (by omega)]
 simpa using h
section
variable {S:Sto}{Q:D->Sto->Prop}{l:Lo}{QG:Lo->Sto->Prop}
theorem ye4 {i j:Int}:Wo (zeo (.int i) (.int j) S) Q=(((-(2 ^ 64)<i/\i<2 ^ 64)∨(-(2 ^ 64)<j/\j<2 ^ 64))/\Q (.int (i*j)) S):=zd5
theorem zsa:Wo none Q=False:=by unfold Wo;simp
theorem zd0 {xs:List D}{i:Int}:Wo (za4 (.tup xs) (.int i) S) Q = ∃v,L2.atI xs i=some v/\Q v S:=by
 have e:za4 (.tup xs) (.int i) S=dIx (.tup xs) (.int i) S:=by
  unfold za4
  cases h:dIx (.tup xs) (.int i) S with
  | some v=>rfl
  | none=>rfl
 rw [e,zqo]
theorem zd8 {k:Nat}{i:Int}:Wo (za4 (.ref k) (.int i) S) Q = ∃xs,lstOf S k=some xs/\∃v,L2.atI xs i=some v/\Q v S:=by
 have e:za4 (.ref k) (.int i) S=dIx (.ref k) (.int i) S:=by
  unfold za4
  cases h:dIx (.ref k) (.int i) S with
  | some v=>rfl
  | none=>rfl
 rw [e,zqp]
theorem znr {z:Str}{i:Int}:Wo (za4 (.str z) (.int i) S) Q=(z.length<=sizeLine/\∃c,L2.atI z.cps.toList i=some c/\Q (.str ⟨#[c]⟩) S):=by
 show Wo (if z.length<=sizeLine then (L2.atI z.cps.toList i).bind fun c=>some (.str ⟨#[c]⟩,S) else none) Q=_
 by_cases h:z.length<=sizeLine
 ·rw [if_pos h,ze1];simp only [zbh,h,true_and]
 ·rw [if_neg h,zsa];simp [h]
theorem zhc {k:Nat}:Wo (zbw [.ref k] S) Q = ∃xs,lstOf S k=some xs/\Q (.int xs.length) S:=zqr
theorem ze6 {xs:List D}:Wo (zbw [.tup xs] S) Q=Q (.int xs.length) S:=zqq
theorem zsb {z:Str}:Wo (zbw [.str z] S) Q=(z.length<=sizeLine/\Q (.int z.length) S):=zd5
theorem zsc {i:Int}:Wo (zh2 [.int i] S) Q=(i.natAbs.log2<1920/\Q (.str (toString i)) S):=zd5
theorem ye5 {i j:Str}:Wo (dEq (.str i) (.str j) S) Q=Q (.bl (decide (i=j))) S:=zbh
theorem zh9 {i j:Int}:Wo (dNe (.int i) (.int j) S) Q=Q (.bl (!decide (i=j))) S:=zbh
theorem zns {n:Nat}:Wo (zg5 [.ref n] S) Q = ∃xs,lstOf S n=some xs/\xs.all zep=true/\Q (.bl (xs.all isT)) S:=by
 show Wo ((lstOf S n).bind fun xs=>if xs.all zep=true then some (.bl (xs.all isT),S) else none) Q=_
 rw [ze1];simp only [zd5]
theorem ye6 {n:Nat}:Wo (zi6 [.ref n] S) Q = ∃xs,lstOf S n=some xs/\xs.all zep=true/\Q (.bl (xs.any isT)) S:=by
 show Wo ((lstOf S n).bind fun xs=>if xs.all zep=true then some (.bl (xs.any isT),S) else none) Q=_
 rw [ze1];simp only [zd5]
theorem znt {f:D->List D->Sto->Option (D × Sto)}{a:EM}{r:AM}:We (zh5 f a r) l S Q=We a l S fun x S1=>znk x=some ()/\Wa r l S1 fun ys S2=>Wo (f x ys S2) Q:=by
 apply propext
 constructor
 ·rintro ⟨v,S',h,q⟩
  obtain ⟨⟨x,S1⟩,h1,h⟩:=bnd h
  obtain ⟨_,h2,h⟩:=bnd h
  obtain ⟨⟨y,S2⟩,h3,h⟩:=bnd h
  exact ⟨x,S1,h1,h2,y,S2,h3,v,S',h,q⟩
 ·rintro ⟨x,S1,h1,h2,y,S2,h3,v,S',h,q⟩
  refine ⟨v,S',?_,q⟩
  unfold zh5;rw [h1];show (znk x).bind _=_;rw [h2];show (r l S1).bind _=_;rw [h3];exact h
theorem ye7 {o i:EM}{v:D}:Wg (zh4 o i v l S) QG=We o l S fun x S1=>We i l S1 fun y S2=>∃S',zi8 x y v S2=some S'/\QG l S':=by
 apply propext
 constructor
 ·rintro ⟨l',S',h,q⟩
  obtain ⟨⟨x,S1⟩,h1,h⟩:=bnd h
  obtain ⟨⟨y,S2⟩,h2,h⟩:=bnd h
  obtain ⟨S3,h3,h⟩:=bnd h
  cases h
  exact ⟨x,S1,h1,y,S2,h2,_,h3,q⟩
 ·rintro ⟨x,S1,h1,y,S2,h2,S3,h3,q⟩
  refine ⟨l,S3,?_,q⟩
  unfold zh4;rw [h1];show (i l S1).bind _=_;rw [h2];show (zi8 x y v S2).bind _=_;rw [h3];rfl
theorem zsd {U:String}{b:Int}:Wo (zhx U (.int b) S) Q=Q (.bl (isI "int" U)) S:=zbh
theorem ye8 {U:String}{b:List D}:Wo (zhx U (.tup b) S) Q=Q (.bl (isI "tuple" U)) S:=zbh
theorem zse {U:String}:isI U U=true:=by unfold isI;simp
theorem ye9 {n m:Nat}{xs:List D}(h1:S[n]? = some (.lst xs)) (h2:S[m]? = some (.lst [])):Wo (zja (.ref n) (.ref m) S) Q=Q (.bl xs.isEmpty) S:=by
 show Wo (match S[n]?,S[m]? with|some (.lst xs),some (.lst [])=>some (.bl xs.isEmpty,S)|_,_=>none) Q=_
 rw [h1,h2];exact zbh
end
noncomputable def Gr (S0 S:Sto):Prop:=∃ex,S=S0++ex
theorem Gr.refl (S:Sto):Gr S S:=⟨[],by rw [List.append_nil]⟩
theorem Gr.trans {A B C:Sto}(h:Gr A B) (g:Gr B C):Gr A C:=by obtain ⟨x,rfl⟩:=h;obtain ⟨y,rfl⟩:=g;exact ⟨x++y,by rw [List.append_assoc]⟩
theorem Gr.push {A B:Sto}(h:Gr A B) (o:Ob):Gr A (B++[o]):=h.trans ⟨[o],rfl⟩
theorem Gr.get {A B:Sto}{n:Nat}{o:Ob}(h:Gr A B) (e:A[n]? = some o):B[n]? = some o:=by
 obtain ⟨x,rfl⟩:=h
 rw [List.getElem?_append_left (qme e).1];exact e
theorem Gr.lst {A B:Sto}{n:Nat}{xs:List D}(h:Gr A B) (e:lstOf A n=some xs):lstOf B n=some xs:=by
 unfold lstOf at e ⊢
 cases q:A[n]? with
 | none=>rw [q] at e;cases e
 | some o=>rw [h.get q];rw [q] at e;exact e
section
variable {it:ItM}{im:IM}{ixs:List (Option Nat)}{g:GM}{t:TM}{e:EM}{l:Lo}{S S1:Sto}{Q:D->Sto->Prop}{k:Nat}
theorem znu (xs:List D) (R:Nat->List D->Lo->Sto->Prop) (hit:∀i acc l S,R i acc l S->it i S=some xs[i]?)
  (step:∀(i:Nat) x acc l S,xs[i]? = some x->R i acc l S->Wg (g x l S) fun l1 S1=>Wt t l1 S1 fun b S2=>if b=true then We e l1 S2 fun v S3=>R (i+1) (acc++[v]) l1 S3 else R (i+1) acc l1 S2) :
  ∀(n i:Nat) (acc:List D) (l:Lo) (S:Sto),n+i=xs.length->R i acc l S->∃rest S' l',zdv it g t e (n+1) i l S=some (rest,S')/\R xs.length (acc++rest) l' S'
 | 0,i,acc,l,S,hn,h=>by
  have hi:i=xs.length:=by omega
  have e0:=hit i acc l S h
  rw [List.getElem?_eq_none_iff.mpr (by omega)] at e0
  refine ⟨[],S,l,?_,by rw [List.append_nil,←hi];exact h⟩
  unfold zdv;rw [e0];rfl
 | n+1,i,acc,l,S,hn,h=>by
  have hi:i<xs.length:=by omega
  have e0:=hit i acc l S h
  rw [qge hi] at e0
  obtain ⟨l1,S1,e1,b,S2,e2,q⟩:=step i _ acc l S (qge hi) h
  cases b with
  | true =>
   obtain ⟨v,S3,e3,q⟩:=q
   obtain ⟨rest,S',l',e4,q⟩:=znu xs R hit step n (i+1) (acc++[v]) l1 S3 (by omega) q
   refine ⟨v :: rest,S',l',?_,by rw [List.append_assoc] at q;exact q⟩
   unfold zdv;rw [e0];show (g _ l S).bind _=_;rw [e1];show (t l1 S1).bind _=_;rw [e2]
   show (e l1 S2).bind _=_;rw [e3];show (zdv it g t e (n+1) (i+1) l1 S3).bind _=_;rw [e4];rfl
  | false =>
   obtain ⟨rest,S',l',e4,q⟩:=znu xs R hit step n (i+1) acc l1 S2 (by omega) q
   refine ⟨rest,S',l',?_,q⟩
   unfold zdv;rw [e0];show (g _ l S).bind _=_;rw [e1];show (t l1 S1).bind _=_;rw [e2]
   exact e4
theorem zia (xs:List D) (R:Nat->List D->Lo->Sto->Prop) (him:im l S=some (it,xs.length+1,S1)) (h0:R 0 [] (zcc ixs l) S1) (hit:∀i acc l S,R i acc l S->it i S=some xs[i]?)
  (step:∀(i:Nat) x acc l S,xs[i]? = some x->R i acc l S->Wg (g x l S) fun l1 S1=>Wt t l1 S1 fun b S2=>if b=true then We e l1 S2 fun v S3=>R (i+1) (acc++[v]) l1 S3 else R (i+1) acc l1 S2)
  (fin:∀acc l' S',R xs.length acc l' S'->acc.length<=sizeLine/\Q (.ref S'.length) (S'++[.lst acc])):We (zch im ixs g t e) l S Q:=by
 obtain ⟨rest,S',l',h1,h2⟩:=znu (it:=it) (g:=g) (t:=t) (e:=e) xs R hit step xs.length 0 [] (zcc ixs l) S1 rfl h0
 obtain ⟨hz,q⟩:=fin rest l' S' h2
 refine ⟨_,_,?_,q⟩
 unfold zch;rw [him];show (zdv it g t e (xs.length+1) 0 (zcc ixs l) S1).bind _=_;rw [h1];show (if _ then _ else _)=_;rw [if_pos hz]
theorem zhd (xs:List D) (F:D->D) (P:Sto->Prop) (L:Lo->Prop) (him:im l S=some (it,xs.length+1,S1)) (h0:P S1) (l0:L (zcc ixs l)) (hit:∀i S,P S->it i S=some xs[i]?) (hz:xs.length<=sizeLine)
  (step:∀x l S,x∈xs->L l->P S->Wg (g x l S) fun l1 S2=>P S2/\L l1/\We e l1 S2 fun v S3=>v=F x/\P S3)
  (fin:∀S',P S'->Q (.ref S'.length) (S'++[.lst (xs.map F)])):We (zch im ixs g zcm e) l S Q:=by
 refine zia xs (fun i acc l S=>acc=(xs.take i).map F/\L l/\P S) him ⟨rfl,l0,h0⟩ (fun i acc l S h=>hit i S h.2.2) ?_ ?_
 ·rintro i x acc l S hx ⟨rfl,hl,hp⟩
  obtain ⟨l1,S2,e1,p1,q1,v,S3,e2,rfl,p3⟩:=step x l S (qmg hx) hl hp
  refine ⟨l1,S2,e1,?_⟩
  dsimp only
  rw [zqk,if_pos rfl]
  refine ⟨_,S3,e2,?_,q1,p3⟩
  rw [List.take_add_one,hx];simp
 ·rintro acc l' S' ⟨rfl,hl,hp⟩
  rw [List.take_length]
  exact ⟨by rw [qlm];exact hz,fin S' hp⟩
theorem zsf (xs:List D) (F:D->Option D) (P:Sto->Prop) (L:Lo->Prop) (him:im l S=some (it,xs.length+1,S1)) (h0:P S1) (l0:L (zcc ixs l)) (hit:∀i S,P S->it i S=some xs[i]?) (hz:xs.length<=sizeLine)
  (step:∀x l S,x∈xs->L l->P S->Wg (g x l S) fun l1 S2=>L l1/\Wt t l1 S2 fun b S3=>P S3/\(b=false->F x=none)/\(b=true->We e l1 S3 fun v S4=>F x=some v/\P S4))
  (fin:∀S',P S'->Q (.ref S'.length) (S'++[.lst (xs.filterMap F)])):We (zch im ixs g t e) l S Q:=by
 refine zia xs (fun i acc l S=>acc=(xs.take i).filterMap F/\L l/\P S) him ⟨rfl,l0,h0⟩ (fun i acc l S h=>hit i S h.2.2) ?_ ?_
 ·rintro i x acc l S hx ⟨rfl,hl,hp⟩
  obtain ⟨l1,S2,e1,q1,b,S3,e2,p3,hf,ht⟩:=step x l S (qmg hx) hl hp
  refine ⟨l1,S2,e1,b,S3,e2,?_⟩
  have et:xs.take (i+1)=xs.take i++[x]:=by rw [List.take_add_one,hx];rfl
  cases b with
  | true =>
   obtain ⟨v,S4,e4,hv,p4⟩:=ht rfl
   dsimp only
   rw [if_pos rfl]
   refine ⟨v,S4,e4,?_,q1,p4⟩
   rw [et,List.filterMap_append];simp [hv]
  | false =>
   dsimp only
   rw [if_neg Bool.false_ne_true]
   refine ⟨?_,q1,p3⟩
   rw [et,List.filterMap_append];simp [hf rfl]
 ·rintro acc l' S' ⟨rfl,hl,hp⟩
  rw [List.take_length]
  exact ⟨Nat.le_trans (List.length_filterMap_le _ _) hz,fin S' hp⟩
theorem yfa (xs:List D) (V:D->Prop) (P:Nat->Sto->Prop) (L:Lo->Prop) (him:im l S=some (it,xs.length+1,S1)) (h0:P 0 S1) (l0:L (zcc ixs l)) (hit:∀i S,P i S->it i S=some xs[i]?) (hz:xs.length<=sizeLine)
  (step:∀(i:Nat) x l S,xs[i]? = some x->L l->P i S->Wg (g x l S) fun l1 S2=>L l1/\We e l1 S2 fun v S3=>V v/\P (i+1) S3)
  (fin:∀vs S',vs.length=xs.length->(∀v∈vs,V v)->P xs.length S'->Q (.ref S'.length) (S'++[.lst vs])):We (zch im ixs g zcm e) l S Q:=by
 refine zia xs (fun i acc l S=>acc.length=i/\(∀v∈acc,V v)/\L l/\P i S) him ⟨rfl,(fun v hv=>by cases hv),l0,h0⟩ (fun i acc l S h=>hit i S h.2.2.2) ?_ ?_
 ·rintro i x acc l S hx ⟨hl,hv,hL,hp⟩
  obtain ⟨l1,S2,e1,q1,v,S3,e2,hv2,p3⟩:=step i x l S hx hL hp
  refine ⟨l1,S2,e1,?_⟩
  dsimp only
  rw [zqk,if_pos rfl]
  refine ⟨v,S3,e2,by simp [hl],fun u hu=>?_,q1,p3⟩
  rcases List.mem_append.mp hu with hu|hu
  ·exact hv u hu
  ·rw [List.mem_singleton.mp hu];exact hv2
 ·rintro acc l' S' ⟨hl,hv,hL,hp⟩
  exact ⟨by rw [hl];exact hz,fin acc S' hl hv hp⟩
end
theorem zsg {as:AM}{l:Lo}{S S1:Sto}{j:Int}(h:as l S=some ([.int j],S1)) (hz:-(2 ^ 62)<=j/\j<2 ^ 62):zcg as l S=some ((0,j.toNat),S1):=by
 unfold zcg;rw [h];simp only [Option.bind_some];rw [if_pos hz]
theorem zlh {as:AM}{l:Lo}{S S1:Sto}{n:Nat}(h:as l S=some ([.int (n:Int)],S1)) (hn:n<1000000000):zfj (zcg as) l S=some (itX (zbz 0 n),(zbz 0 n).length+1,S1):=by
 have:=zsg h ⟨by omega,by omega⟩
 unfold zfj;rw [this];simp only [Option.bind_some,Int.toNat_natCast,zfy]
noncomputable def enl (xs:List D):List D:=xs.mapIdx fun i x=>.tup [.int i,x]
theorem zf4 (xs:List D):(enl xs).length=xs.length:=by simp [enl]
theorem zfn (xs:List D) (i:Nat):(enl xs)[i]? = (xs[i]?).map fun x=>.tup [.int i,x]:=by simp [enl,List.getElem?_mapIdx]
theorem zli {xs:List D}{i:Nat}{S:Sto}:itN (itX xs) i S=some (enl xs)[i]?:=by
 rw [zfn];rfl
theorem zsh {as:AM}{l:Lo}{S S1:Sto}{z:Str}(h:as l S=some ([.str z],S1)):zd6 as l S=some (itN (itX (sgn z)),(enl (sgn z)).length+1,S1):=by
 unfold zd6;rw [h,zf4,zk9];rfl
theorem zsi {as:AM}{l:Lo}{S S1:Sto}{xs:List D}(h:as l S=some ([.tup xs],S1)):zd6 as l S=some (itN (itX xs),(enl xs).length+1,S1):=by
 unfold zd6;rw [h,zf4];rfl
theorem zjl {e:EM}{l:Lo}{S S1:Sto}{xs:List D}(h:e l S=some (.tup xs,S1)):zdn e l S=some (itX xs,xs.length+1,S1):=by
 unfold zdn;rw [h];rfl
theorem znv {e:EM}{l:Lo}{S S1:Sto}{n:Nat}{xs:List D}(h:e l S=some (.ref n,S1)) (hn:lstOf S1 n=some xs):zdn e l S=some (itL n,xs.length+1,S1):=by
 unfold zdn;rw [h];show (lstOf S1 n).bind _=_;rw [hn];rfl
theorem zjm {n i:Nat}{S:Sto}{xs:List D}(hn:lstOf S n=some xs):itL n i S=some xs[i]?:=by unfold itL;rw [hn];rfl
section
variable {g:GM}{b:SM}
theorem zlj (P:Nat->Lo->Sto->Prop) (O:D->Sto->Prop):∀(xs:List D) (k:Nat) (l:Lo) (S:Sto),P k l S ->
  (∀(i:Nat) x l S,xs[i]? = some x->P (k+i) l S->Wg (g x l S) fun l1 S1=>Ws b l1 S1 fun f l2 S2=>((f=.nx∨f=.ct)/\P (k+i+1) l2 S2)∨∃d,f=.rt d/\O d S2) ->
  Wr (zek g b xs l S) fun f l' S'=>(f=.nx/\P (k+xs.length) l' S')∨∃d,f=.rt d/\O d S'
 | [],k,l,S,h0,_=>⟨_,_,_,rfl,.inl ⟨rfl,h0⟩⟩
 | x :: xs,k,l,S,h0,hs=>by
  obtain ⟨l1,S1,e1,f,l2,S2,e2,q⟩:=hs 0 x l S rfl h0
  rcases q with ⟨hf,h1⟩|⟨d,rfl,hd⟩
  ·have ih:=zlj P O xs (k+1) l2 S2 h1 fun i y l S hy hp=>by
    have:=hs (i+1) y l S (by simpa using hy) (by rw [show k+(i+1)=k+1+i by omega];exact hp)
    rw [show k+(i+1)+1=k+1+i+1 by omega] at this
    exact this
   obtain ⟨f',l',S',e3,q1⟩:=ih
   refine ⟨f',l',S',?_,by rw [List.length_cons,show k+(xs.length+1)=k+1+xs.length by omega];exact q1⟩
   unfold zek
   rw [e1];show (b l1 S1).bind _=_;rw [e2]
   rcases hf with rfl|rfl <;> exact e3
  ·refine ⟨_,l2,S2,?_,.inr ⟨d,rfl,hd⟩⟩
   unfold zek
   rw [e1];show (b l1 S1).bind _=_;rw [e2];rfl
theorem zib (P:Nat->Lo->Sto->Prop) (O:D->Sto->Prop) {as:AM}{l:Lo}{S S1:Sto}{n:Nat}{QS:Fl->Lo->Sto->Prop}(h:as l S=some ([.int (n:Int)],S1)) (hn:n<1000000000) (h0:P 0 l S1)
  (step:∀(i:Nat) l S,i<n->P i l S->Wg (g (.int i) l S) fun l1 S1=>Ws b l1 S1 fun f l2 S2=>((f=.nx∨f=.ct)/\P (i+1) l2 S2)∨∃d,f=.rt d/\O d S2)
  (fin:∀l' S',P n l' S'->QS .nx l' S') (out:∀d l' S',O d S'->QS (.rt d) l' S'):Ws (zez (zcg as) g b) l S QS:=by
 rw [zqs]
 refine ⟨_,_,h,(n:Int),rfl,⟨by omega,by omega⟩,?_⟩
 rw [Int.toNat_natCast]
 refine (zlj P O (zbz 0 n) 0 l S1 h0 ?_).mono ?_
 ·intro i x l S hx hp
  obtain ⟨hi,rfl⟩:=zkx hx
  rw [Nat.zero_add] at hp
  have:=step i l S hi hp
  rw [Int.zero_add,Nat.zero_add]
  exact this
 ·rintro f l' S' (⟨rfl,hp⟩|⟨d,rfl,hd⟩)
  ·rw [zfy,Nat.zero_add] at hp;exact fin l' S' hp
  ·exact out d l' S' hd
end
section
variable {S:Sto}{Q:D->Sto->Prop}{l:Lo}
theorem zc6 {i j:Int}:Wo (za3 (.int i) (.int j) S) Q=Q (.int (i+j)) S:=zbh
theorem znw {i j:Str}:Wo (za3 (.str i) (.str j) S) Q=(i.length+j.length<=sizeLine/\Q (.str (i++j)) S):=by
 by_cases h:i.length+j.length<=sizeLine
 ·have:za3 (.str i) (.str j) S=some (.str (i++j),S):=by unfold za3 zjb;simp only [h,if_true]
  rw [this,zbh];simp [h]
 ·have:za3 (.str i) (.str j) S=none:=by unfold za3 zjb;simp only [h,if_false];rfl
  rw [this,zsa];simp [h]
theorem zgm {xs ys:List D}:Wo (za3 (.tup xs) (.tup ys) S) Q=(xs.length+ys.length<=sizeLine/\Q (.tup (xs++ys)) S):=zd5
theorem zsj {n m:Nat}{xs ys:List D}(h1:S[n]? = some (.lst xs)) (h2:S[m]? = some (.lst ys)):Wo (za3 (.ref n) (.ref m) S) Q=(xs.length+ys.length<=sizeLine/\Q (.ref S.length) (S++[.lst (xs++ys)])):=by
 show Wo (match S[n]?,S[m]? with|some (.lst xs),some (.lst ys)=>if xs.length+ys.length<=sizeLine then some (.ref S.length,S++[.lst (xs++ys)]) else none|_,_=>none) Q=_
 rw [h1,h2];exact zd5
theorem zsk {z:Str}{n:Int}(h:intText? z=some n) (hz:z.length<=640):Wo (zg6 [.str z] S) Q=Q (.int n) S:=by
 have:zg6 [.str z] S=some (.int n,S):=by unfold zg6;simp only [h,Option.bind_some,hz,if_true]
 rw [this];exact zbh
theorem yfb {n:Nat}{xs:List D}{i:Nat}{x:D}(h:S[n]? = some (.lst xs)) (hi:i<=xs.length) (hz:xs.length<sizeLine):Wo (zg7 (.ref n) [.int i,x] S) Q=Q .non (S.set n (.lst (xs.take i++[x]++xs.drop i))):=by
 have:zg7 (.ref n) [.int i,x] S=some (.non,S.set n (.lst (xs.take i++[x]++xs.drop i))):=by
  unfold zg7;simp only [h]
  rw [if_pos ⟨by omega,by omega,hz⟩,Int.toNat_natCast]
 rw [this];exact zbh
noncomputable def Wp (o:OM) (l:Lo) (S:Sto) (Q:Option Int->Sto->Prop):Prop:=∃v S',o l S=some (v,S')/\Q v S'
theorem zd9 {Q:Option Int->Sto->Prop}:Wp zb8 l S Q=Q none S:=by
 apply propext
 exact ⟨fun hx1_=>by obtain ⟨v,S',h,q⟩:=hx1_;cases h;exact q,fun q=>⟨_,_,rfl,q⟩⟩
theorem zea {e:EM}{Q:Option Int->Sto->Prop}:Wp (zb3 e) l S Q=We e l S fun x S1=>∃i,x=.int i/\Q (some i) S1:=by
 apply propext
 constructor
 ·rintro ⟨v,S',h,q⟩
  obtain ⟨⟨x,S1⟩,h1,h⟩:=bnd h
  refine ⟨x,S1,h1,?_⟩
  cases x with
  | int i=>cases h;exact ⟨i,rfl,q⟩
  | _=>cases h
 ·rintro ⟨x,S1,h1,i,rfl,q⟩
  exact ⟨_,S1,by unfold zb3;rw [h1];rfl,q⟩
theorem zeb {b:Int}{p:Int->Prop}:(∃k,D.int b=D.int k/\p k)=p b:=by
 apply propext;constructor
 ·rintro ⟨d,h,q⟩;cases h;exact q
 ·exact fun q=>⟨b,rfl,q⟩
noncomputable def slA (x:D) (a b:Option Int) (S:Sto):Option (D × Sto):=match x with
 | .tup xs=>some (.tup (zc0 xs a b),S)
 | .ref n=>(lstOf S n).bind fun xs=>some (.ref S.length,S++[.lst (zc0 xs a b)])
 | .str z=>if z.length<=sizeLine then some (.str (Txt.slice z a b),S) else none
 | _=>none
theorem zec {m:EM}{lo hi:OM}:We (zb6 m lo hi) l S Q=We m l S fun x S1=>Wp lo l S1 fun a S2=>Wp hi l S2 fun b S3=>Wo (slA x a b S3) Q:=by
 apply propext
 constructor
 ·rintro ⟨v,S',h,q⟩
  obtain ⟨⟨x,S1⟩,h1,h⟩:=bnd h
  obtain ⟨⟨a,S2⟩,h2,h⟩:=bnd h
  obtain ⟨⟨b,S3⟩,h3,h⟩:=bnd h
  exact ⟨x,S1,h1,a,S2,h2,b,S3,h3,v,S',h,q⟩
 ·rintro ⟨x,S1,h1,a,S2,h2,b,S3,h3,v,S',h,q⟩
  refine ⟨v,S',?_,q⟩
  unfold zb6;rw [h1];show (lo l S1).bind _=_;rw [h2];show (hi l S2).bind _=_;rw [h3];exact h
theorem zfo {xs:List D}{a b:Option Int}:Wo (slA (.tup xs) a b S) Q=Q (.tup (zc0 xs a b)) S:=zbh
theorem zsl {n:Nat}{xs:List D}{a b:Option Int}(h:lstOf S n=some xs):Wo (slA (.ref n) a b S) Q=Q (.ref S.length) (S++[.lst (zc0 xs a b)]):=by
 show Wo ((lstOf S n).bind fun xs=>some (.ref S.length,S++[.lst (zc0 xs a b)])) Q=_
 rw [h];exact zbh
theorem zsm {z:Str}{a b:Option Int}:Wo (slA (.str z) a b S) Q=(z.length<=sizeLine/\Q (.str (Txt.slice z a b)) S):=zd5
theorem ze7 (xs:List D) (k:Nat):zc0 xs none (some (k:Int))=xs.take k:=by
 unfold zc0;rw [HT.sIx_none,HT.sIx_nat,List.drop_zero,Nat.sub_zero]
 by_cases h:k<=xs.length
 ·rw [Nat.min_eq_left h]
 ·rw [Nat.min_eq_right (by omega),List.take_length,List.take_of_length_le (by omega)]
theorem zf5 (xs:List D) (k:Nat):zc0 xs (some (k:Int)) none=xs.drop k:=by
 unfold zc0;rw [HT.sIx_none,HT.sIx_nat]
 by_cases h:k<=xs.length
 ·rw [Nat.min_eq_left h,List.take_of_length_le (by rw [List.length_drop];exact qlr _)]
 ·rw [Nat.min_eq_right (by omega),Nat.sub_self,List.take_zero,List.drop_eq_nil_of_le (by omega)]
theorem yfc (z:Str) (k:Nat) (hk:k<=z.cps.size):Txt.slice z none (some (k:Int))=⟨(z.cps.toList.take k).toArray⟩:=by
 have:=StrLaws.sliceText_to (x:=z) (j:=(k:Int)) ⟨by omega,by simpa using hk⟩
 show StrLaws.sliceText z none (some (k:Int))=_
 rw [this,List.drop_zero,Int.sub_zero,Int.toNat_natCast]
theorem yfd (z:Str) (k:Nat) (hk:k<=z.cps.size):Txt.slice z (some (k:Int)) none=⟨(z.cps.toList.drop k).toArray⟩:=by
 have:=StrLaws.sliceText_from (x:=z) (i:=(k:Int)) ⟨by omega,by simpa using hk⟩
 show StrLaws.sliceText z (some (k:Int)) none=_
 rw [this,Int.toNat_natCast,List.take_of_length_le (by rw [List.length_drop];omega)]
end
section
variable {it:ItM}{im:IM}{g:GM}{b:SM}
theorem zsn (xs:List D) (P:Nat->Lo->Sto->Prop) (O:D->Sto->Prop) (hit:∀i l S,P i l S->it i S=some xs[i]?)
  (step:∀(i:Nat) x l S,xs[i]? = some x->P i l S->Wg (g x l S) fun l1 S1=>Ws b l1 S1 fun f l2 S2=>((f=.nx∨f=.ct)/\P (i+1) l2 S2)∨∃d,f=.rt d/\O d S2) :
  ∀(n i:Nat) (l:Lo) (S:Sto),n+i=xs.length->P i l S->Wr (ze4 it g b (n+1) i l S) fun f l' S'=>(f=.nx/\P xs.length l' S')∨∃d,f=.rt d/\O d S'
 | 0,i,l,S,hn,h=>by
  have hi:i=xs.length:=by omega
  have e0:=hit i l S h
  rw [List.getElem?_eq_none_iff.mpr (by omega)] at e0
  refine ⟨.nx,l,S,?_,.inl ⟨rfl,by rw [←hi];exact h⟩⟩
  unfold ze4;rw [e0];rfl
 | n+1,i,l,S,hn,h=>by
  have hi:i<xs.length:=by omega
  have e0:=hit i l S h
  rw [qge hi] at e0
  obtain ⟨l1,S1,e1,f,l2,S2,e2,q⟩:=step i _ l S (qge hi) h
  rcases q with ⟨hf,h1⟩|⟨d,rfl,hd⟩
  ·obtain ⟨f',l',S',e3,q1⟩:=zsn xs P O hit step n (i+1) l2 S2 (by omega) h1
   refine ⟨f',l',S',?_,q1⟩
   unfold ze4;rw [e0];show (g _ l S).bind _=_;rw [e1];show (b l1 S1).bind _=_;rw [e2]
   rcases hf with rfl|rfl <;> exact e3
  ·refine ⟨_,l2,S2,?_,.inr ⟨d,rfl,hd⟩⟩
   unfold ze4;rw [e0];show (g _ l S).bind _=_;rw [e1];show (b l1 S1).bind _=_;rw [e2];rfl
theorem zjn (xs:List D) (P:Nat->Lo->Sto->Prop) (O:D->Sto->Prop) {l:Lo}{S S1:Sto}{QS:Fl->Lo->Sto->Prop}(him:im l S=some (it,xs.length+1,S1)) (h0:P 0 l S1) (hit:∀i l S,P i l S->it i S=some xs[i]?)
  (step:∀(i:Nat) x l S,xs[i]? = some x->P i l S->Wg (g x l S) fun l1 S1=>Ws b l1 S1 fun f l2 S2=>((f=.nx∨f=.ct)/\P (i+1) l2 S2)∨∃d,f=.rt d/\O d S2)
  (fin:∀l' S',P xs.length l' S'->QS .nx l' S') (out:∀d l' S',O d S'->QS (.rt d) l' S'):Ws (zgj im g b) l S QS:=by
 obtain ⟨f,l',S',e,q⟩:=zsn (it:=it) (g:=g) (b:=b) xs P O hit step xs.length 0 l S1 rfl h0
 refine ⟨f,l',S',by unfold zgj;rw [him];exact e,?_⟩
 rcases q with ⟨rfl,h⟩|⟨d,rfl,h⟩
 ·exact fin l' S' h
 ·exact out d l' S' h
theorem zjo {e:EM}(xs:List D) (P:Nat->Lo->Sto->Prop) (O:D->Sto->Prop) {l:Lo}{S S1:Sto}{QS:Fl->Lo->Sto->Prop}(he:e l S=some (.tup xs,S1)) (h0:P 0 l S1)
  (step:∀(i:Nat) x l S,xs[i]? = some x->P i l S->Wg (g x l S) fun l1 S1=>Ws b l1 S1 fun f l2 S2=>((f=.nx∨f=.ct)/\P (i+1) l2 S2)∨∃d,f=.rt d/\O d S2)
  (fin:∀l' S',P xs.length l' S'->QS .nx l' S') (out:∀d l' S',O d S'->QS (.rt d) l' S'):Ws (zem e g b) l S QS:=by
 rw [zqt]
 refine ⟨_,_,he,?_⟩
 refine (zlj P O xs 0 l S1 h0 ?_).mono ?_
 ·intro i x l S hx hp
  rw [Nat.zero_add] at hp ⊢
  exact step i x l S hx hp
 ·rintro f l' S' (⟨rfl,hp⟩|⟨d,rfl,hd⟩)
  ·rw [Nat.zero_add] at hp;exact fin l' S' hp
  ·exact out d l' S' hd
theorem zso {n:Nat}(xs:List D) (P:Nat->Lo->Sto->Prop) (O:D->Sto->Prop) (hit:∀i l S,P i l S->lstOf S n=some xs)
  (step:∀(i:Nat) x l S,xs[i]? = some x->P i l S->Wg (g x l S) fun l1 S1=>Ws b l1 S1 fun f l2 S2=>((f=.nx∨f=.ct)/\P (i+1) l2 S2)∨∃d,f=.rt d/\O d S2) :
  ∀(k i:Nat) (l:Lo) (S:Sto),k+i=xs.length->P i l S->Wr (zel g b n (k+1) i l S) fun f l' S'=>(f=.nx/\P xs.length l' S')∨∃d,f=.rt d/\O d S'
 | 0,i,l,S,hn,h=>by
  have hi:i=xs.length:=by omega
  refine ⟨.nx,l,S,?_,.inl ⟨rfl,by rw [←hi];exact h⟩⟩
  unfold zel;rw [hit i l S h];simp only [Option.bind_some];rw [List.getElem?_eq_none_iff.mpr (by omega)]
 | k+1,i,l,S,hn,h=>by
  have hi:i<xs.length:=by omega
  obtain ⟨l1,S1,e1,f,l2,S2,e2,q⟩:=step i _ l S (qge hi) h
  rcases q with ⟨hf,h1⟩|⟨d,rfl,hd⟩
  ·obtain ⟨f',l',S',e3,q1⟩:=zso xs P O hit step k (i+1) l2 S2 (by omega) h1
   refine ⟨f',l',S',?_,q1⟩
   unfold zel;rw [hit i l S h];simp only [Option.bind_some];rw [qge hi];show (g _ l S).bind _=_;rw [e1];show (b l1 S1).bind _=_;rw [e2]
   rcases hf with rfl|rfl <;> exact e3
  ·refine ⟨_,l2,S2,?_,.inr ⟨d,rfl,hd⟩⟩
   unfold zel;rw [hit i l S h];simp only [Option.bind_some];rw [qge hi];show (g _ l S).bind _=_;rw [e1];show (b l1 S1).bind _=_;rw [e2];rfl
theorem zsp {e:EM}{n:Nat}(xs:List D) (P:Nat->Lo->Sto->Prop) (O:D->Sto->Prop) {l:Lo}{S S1:Sto}{QS:Fl->Lo->Sto->Prop}(he:e l S=some (.ref n,S1)) (h0:P 0 l S1) (hit:∀i l S,P i l S->lstOf S n=some xs)
  (step:∀(i:Nat) x l S,xs[i]? = some x->P i l S->Wg (g x l S) fun l1 S1=>Ws b l1 S1 fun f l2 S2=>((f=.nx∨f=.ct)/\P (i+1) l2 S2)∨∃d,f=.rt d/\O d S2)
  (fin:∀l' S',P xs.length l' S'->QS .nx l' S') (out:∀d l' S',O d S'->QS (.rt d) l' S'):Ws (zem e g b) l S QS:=by
 rw [zqt]
 refine ⟨_,_,he,?_⟩
 simp only
 rw [hit 0 l S1 h0];simp only [Option.bind_some]
 refine (zso xs P O hit step xs.length 0 l S1 rfl h0).mono ?_
 rintro f l' S' (⟨rfl,hp⟩|⟨d,rfl,hd⟩)
 ·exact fin l' S' hp
 ·exact out d l' S' hd
end
theorem yfe {n:Nat}(h:n<1000000):((n:Nat):Int).natAbs.log2<1920:=by
 by_cases hz:n=0
 ·subst hz;decide
 ·have h1:((n:Nat):Int).natAbs=n:=by omega
  rw [h1]
  have h2:n.log2<20:=(Nat.log2_lt hz).mpr (Nat.lt_of_lt_of_le h (by decide))
  omega
section
variable {l:Lo}{S:Sto}{Q:D->Sto->Prop}{QG:Lo->Sto->Prop}{a b c:EM}
theorem yff {x y:D}:Wo (zg8 x y S) Q = ∃v,dRd S x y=some (some v)/\Q v S:=by
 unfold zg8
 rw [ze1]
 apply propext
 constructor
 ·rintro ⟨o,h,q⟩
  rw [ze1] at q
  obtain ⟨v,rfl,q⟩:=q
  rw [zbh] at q
  exact ⟨v,h,q⟩
 ·rintro ⟨v,h,q⟩
  exact ⟨_,h,by rw [ze1];exact ⟨v,rfl,by rw [zbh];exact q⟩⟩
theorem znx {o i:EM}{v:D}:Wg (zje o i v l S) QG=We o l S fun x S1=>We i l S1 fun y S2=>∃S',zg9 x y v S2=some S'/\QG l S':=by
 apply propext
 constructor
 ·rintro ⟨l',S',h,q⟩
  obtain ⟨⟨x,S1⟩,h1,h⟩:=bnd h
  obtain ⟨⟨y,S2⟩,h2,h⟩:=bnd h
  obtain ⟨S3,h3,h⟩:=bnd h
  cases h
  exact ⟨x,S1,h1,y,S2,h2,_,h3,q⟩
 ·rintro ⟨x,S1,h1,y,S2,h2,S3,h3,q⟩
  refine ⟨l,S3,?_,q⟩
  unfold zje;rw [h1];show (i l S1).bind _=_;rw [h2];show (zg9 x y v S2).bind _=_;rw [h3];rfl
end
theorem zsq {c:TM}{b:SM}(I:Nat->Lo->Sto->Prop) (O:D->Sto->Prop) (Q:Lo->Sto->Prop)
  (step:∀m l S,I m l S->Wt c l S fun k S1=>if k=true then Ws b l S1 fun f l2 S2=>((f=.nx∨f=.ct)/\∃m',m' < m/\I m' l2 S2)∨∃d,f=.rt d/\O d S2 else Q l S1) :
  ∀(fuel m:Nat),m<fuel->∀l S,I m l S->Wr (whl c b fuel l S) fun f l' S'=>(f=.nx/\Q l' S')∨∃d,f=.rt d/\O d S'
 | 0,m,h,_,_,_=>absurd h (Nat.not_lt_zero _)
 | fuel+1,m,h,l,S,hi=>by
  obtain ⟨k,S1,e1,h1⟩:=step m l S hi
  cases k with
  | false=>exact ⟨.nx,l,S1,by unfold whl;rw [e1];rfl,.inl ⟨rfl,h1⟩⟩
  | true =>
   have h1:Ws b l S1 fun f l2 S2=>((f=.nx∨f=.ct)/\∃m',m' < m/\I m' l2 S2)∨∃d,f=.rt d/\O d S2:=h1
   obtain ⟨f,l2,S2,e2,q⟩:=h1
   rcases q with ⟨hf,m',hm,hi2⟩|⟨d,rfl,hd⟩
   ·obtain ⟨f',l',S',e3,q⟩:=zsq I O Q step fuel m' (by omega) l2 S2 hi2
    refine ⟨f',l',S',?_,q⟩
    unfold whl;rw [e1];show (b l S1).bind _=_;rw [e2]
    rcases hf with rfl|rfl <;> exact e3
   ·refine ⟨_,l2,S2,?_,.inr ⟨d,rfl,hd⟩⟩
    unfold whl;rw [e1];show (b l S1).bind _=_;rw [e2];rfl
theorem yfg {c:TM}{b:SM}(I:Nat->Lo->Sto->Prop) (O:D->Sto->Prop) (Q:Lo->Sto->Prop) {l:Lo}{S:Sto}{QS:Fl->Lo->Sto->Prop}(m:Nat) (hm:m<1000000) (h0:I m l S)
  (step:∀m l S,I m l S->Wt c l S fun k S1=>if k=true then Ws b l S1 fun f l2 S2=>((f=.nx∨f=.ct)/\∃m',m' < m/\I m' l2 S2)∨∃d,f=.rt d/\O d S2 else Q l S1)
  (fin:∀l' S',Q l' S'->QS .nx l' S') (out:∀d l' S',O d S'->QS (.rt d) l' S'):Ws (whl c b zkz) l S QS:=by
 refine Wr.mono (zsq I O Q step zkz m hm l S h0) ?_
 rintro f l' S' (⟨rfl,h⟩|⟨d,rfl,h⟩)
 ·exact fin l' S' h
 ·exact out d l' S' h
theorem yfh {m n:SM}{l l':Lo}{S S':Sto}{QS:Fl->Lo->Sto->Prop}(h1:Ws m l S fun f l1 S1=>f=.nx/\l1=l'/\S1=S') (h2:Ws n l' S' QS):Ws (zam m n) l S QS:=by
 rw [zci]
 obtain ⟨f,l1,S1,e,rfl,rfl,rfl⟩:=h1
 exact ⟨_,_,_,e,h2⟩
theorem zny {m n:SM}{l:Lo}{S:Sto}{QS:Fl->Lo->Sto->Prop}(R:Lo->Sto->Prop) (O:D->Sto->Prop) (h1:Ws m l S fun f l1 S1=>(f=.nx/\R l1 S1)∨∃d,f=.rt d/\O d S1) (h2:∀l1 S1,R l1 S1->Ws n l1 S1 QS) (h3:∀d l1 S1,O d S1->QS (.rt d) l1 S1):Ws (zam m n) l S QS:=by
 rw [zci]
 obtain ⟨f,l1,S1,e,q⟩:=h1
 rcases q with ⟨rfl,r⟩|⟨d,rfl,o⟩
 ·exact ⟨_,_,_,e,h2 l1 S1 r⟩
 ·exact ⟨_,_,_,e,h3 d l1 S1 o⟩
theorem Gr.len {A B:Sto}(h:Gr A B):A.length<=B.length:=by obtain ⟨x,rfl⟩:=h;rw [qla];omega
theorem Gr.set {A B:Sto}{r:Nat}(h:Gr A B) (hr:A.length<=r) (o:Ob):Gr A (B.set r o):=by
 obtain ⟨x,rfl⟩:=h
 exact ⟨x.set (r-A.length) o,by rw [List.set_append_right _ _ hr]⟩
theorem zjp {S:Sto}{n:Nat}{o o':Ob}(h:S[n]? = some o):(S++[o'])[n]? = some o:=by
 rw [List.getElem?_append_left (qme h).1];exact h
theorem zhe {S:Sto}{n m:Nat}{o o':Ob}(h:S[m]? = some o) (hn:n≠m):(S.set n o')[m]? = some o:=by rw [List.getElem?_set_ne hn];exact h
theorem zjq {S:Sto}{n:Nat}{xs:List D}{x:D}{Q:D->Sto->Prop}(h:S[n]? = some (.lst xs)) (hz:xs.length<sizeLine):Wo (zdt (.ref n) [x] S) Q=Q .non (S.set n (.lst (xs++[x]))):=by
 rw [zhz,h]
 apply propext
 constructor
 ·rintro ⟨ys,e,_,q⟩;cases e;exact q
 ·exact fun q=>⟨xs,rfl,hz,q⟩
end L3
section
namespace G
open PySem PySem.Spec PyProof.Rows L2 L3
noncomputable abbrev bd:List Stmt:=PySem.Challenge.pw_opencells_k53_whole_bits_run_as_rooms.main.body
noncomputable def zsr:SM:=za9 (zag zjc (zac (zch (zd6 (zac (zaa 0) (zaf))) [none,none] (zcf 2 (zba (zai 0) (zba (zai 1) (zce)))) (zcm) (eOp zdj (zaa 1) (zaa 0))) (zaf)))
noncomputable def zic:FM:=zbo 1 zsr
noncomputable def zss:SM:=za9 (eOp zq6 (eOp zq5 (zaa 0) (zaa 1)) (eC (.int 1)))
noncomputable def zf6:FM:=zbo 2 zss
noncomputable def zst:SM:=za9 (zag zh2 (zac (zag zf6 (zac (zaa 0) (zac (zaa 1) (zaf)))) (zaf)))
noncomputable def zjr:FM:=zbo 2 zst
noncomputable def zsu:SM:=za9 (zag zg5 (zac (zch (zd6 (zac (zaa 0) (zaf))) [none,none,some 1] (zcf 2 (zba (zai 0) (zba (zai 1) (zce)))) (zcm) (zhs (eOp dEq (zaa 1) (eC (.str "-"))) (eOp dEq (zaa 1) (zag zjr (zac (zaa 2) (zac (zaa 0) (zaf))))))) (zaf)))
noncomputable def zhf:FM:=zbo 2 zsu
noncomputable def zsv:SM:=za9 (ziq (tE (zag zi6 (zac (zch (zdn (zaa 0)) [none,some 1] (zai 0) (zcm) (zag zhf (zac (zaa 0) (zac (zaa 1) (zaf))))) (zaf)))) (eC (.int 1)) (eC (.int 0)))
noncomputable def zhg:FM:=zbo 2 zsv
noncomputable def zsw:SM:=zam (zap (zaa 0) (zcf 3 (zba (zai 3) (zba (zai 4) (zba (zai 5) (zce)))))) (zam (zap (eOp za3 (zaa 1) (eOp zdj (zaa 2) (zaa 3))) (zai 6)) (zam (zap (zch (zdn (zaa 5)) [none,some 6] (zai 0) (zcm) (zag zhg (zac (zaa 0) (zac (zaa 1) (zaf))))) (zai 7)) (za9 (zag zbs (zac (zag zic (zac (zb6 (zaa 7) (zb8) (zb3 (zaa 3))) (zaf))) (zac (zag zic (zac (zb6 (zaa 7) (zb3 (zaa 3)) (zb8)) (zaf))) (zaf)))))))
noncomputable def zjs:FM:=zbo 8 zsw
noncomputable def zsx:SM:=zam (zap (zag zcq (zaf)) (zai 3)) (zam (zap (zaa 1) (zai 4)) (zam (zem (zaa 2) (zai 5) (zam (zap (zag zjs (zac (zaa 0) (zac (zaa 4) (zac (zaa 5) (zaf))))) (zcf 2 (zba (zai 4) (zba (zai 6) (zce))))) (zdq (zdi zdt (zaa 3) (zac (zaa 6) zaf))))) (za9 (zag zbs (zac (zaa 3) (zac (zaa 4) (zaf)))))))
noncomputable def zeq:FM:=zbo 7 zsx
noncomputable def zsy:SM:=zam (sIf (tE (eOp dGt (eOp zdk (zaa 0) (eC (.str "left"))) (eC (.int 0)))) (zam (zap (eOp zcr (eOp zdk (zaa 0) (eC (.str "left"))) (zaa 1)) (zai 2)) (zam (zap (eOp zex (eOp zdk (zaa 0) (eC (.str "left"))) (zaa 1)) (zh4 (zaa 0) (eC (.str "left")))) (za9 (zaa 2)))) (zbn)) (zam (zap (eOp zdk (zaa 0) (eC (.str "at"))) (zai 3)) (zam (zap (eOp za3 (zaa 3) (eC (.int 1))) (zh4 (zaa 0) (eC (.str "at")))) (zam (zap (eOp za3 (eOp zeo (eOp zeo (eC (.int 977)) (zaa 3)) (zaa 3)) (eC (.int 31))) (zai 4)) (zam (sIf (tE (eOp dGt (zag zbw (zac (eOp zdk (zaa 0) (eC (.str "cells"))) (zaf))) (eC (.int 0)))) (zam (zap (eOp za4 (eOp zdk (zaa 0) (eC (.str "cells"))) (eOp zcr (zaa 3) (zag zbw (zac (eOp zdk (zaa 0) (eC (.str "cells"))) (zaf))))) (zai 4)) (sIf (zev (tE (eOp dLt (zaa 3) (zag zbw (zac (eOp zdk (zaa 0) (eC (.str "cells"))) (zaf))))) (tE (eOp dGe (zag zgy (zac (zaa 4) (zaf))) (eOp zgi (eC (.int 10)) (eC (.int 18)))))) (zam (zap (eOp zex (zag zgy (zac (zaa 4) (zaf))) (zaa 1)) (zh4 (zaa 0) (eC (.str "left")))) (za9 (eOp zcr (zag zgy (zac (zaa 4) (zaf))) (zaa 1)))) (zbn))) (zbn)) (zam (zap (eOp za4 (zag zbs (zac (eC (.int 2147483647)) (zac (eC (.int 2147483629)) (zac (eC (.int 2147483587)) (zac (eC (.int 2147483579)) (zac (eC (.int 2147483563)) (zac (eC (.int 2147483549)) (zac (eC (.int 2147483543)) (zaf))))))))) (eOp zcr (zaa 3) (eC (.int 7)))) (zai 5)) (zam (zap (eOp zcr (eOp zgi (eOp za3 (eOp za3 (eOp zcr (zaa 4) (eC (.int 2147483497))) (eOp zeo (eC (.int 69621)) (zaa 3))) (eC (.int 7))) (eC (.int 3))) (zaa 5)) (zai 6)) (zam (zap (eOp zcr (eOp zgi (eOp za3 (eOp zeo (zaa 6) (eOp za3 (zaa 3) (eC (.int 3)))) (eC (.int 11))) (eC (.int 5))) (eC (.int 2147483489))) (zai 6)) (za9 (eOp zcr (eOp zex (zaa 6) (eC (.int 13))) (zaa 1))))))))))
noncomputable def zbp:FM:=zbo 7 zsy
noncomputable def zsz:SM:=zam (zap (eOp za4 (zaa 0) (eC (.int 1))) (zai 3)) (zam (zap (zag zcq (zaf)) (zai 4)) (zam (zap (zaa 1) (zai 5)) (zam (zem (zaa 2) (zai 6) (zam (sIf (tE (eOp dIs (zaa 5) (eC .non))) (zp8) (zbn)) (zam (zap (eOp za4 (eOp za4 (zaa 3) (zaa 5)) (zaa 6)) (zcf 2 (zba (zai 5) (zba (zai 7) (zce))))) (zdq (zdi zdt (zaa 4) (zac (zaa 7) zaf)))))) (za9 (zag zbs (zac (zaa 4) (zac (zaa 5) (zaf))))))))
noncomputable def zjt:FM:=zbo 8 zsz
noncomputable def zs0:SM:=zam (zap (zag zjt (zac (zaa 0) (zac (eC (.int 0)) (zac (zaa 3) (zaf))))) (zcf 2 (zba (zai 4) (zba (zai 5) (zce))))) (zam (zap (zag zeq (zac (zaa 2) (zac (eOp za4 (zaa 1) (eC (.int 0))) (zac (zaa 3) (zaf))))) (zcf 2 (zba (zai 6) (zba (zai 7) (zce))))) (zam (sIf (zff (tE (eOp dNe (zag zbw (zac (zaa 4) (zaf))) (zag zbw (zac (zaa 3) (zaf))))) (tE (eOp dNe (zag zbw (zac (zaa 6) (zaf))) (zag zbw (zac (zaa 3) (zaf)))))) (za9 (eC (.bl false))) (zbn)) (zam (zez (zcg (zac (zag zbw (zac (zaa 3) (zaf))) (zaf))) (zai 8) (sIf (zev (tE (eOp zd3 (eOp za4 (zaa 4) (zaa 8)) (eC .non))) (tE (eOp dNe (eOp za4 (zaa 6) (zaa 8)) (eOp za4 (zaa 4) (zaa 8))))) (za9 (eC (.bl false))) (zbn))) (za9 (zhs (eOp dIs (zaa 5) (eC .non)) (eOp dEq (zaa 7) (eOp za4 (zaa 1) (zaa 5))))))))
noncomputable def zhh:FM:=zbo 9 zs0
noncomputable def zs1:SM:=zam (zem (zaa 0) (zai 2) (sIf (tE (eOp dEq (zag zhg (zac (zaa 1) (zac (zaa 2) (zaf)))) (eC (.int 0)))) (za9 (zaa 2)) (zbn))) (za9 (eC .non))
noncomputable def zju:FM:=zbo 3 zs1
noncomputable def zs2:SM:=zam (zap (zag zju (zac (zaa 0) (zac (zaa 2) (zaf)))) (zai 3)) (zam (sIf (tE (eOp zd3 (zaa 3) (eC .non))) (za9 (zag zbs (zac (eC (.str "lacks")) (zac (zaa 3) (zaf))))) (zbn)) (zam (zgj (zd6 (zac (zaa 2) (zaf))) (zcf 2 (zba (zai 4) (zba (zai 5) (zce)))) (zem (zaa 1) (zai 6) (sIf (tE (zag zhf (zac (zaa 5) (zac (zaa 6) (zaf))))) (za9 (zag zbs (zac (eC (.str "has")) (zac (zaa 4) (zac (zaa 6) (zaf)))))) (zbn)))) (za9 (eC .non))))
noncomputable def zjv:FM:=zbo 7 zs2
noncomputable def zs3:SM:=zam (zap (zag zjk (zac (zaa 0) (zaf))) (zai 2)) (zam (zap (zch (zdn (zaa 2)) [none,some 0,some 1] (zai 0) (tE (eOp dEq (zag zf6 (zac (eOp zg8 (zaa 1) (zaa 0)) (zac (zaa 2) (zaf)))) (eC (.int 1)))) (zaa 0)) (zai 3)) (zam (zap (zch (zdn (zaa 2)) [none,some 0,some 1] (zai 0) (tE (eOp dEq (zag zf6 (zac (eOp zg8 (zaa 1) (zaa 0)) (zac (zaa 2) (zaf)))) (eC (.int 0)))) (zaa 0)) (zai 4)) (za9 (zag zbs (zac (zag zds (zac (zaa 3) (zaf))) (zac (zag zds (zac (zaa 4) (zaf))) (zaf)))))))
noncomputable def zhi:FM:=zbo 5 zs3
noncomputable def zs4:SM:=zam (zap (zaa 0) (zcf 2 (zba (zai 1) (zba (zai 2) (zce))))) (zam (sIf (tE (eOp dGt (zag zbw (zac (zaa 2) (zaf))) (eC (.int 8)))) (zmu) (zbn)) (za9 (zag zbs (zac (zag zi0 (zac (eC (.int 1)) (zac (eUn zlf (eOp zgh (zag zbw (zac (zaa 2) (zaf))) (eC (.int 1)))) (zaf)))) (zac (eUn zlf (eOp zgh (zaa 1) (eC (.int 1)))) (zaf))))))
noncomputable def ze8:FM:=zbo 3 zs4
noncomputable def zs5:SM:=za9 (zgs (eUn (zhx "int") (zaa 0)) (zgs (zks (eUn (zhx "bool") (zaa 0))) (zhu dLe dLt (eC (.int 0)) (zaa 0) (zaa 1))))
noncomputable def zid:FM:=zbo 2 zs5
noncomputable def zs6:SM:=zam (sIf (zff (zfs (tE (eUn (zhx "tuple") (zaa 0)))) (tE (eOp dNe (zag zbw (zac (zaa 0) (zaf))) (zaa 1)))) (za9 (eC (.bl false))) (zbn)) (za9 (zgs (zag zg5 (zac (zch (zdn (zaa 0)) [none,some 2] (zai 0) (zcm) (zag zid (zac (zaa 0) (zac (zaa 1) (zaf))))) (zaf))) (eOp dEq (zag zjj (zac (zag zji (zac (zaa 0) (zaf))) zaf)) (zaa 1))))
noncomputable def zjw:FM:=zbo 3 zs6
noncomputable def zs7:SM:=za9 (zag zjw (zac (zaa 1) (zac (zag zbw (zac (eOp za4 (zaa 0) (eC (.int 1))) (zaf))) (zac (eOp zdj (eC (.int 1)) (eOp za4 (zag ze8 (zac (zaa 0) (zaf))) (eC (.int 0)))) (zaf)))))
noncomputable def zjx:FM:=zbo 2 zs7
noncomputable def zs8:SM:=sIf (zfs (tE (zag zjx (zac (zaa 0) (zac (zaa 1) (zaf)))))) (zmu) (zbn)
noncomputable def zhj:FM:=zbo 2 zs8
noncomputable def zs9:SM:=zam (zdq (zag zhj (zac (zaa 0) (zac (zaa 1) (zaf))))) (zam (zap (eOp za4 (zag ze8 (zac (zaa 0) (zaf))) (eC (.int 0))) (zai 2)) (zam (zap (zk2) (zai 3)) (zam (zap (zk2) (zai 4)) (zam (zgj (zle (zac (zaa 1) (zac (eOp za4 (zaa 0) (eC (.int 1))) (zaf)))) (zcf 2 (zba (zai 5) (zba (zai 6) (zce)))) (zgj (zd6 (zac (zaa 6) (zaf))) (zcf 2 (zba (zai 7) (zba (zcf 2 (zba (zai 8) (zba (zai 9) (zce)))) (zce)))) (zam (zap (eOp za3 (zaa 5) (eOp zdj (zaa 7) (zaa 2))) (zai 10)) (zam (sIf (tE (eOp zd3 (zaa 8) (eC .non))) (zap (eOp za4 (zaa 1) (zaa 8)) (zje (zaa 3) (zaa 10))) (zbn)) (sIf (tE (eOp zd3 (zaa 9) (eC .non))) (zap (zaa 9) (zje (zaa 4) (zaa 10))) (zbn)))))) (za9 (eOp za3 (zch (zfj (zcg (zac (zaa 2) (zaf)))) [none,some 3] (zai 0) (zcm) (zag zhi (zac (zaa 1) (zac (zaa 0) (zaf))))) (zch (zfj (zcg (zac (eC (.int 3)) (zaf)))) [none,some 4] (zai 0) (zcm) (zag zhi (zac (zaa 1) (zac (zaa 0) (zaf)))))))))))
noncomputable def zie:FM:=zbo 11 zs9
noncomputable def zta:SM:=zam (zap (zaa 1) (zcf 3 (zba (zai 2) (zba (zai 3) (zba (zai 4) (zce)))))) (zam (sIf (zff (tE (eOp zfz (zag zbs (zac (zaa 2) (zac (zaa 3) (zaf)))) (zaa 0))) (tE (eOp dNe (zag zbw (zac (zaa 4) (zaf))) (eOp za3 (zaa 2) (eC (.int 3)))))) (za9 (eC (.bl false))) (zbn)) (za9 (zag zg5 (zac (zjf (zdn (zaa 4)) [none,none,some 2,some 3] (zai 0) (zcm) (zaa 0) (zai 1) (zcm) (eOp dEq (zag zbw (zac (zaa 1) (zaf))) (eOp za3 (zaa 2) (zaa 3)))) (zaf)))))
noncomputable def zjy:FM:=zbo 5 zta
noncomputable def ztb:SM:=zam (zdq (zag zhj (zac (zaa 0) (zac (zaa 1) (zaf))))) (zam (sIf (zfs (tE (zag zjy (zac (zag ze8 (zac (zaa 0) (zaf))) (zac (zaa 2) (zaf)))))) (za9 (zag zbs (zac (eC (.str "counts")) (zaf)))) (zbn)) (zam (zgj (zd6 (zac (zag zie (zac (zaa 0) (zac (zaa 1) (zaf)))) (zaf))) (zcf 2 (zba (zai 3) (zba (zcf 2 (zba (zai 4) (zba (zai 5) (zce)))) (zce)))) (zam (zap (zag zjv (zac (zaa 4) (zac (zaa 5) (zac (eOp za4 (eOp za4 (zaa 2) (eC (.int 2))) (zaa 3)) (zaf))))) (zai 6)) (sIf (tE (eOp zd3 (zaa 6) (eC .non))) (za9 (zag zbs (zac (zaa 3) (zac (zaa 6) (zaf))))) (zbn)))) (za9 (eC .non))))
noncomputable def zhk:FM:=zbo 7 ztb
noncomputable def ztc:SM:=zam (zap (zag zbp (zac (zaa 0) (zac (eC (.int 4)) (zaf)))) (zai 3)) (zam (zap (zag zbp (zac (zaa 0) (zac (eOp za3 (zag zbw (zac (zaa 2) (zaf))) (eC (.int 1))) (zaf)))) (zai 4)) (zam (zap (zag zbp (zac (zaa 0) (zac (zaa 1) (zaf)))) (zai 5)) (zam (zap (eOp za4 (eC (.str "01-")) (zag zbp (zac (zaa 0) (zac (eC (.int 3)) (zaf))))) (zai 6)) (zam (zap (zh5 zf2 (eC (.str "")) (zac (zch (zfj (zcg (zac (zaa 1) (zaf)))) [none,some 0] (zai 0) (zcm) (eOp za4 (eC (.str "01-")) (zag zbp (zac (zaa 1) (zac (eC (.int 3)) (zaf)))))) zaf)) (zai 7)) (zam (sIf (zff (tE (eOp dEq (zaa 3) (eC (.int 0)))) (tE (eOp dEq (zaa 4) (zag zbw (zac (zaa 2) (zaf)))))) (za9 (zb6 (eOp za3 (eOp za3 (zb6 (zaa 2) (zb8) (zb3 (zaa 4))) (zag zbs (zac (zaa 7) (zaf)))) (zb6 (zaa 2) (zb3 (zaa 4)) (zb8))) (zb8) (zb3 (eC (.int 40))))) (zbn)) (zam (sIf (tE (eOp dEq (zaa 3) (eC (.int 1)))) (za9 (eOp za3 (zb6 (zaa 2) (zb8) (zb3 (zaa 4))) (zb6 (zaa 2) (zb3 (eOp za3 (zaa 4) (eC (.int 1)))) (zb8)))) (zbn)) (zam (zap (eOp za4 (zaa 2) (zaa 4)) (zai 8)) (zam (zap (eOp za3 (eOp za3 (zb6 (zaa 8) (zb8) (zb3 (zaa 5))) (zaa 6)) (zb6 (zaa 8) (zb3 (eOp za3 (zaa 5) (eC (.int 1)))) (zb8))) (zai 9)) (za9 (eOp za3 (eOp za3 (zb6 (zaa 2) (zb8) (zb3 (zaa 4))) (zag zbs (zac (zaa 9) (zaf)))) (zb6 (zaa 2) (zb3 (eOp za3 (zaa 4) (eC (.int 1)))) (zb8))))))))))))
noncomputable def zjz:FM:=zbo 10 ztc
noncomputable def ztd:SM:=zam (zap (zag zbp (zac (zaa 0) (zac (eC (.int 10)) (zaf)))) (zai 2)) (zam (zap (zaa 1) (zcf 3 (zba (zai 3) (zba (zai 4) (zba (zai 5) (zce)))))) (zam (zap (zag zbp (zac (zaa 0) (zac (zag zbw (zac (zaa 5) (zaf))) (zaf)))) (zai 6)) (zam (zap (zag zjz (zac (zaa 0) (zac (eOp za3 (zaa 3) (zaa 4)) (zac (eOp za4 (zaa 5) (zaa 6)) (zaf))))) (zai 7)) (zam (zap (eOp za4 (zag zbs (zac (eOp zhb (eC (.str "-")) (eOp za3 (eOp za3 (zaa 3) (zaa 4)) (eC (.int 1)))) (zac (eOp zhb (eC (.str "0")) (eOp zgh (eOp za3 (zaa 3) (zaa 4)) (eC (.int 1)))) (zac (eC (.str "")) (zac (eOp zhb (eC (.str "1")) (eC (.int 9))) (zaf)))))) (zag zbp (zac (zaa 0) (zac (eC (.int 4)) (zaf))))) (zai 8)) (zam (sIf (tE (eOp dEq (zaa 2) (eC (.int 0)))) (za9 (eOp za4 (zag zcq (zac (zag zbs (zac (eOp za3 (zaa 3) (eC (.int 1))) (zac (zaa 4) (zac (zaa 5) (zaf))))) (zac (zag zbs (zac (eOp zgh (zaa 3) (eC (.int 1))) (zac (zaa 4) (zac (zaa 5) (zaf))))) (zac (zag zbs (zac (zaa 3) (zac (eOp za3 (zaa 4) (eC (.int 1))) (zac (zaa 5) (zaf))))) (zac (zag zbs (zac (zaa 4) (zac (zaa 3) (zac (zaa 5) (zaf))))) (zaf)))))) (zag zbp (zac (zaa 0) (zac (eC (.int 4)) (zaf)))))) (zbn)) (zam (sIf (tE (eOp dEq (zaa 2) (eC (.int 1)))) (za9 (zag zbs (zac (zaa 3) (zac (zaa 4) (zac (eOp za4 (zag zcq (zac (zb6 (zaa 5) (zb3 (eC (.int 1))) (zb8)) (zac (eOp za3 (zaa 5) (zb6 (zaa 5) (zb8) (zb3 (eC (.int 1))))) (zac (zag zbs (zaf)) (zac (zb6 (zaa 5) (zb8) (zb3 (zaa 6))) (zaf)))))) (zag zbp (zac (zaa 0) (zac (eC (.int 4)) (zaf))))) (zaf)))))) (zbn)) (zam (sIf (tE (eOp dEq (zaa 2) (eC (.int 2)))) (zap (eOp za3 (eOp za3 (zb6 (eOp za4 (zaa 5) (zaa 6)) (zb8) (zb3 (eC (.int 1)))) (zag zbs (zac (zaa 8) (zaf)))) (zb6 (eOp za4 (zaa 5) (zaa 6)) (zb3 (eC (.int 1))) (zb8))) (zai 7)) (zbn)) (zam (sIf (tE (eOp dEq (zaa 2) (eC (.int 3)))) (za9 (zag zbs (zac (zaa 3) (zac (zaa 4) (zac (eOp za3 (zb6 (zaa 5) (zb3 (zaa 6)) (zb8)) (zb6 (zaa 5) (zb8) (zb3 (zaa 6)))) (zaf)))))) (zbn)) (za9 (zag zbs (zac (zaa 3) (zac (zaa 4) (zac (eOp za3 (eOp za3 (zb6 (zaa 5) (zb8) (zb3 (zaa 6))) (zag zbs (zac (zaa 7) (zaf)))) (zb6 (zaa 5) (zb3 (eOp za3 (zaa 6) (eC (.int 1)))) (zb8))) (zaf))))))))))))))
noncomputable def zj0:FM:=zbo 9 ztd
noncomputable def zte:SM:=zam (zap (zag zcq (zaf)) (zai 3)) (zam (zap (eC (.int 0)) (zai 4)) (zam (whl (zev (tE (eOp zd3 (zaa 4) (eC .non))) (tE (eOp dLt (zag zbw (zac (zaa 3) (zaf))) (zaa 2)))) (zam (zap (zag zbp (zac (zaa 0) (zac (eOp za4 (zaa 1) (eC (.int 0))) (zaf)))) (zai 5)) (zam (zdq (zdi zdt (zaa 3) (zac (zaa 5) zaf))) (zap (eOp za4 (eOp za4 (eOp za4 (eOp za4 (zaa 1) (eC (.int 1))) (zaa 4)) (zaa 5)) (eC (.int 0))) (zai 4)))) zkz) (za9 (zag zds (zac (zaa 3) (zaf))))))
noncomputable def zif:FM:=zbo 6 zte
noncomputable def ztf:SM:=za9 (zag zbs (zac (eOp za4 (zag zcq (zac (eC (.int 1)) (zac (eC (.int 1)) (zac (eC (.int 2)) (zac (eC (.int 2)) (zac (eC (.int 3)) (zac (eC (.int 3)) (zac (eC (.int 3)) (zac (eC (.int 3)) (zaf)))))))))) (eOp zgh (zag zbw (zac (eOp za4 (zaa 0) (eC (.int 1))) (zaf))) (eC (.int 1)))) (zac (eOp za4 (zag zcq (zac (eC (.int 0)) (zac (eC (.int 1)) (zac (eC (.int 2)) (zac (eC (.int 2)) (zaf)))))) (eOp zgh (eOp za4 (zaa 0) (eC (.int 0))) (eC (.int 1)))) (zaf))))
noncomputable def zf7:FM:=zbo 1 ztf
noncomputable def ztg:SM:=zam (zap (zag zf7 (zac (zaa 0) (zaf))) (zcf 2 (zba (zai 2) (zba (zai 3) (zce))))) (zam (zap (zag zcq (zaf)) (zai 4)) (zam (zez (zcg (zac (eOp za3 (zaa 2) (eC (.int 3))) (zaf))) (zai 5) (zam (zap (zag zcq (zac (zag zcq (zaf)) (zac (zag zcq (zaf)) (zaf)))) (zai 6)) (zam (zez (zcg (zac (eOp zdj (eC (.int 1)) (eOp za3 (zaa 2) (zaa 3))) (zaf))) (zai 7) (zam (zap (eOp zcr (zaa 7) (eOp zdj (eC (.int 1)) (zaa 2))) (zai 8)) (zam (zap (eOp zex (zaa 7) (eOp zdj (eC (.int 1)) (zaa 2))) (zai 9)) (sIf (zev (tE (eOp (dIn false) (zaa 8) (zaa 1))) (tE (eOp dLt (zaa 9) (eOp za4 (zaa 0) (eC (.int 0)))))) (zam (zap (eOp za4 (eOp za4 (eOp za4 (zaa 0) (eC (.int 1))) (zlg zjh (zaa 1) (zac (zaa 8) zaf))) (zaa 9)) (zcf 2 (zba (zai 10) (zba (zai 11) (zce))))) (zam (zap (eOp zgh (zaa 5) (zaa 2)) (zai 12)) (zam (sIf (tE (eOp dLt (zaa 5) (zaa 2))) (zam (zap (zaa 5) (zai 12)) (zam (zap (eC .non) (zai 11)) (sIf (tE (eOp zd3 (zaa 10) (eC .non))) (zap (eOp za4 (zaa 1) (zaa 10)) (zai 11)) (zbn)))) (zbn)) (sIf (tE (eOp zd3 (zaa 11) (eC .non))) (zdq (zdi zdt (eOp za4 (zaa 6) (eOp zcr (eOp zex (zaa 11) (eOp zdj (eC (.int 1)) (zaa 12))) (eC (.int 2)))) (zac (zaa 7) zaf))) (zbn))))) (zbn))))) (zdq (zdi zdt (zaa 4) (zac (zag zbs (zac (zag zds (zac (eOp za4 (zaa 6) (eC (.int 1))) (zaf))) (zac (zag zds (zac (eOp za4 (zaa 6) (eC (.int 0))) (zaf))) (zaf)))) zaf)))))) (za9 (zaa 4))))
noncomputable def zig:FM:=zbo 13 ztg
noncomputable def zth:SM:=zam (zgj (zd6 (zac (zaa 0) (zaf))) (zcf 2 (zba (zai 2) (zba (zai 3) (zce)))) (sIf (zev (tE (eOp dNe (zaa 3) (eC (.str "-")))) (tE (eOp dNe (zag zg6 (zac (zaa 3) (zaf))) (eOp zcr (eOp zex (zaa 1) (eOp zdj (eC (.int 1)) (zaa 2))) (eC (.int 2)))))) (za9 (eC (.bl false))) (zbn))) (za9 (eC (.bl true)))
noncomputable def zj1:FM:=zbo 4 zth
noncomputable def zti:SM:=zam (zap (zh5 zf2 (eC (.str "")) (zac (zch (zfj (zcg (zac (zaa 1) (zaf)))) [none,some 3] (zai 0) (zcm) (zag zh2 (zac (eOp zcr (eOp zex (zaa 1) (eOp zdj (eC (.int 1)) (zaa 0))) (eC (.int 2))) (zaf)))) zaf)) (zai 4)) (zam (zez (zcg (zac (zag zbp (zac (zaa 0) (zac (eOp za3 (zaa 1) (eC (.int 1))) (zaf)))) (zaf))) (zai 5) (zam (zap (zag zbp (zac (zaa 0) (zac (zaa 1) (zaf)))) (zai 6)) (zam (zap (eOp za3 (eOp za3 (zb6 (zaa 4) (zb8) (zb3 (zaa 6))) (eC (.str "-"))) (zb6 (zaa 4) (zb3 (eOp za3 (zaa 6) (eC (.int 1)))) (zb8))) (zai 7)) (sIf (tE (eOp zja (zch (zdn (zaa 2)) [none,some 7] (zai 0) (tE (zag zj1 (zac (zaa 1) (zac (zaa 0) (zaf))))) (zaa 0)) (zag zcq (zaf)))) (zap (zaa 7) (zai 4)) (zbn))))) (za9 (zaa 4)))
noncomputable def zj2:FM:=zbo 8 zti
noncomputable def ztj:SM:=zam (zap (zag zcq (zaf)) (zai 4)) (zam (zem (zaa 2) (zai 5) (zam (zdq (zdi zg7 (zaa 4) (zac (zag zbp (zac (zaa 0) (zac (eOp za3 (zag zbw (zac (zaa 4) (zaf))) (eC (.int 1))) (zaf)))) (zac (zag zj2 (zac (zaa 0) (zac (zaa 1) (zac (zaa 3) (zac (zaa 5) (zaf)))))) zaf)))) (sIf (zev (tE (eOp dEq (zag zbp (zac (zaa 0) (zac (eC (.int 8)) (zaf)))) (eC (.int 7)))) (tE (eOp dLt (zag zbw (zac (zaa 4) (zaf))) (eC (.int 12))))) (zdq (zdi zdt (zaa 4) (zac (eOp za4 (zaa 4) (zag zbp (zac (zaa 0) (zac (zag zbw (zac (zaa 4) (zaf))) (zaf))))) zaf))) (zbn)))) (za9 (zag zds (zac (zaa 4) (zaf)))))
noncomputable def zj3:FM:=zbo 6 ztj
noncomputable def ztk:SM:=zam (zap (zag zf7 (zac (zaa 1) (zaf))) (zcf 2 (zba (zai 3) (zba (zai 4) (zce))))) (za9 (zag zbs (zac (zaa 3) (zac (zaa 4) (zac (zag zds (zac (zch (zdn (zag zig (zac (zaa 1) (zac (zaa 2) (zaf))))) [none,none,some 0,some 3,some 4] (zcf 2 (zba (zai 0) (zba (zai 1) (zce)))) (zcm) (zag zj3 (zac (zaa 2) (zac (eOp za3 (zaa 3) (zaa 4)) (zac (zaa 0) (zac (zaa 1) (zaf))))))) (zaf))) (zaf))))))
noncomputable def zj4:FM:=zbo 5 ztk
noncomputable def ztl:SM:=zam (zap (zm8 (zcg (zac (eOp zdj (eC (.int 1)) (zaa 2)) (zaf)))) (zai 3)) (za9 (zag zds (zac (zch (zfj (zcg (zac (zaa 1) (zaf)))) [none,some 3,some 0] (zai 0) (zcm) (zdi zg4 (zaa 1) (zac (zag zbp (zac (zaa 2) (zac (zag zbw (zac (zaa 1) (zaf))) (zaf)))) zaf))) (zaf))))
noncomputable def zj5:FM:=zbo 4 ztl
noncomputable def ztm:SM:=zam (zap (eOp za4 (zag zcq (zac (eC (.int 0)) (zac (eC (.int 1)) (zac (eC (.int 4)) (zac (eC (.int 7)) (zaf)))))) (zag zbp (zac (zaa 0) (zac (eC (.int 4)) (zaf))))) (zai 3)) (zam (zap (eOp za4 (zag zcq (zac (eC (.int 2)) (zac (eC (.int 3)) (zac (eC (.int 8)) (zac (eC (.int 8)) (zaf)))))) (zag zbp (zac (zaa 0) (zac (eC (.int 4)) (zaf))))) (zai 4)) (zam (zap (zag zcq (zaf)) (zai 5)) (zam (zez (zcg (zac (zaa 1) (zaf))) (zai 6) (zam (zap (zag zcq (zaf)) (zai 7)) (zam (zez (zcg (zac (zaa 2) (zaf))) (zai 8) (zam (zap (zag zbp (zac (zaa 0) (zac (zaa 1) (zaf)))) (zai 9)) (zam (zap (zag zbp (zac (zaa 0) (zac (zaa 4) (zaf)))) (zai 10)) (zam (sIf (tE (eOp dLt (zag zbp (zac (zaa 0) (zac (eC (.int 8)) (zaf)))) (zaa 3))) (zap (eC .non) (zai 9)) (zbn)) (zam (sIf (tE (eOp dLt (zag zbp (zac (zaa 0) (zac (eC (.int 8)) (zaf)))) (zaa 3))) (zap (eC .non) (zai 10)) (zbn)) (zdq (zdi zdt (zaa 7) (zac (zag zbs (zac (zaa 9) (zac (zaa 10) (zaf)))) zaf)))))))) (zdq (zdi zdt (zaa 5) (zac (zag zds (zac (zaa 7) (zaf))) zaf)))))) (za9 (zag zbs (zac (zaa 2) (zac (zag zds (zac (zaa 5) (zaf))) (zaf))))))))
noncomputable def zj6:FM:=zbo 11 ztm
noncomputable def ztn:SM:=za9 (znj "cells" 0 "at" 0 "left" 0)
noncomputable def zj7:FM:=zbo 1 ztn
noncomputable def zto:SM:=zam (zap (zag zj7 (zac (zaa 0) (zaf))) (zai 1)) (zam (zap (eOp za4 (zag zcq (zac (eC (.int 1)) (zac (eC (.int 2)) (zac (eC (.int 3)) (zac (eC (.int 4)) (zac (eC (.int 5)) (zac (eC (.int 8)) (zac (eC (.int 3)) (zac (eC (.int 4)) (zaf)))))))))) (zag zbp (zac (zaa 1) (zac (eC (.int 8)) (zaf))))) (zai 2)) (zam (zap (zag zj6 (zac (zaa 1) (zac (zaa 2) (zac (eOp za4 (zag zcq (zac (eC (.int 1)) (zac (eC (.int 2)) (zac (eC (.int 2)) (zac (eC (.int 3)) (zac (eC (.int 4)) (zaf))))))) (zag zbp (zac (zaa 1) (zac (eC (.int 5)) (zaf))))) (zaf))))) (zai 3)) (zam (zap (zag zf7 (zac (zaa 3) (zaf))) (zcf 2 (zba (zai 4) (zba (zai 5) (zce))))) (zam (zap (zag zj5 (zac (zaa 1) (zac (zaa 2) (zac (zaa 4) (zaf))))) (zai 6)) (zam (zap (zag zj4 (zac (zaa 1) (zac (zaa 3) (zac (zaa 6) (zaf))))) (zai 7)) (zam (zap (zch (zdn (zag zcq (zac (eC (.int 0)) (zac (eC (.int 1)) (zac (eC (.int 3)) (zac (eC (.int 8)) (zac (eC (.int 16)) (zaf)))))))) [none,some 1,some 3] (zai 0) (zcm) (zag zif (zac (zaa 1) (zac (zaa 2) (zac (zaa 0) (zaf)))))) (zai 8)) (zam (zap (zag zif (zac (zaa 1) (zac (zaa 3) (zac (eC (.int 60)) (zaf))))) (zai 9)) (zam (sIf (zff (tE (eOp zd3 (zag zhk (zac (zaa 3) (zac (zaa 6) (zac (zaa 7) (zaf))))) (eC .non))) (zfs (tE (zag zhh (zac (zaa 3) (zac (zaa 6) (zac (zaa 7) (zac (zaa 9) (zaf))))))))) (za9 (eC (.bl false))) (zbn)) (zam (zap (zag zcq (zac (zaa 7) (zaf))) (zai 10)) (zam (zez (zcg (zac (eC (.int 3)) (zaf))) (zai 11) (zam (zap (zag zj0 (zac (zaa 1) (zac (zaa 7) (zaf)))) (zai 12)) (sIf (tE (eOp dIs (zag zhk (zac (zaa 3) (zac (zaa 6) (zac (zaa 12) (zaf))))) (eC .non))) (zdq (zdi zdt (zaa 10) (zac (zaa 12) zaf))) (zbn)))) (zam (zem (zaa 10) (zai 13) (zem (zaa 8) (zai 14) (zam (sIf (zfs (tE (zag zhh (zac (zaa 3) (zac (zaa 6) (zac (zaa 13) (zac (zaa 14) (zaf)))))))) (za9 (eC (.bl false))) (zbn)) (zam (zap (zag zbp (zac (zaa 1) (zac (eOp za3 (zag zbw (zac (zaa 14) (zaf))) (eC (.int 1))) (zaf)))) (zai 15)) (zam (zap (zag zeq (zac (zaa 13) (zac (eOp za4 (zaa 6) (eC (.int 0))) (zac (zb6 (zaa 14) (zb8) (zb3 (zaa 15))) (zaf))))) (zcf 2 (zba (zai 16) (zba (zai 17) (zce))))) (zam (zap (zag zeq (zac (zaa 13) (zac (zaa 17) (zac (zb6 (zaa 14) (zb3 (zaa 15)) (zb8)) (zaf))))) (zcf 2 (zba (zai 18) (zba (zai 17) (zce))))) (sIf (tE (eOp zfz (zag zeq (zac (zaa 13) (zac (eOp za4 (zaa 6) (eC (.int 0))) (zac (zaa 14) (zaf))))) (zag zbs (zac (eOp za3 (zaa 16) (zaa 18)) (zac (zaa 17) (zaf)))))) (za9 (eC (.bl false))) (zbn)))))))) (za9 (eC (.bl true))))))))))))))
noncomputable def zgn:FM:=zbo 19 zto
theorem bl0 {C:List PySem.Value->Prop}(h:C []):∀us:List PySem.Value,us.length=0->C us:=by
 intro us hl
 rw [List.eq_nil_of_length_eq_zero hl];exact h
theorem blS {n:Nat}{C:List PySem.Value->Prop}(h:∀a (us:List PySem.Value),us.length=n->C (a :: us)):∀us:List PySem.Value,us.length=n+1->C us:=by
 intro us hl
 cases us with
 | nil=>cases hl
 | cons a us=>exact h a us (Nat.succ.inj hl)
theorem bl1 {C:List PySem.Value->Prop}(h:∀a0,C [a0]):∀us:List PySem.Value,us.length=1->C us:=blS fun a0=>bl0 (C:=fun us=>C (a0 :: us)) (h a0)
theorem bl2 {C:List PySem.Value->Prop}(h:∀a0 a1,C [a0,a1]):∀us:List PySem.Value,us.length=2->C us:=blS fun a0=>blS fun a1=>bl0 (C:=fun us=>C (a0 :: a1 :: us)) (h a0 a1)
theorem bl3 {C:List PySem.Value->Prop}(h:∀a0 a1 a2,C [a0,a1,a2]):∀us:List PySem.Value,us.length=3->C us:=blS fun a0=>blS fun a1=>blS fun a2=>bl0 (C:=fun us=>C (a0 :: a1 :: a2 :: us)) (h a0 a1 a2)
theorem bl4 {C:List PySem.Value->Prop}(h:∀a0 a1 a2 a3,C [a0,a1,a2,a3]):∀us:List PySem.Value,us.length=4->C us:=blS fun a0=>blS fun a1=>blS fun a2=>blS fun a3=>bl0 (C:=fun us=>C (a0 :: a1 :: a2 :: a3 :: us)) (h a0 a1 a2 a3)
inductive FI (K:QFg) (x:Str) (st:Stmt):Prop
 | mk {f:Addr} {oc kV dc pm cd ct:Value} {od an:Option Addr} {sl:Array (Option Value)} (a:PySem.W.nsIn K mainGlobals x=some (some (.ref f))) (l:K.lookup f=some ⟨oc,od,.func (PySem.W.fnOf x x (zhr st) (zfr st) (za6 st) .none kV dc pm an cd ct),sl⟩) (c:PySem.W.codeIn K cd x=true) (k:PySem.W.keepIn K (.ref f)=true)
inductive FJ (K:QFg) (mg:Str->Option Value) (x:Str) (st:Stmt):Prop
 | mk {f:Addr} {fd:FuncData} (F:Fun K x x st f fd) (m:mg x=some (.ref f)) (n:Fnc K mg x)
theorem FI.ok {K:QFg}{x:Str}{st:Stmt}{h:Heap}{mg:Str->Option Value}(i:FI K x st) (X:K.In h) (G:h.Ns mainGlobals mg):FJ K mg x st:=by
 obtain ⟨a,l,c,k⟩:=i
 exact ⟨zzj l c k,PySem.W.mg_of X G a,_,_,a,l,PySem.W.mg_of X G a⟩
theorem FJ.n {K:QFg}{x:Str}{st:Stmt}{mg:Str->Option Value}(i:FJ K mg x st):Fnc K mg x:=by
 obtain ⟨_,_,n⟩:=i
 exact n
section
variable {P:Program}{w:World}{K:QFg}{mg:Str->Option Value}{base:Heap}{CA:Str->Addr}
theorem zb0 {x:Str}{st:Stmt}{N ps:List Str}{n k:Nat}{b:SM}(F:FJ K mg x st) (S:FnScope N ps (za6 st)) (hn:ps.length=n)
  (hb:∀us:List Value,us.length=ps.length->∀(kV doc pm:Value) (an:Option Addr) (cdv ct:Value),bindArgs (PySem.W.fnOf x x (zhr st) (zfr st) (za6 st) .none kV doc pm an cdv ct) ⟨us,[]⟩=pure (ps.zip us))
  (hbody:∀(f:Addr) (cdv:Value),PySem.W.codeIn K cdv x=true->∀(A:Around) (outer:List Env) (s:Shared) (H:Hp) (E:XK),Room k (A.deeper (envOfC x (za6 st) s.heap.objs.size f cdv)) ->
   zd2 (zgc CX0 P w K mg base N x (za6 st) f cdv A outer s H E).nox (zfr st) b):Has P w K mg base x (k+1) n (zbo N.length b):=by
 obtain ⟨F,m,_⟩:=F
 exact yaz F m S hn (F.binds fun _ _ _ _ _ _ us hl=>hb us hl _ _ _ _ _ _) (hbody _)
theorem yfi:FnScope ["bits"] ["bits"] (za6 (top bd 27)):=⟨rfl,rfl,rfl,by decide +kernel,rfl,by decide +kernel,by decide +kernel⟩
theorem ztp:List.Nodup (["k","bit"]:List Str):=by decide +kernel
noncomputable abbrev yfj:List Str:=["bits"]
theorem h_m_number_of (F:FJ K mg "number_of" (top bd 27)) (z_sum:mg "sum" = none) (z_enumerate:mg "enumerate" = none):Has P w K mg base "number_of" 1 1 zic:=by
 have sc:=yfi
 refine zb0 (k:=0) F sc rfl (bl1 fun _=>fun _ _ _ _ _ _=>rfl) fun f cdv hcd A outer s H E hr=>?_
 exact zaw (zbc (yc3 rfl rfl z_sum (zad (zrg (N':=["k","bit"]) (ixs:=[none,none]) rfl (zdo (scO:=za6 (top bd 27)) (NO:=yfj) rfl rfl (by decide +kernel)) (zh6 rfl z_enumerate (zad (zab 0) (zah))) (fun _ _ _ _ _=>zcv rfl (zbd (zaz 0 ztp) (zbd (zaz 1 ztp) (zcu)))) (fun _ _ _ _ _=>zdw) (fun _ _ _ _ _=>ze5 (zab 1) (zab 0))) (zah))))
theorem yfk:FnScope ["number","k"] ["number","k"] (za6 (top bd 2)):=⟨rfl,rfl,rfl,by decide +kernel,rfl,by decide +kernel,by decide +kernel⟩
theorem h_m_bit_of (F:FJ K mg "bit_of" (top bd 2)):Has P w K mg base "bit_of" 1 2 zf6:=by
 have sc:=yfk
 refine zb0 (k:=0) F sc rfl (bl2 fun _ _=>fun _ _ _ _ _ _=>rfl) fun f cdv hcd A outer s H E hr=>?_
 exact zaw (zbc (ycd (ycc (zab 0) (zab 1)) (zak)))
theorem yfl:FnScope ["point","k"] ["point","k"] (za6 (top bd 3)):=⟨rfl,rfl,rfl,by decide +kernel,rfl,by decide +kernel,by decide +kernel⟩
theorem h_m_bit_sign (F:FJ K mg "bit_sign" (top bd 3)) (z_str:mg "str" = none) (h_m_bit_of:Has P w K mg base "bit_of" 1 2 zf6):Has P w K mg base "bit_sign" 2 2 zjr:=by
 have sc:=yfl
 refine zb0 (k:=1) F sc rfl (bl2 fun _ _=>fun _ _ _ _ _ _=>rfl) fun f cdv hcd A outer s H E hr=>?_
 exact zaw (zbc (zq7 rfl z_str (zad (za1 h_m_bit_of hr (by decide) rfl (zad (zab 0) (zad (zab 1) (zah))) (zaj (zaj za0))) (zah))))
theorem yfm:FnScope ["piece","point"] ["piece","point"] (za6 (top bd 1)):=⟨rfl,rfl,rfl,by decide +kernel,rfl,by decide +kernel,by decide +kernel⟩
theorem ztq:List.Nodup (["k","sign","point"]:List Str):=by decide +kernel
noncomputable abbrev yfn:List Str:=["piece","point"]
theorem h_m_has (F:FJ K mg "has" (top bd 1)) (z_all:mg "all" = none) (z_enumerate:mg "enumerate" = none) (h_m_bit_sign:Has P w K mg base "bit_sign" 2 2 zjr):Has P w K mg base "has" 3 2 zhf:=by
 have sc:=yfm
 refine zb0 (k:=2) F sc rfl (bl2 fun _ _=>fun _ _ _ _ _ _=>rfl) fun f cdv hcd A outer s H E hr=>?_
 exact zaw (zbc (zna rfl rfl z_all (zad (zrg (N':=["k","sign","point"]) (ixs:=[none,none,some 1]) rfl (zdo (scO:=za6 (top bd 1)) (NO:=yfn) rfl rfl (by decide +kernel)) (zh6 rfl z_enumerate (zad (zab 0) (zah))) (fun _ _ _ _ _=>zcv rfl (zbd (zaz 0 ztq) (zbd (zaz 1 ztq) (zcu)))) (fun _ _ _ _ _=>zdw) (fun _ _ _ _ _=>zpv (ziy (zab 1) (zco)) (zkt (ziy (zab 1) (za1 h_m_bit_sign hr (by decide) rfl (zad (zab 2) (zad (zab 0) (zah))) (zaj (zaj za0))))))) (zah))))
theorem yfo:FnScope ["net","point"] ["net","point"] (za6 (top bd 9)):=⟨rfl,rfl,rfl,by decide +kernel,rfl,by decide +kernel,by decide +kernel⟩
theorem yfp:List.Nodup (["piece","point"]:List Str):=by decide +kernel
noncomputable abbrev yfq:List Str:=["net","point"]
theorem h_m_says (F:FJ K mg "says" (top bd 9)) (z_any:mg "any" = none) (h_m_has:Has P w K mg base "has" 3 2 zhf):Has P w K mg base "says" 4 2 zhg:=by
 have sc:=yfo
 refine zb0 (k:=3) F sc rfl (bl2 fun _ _=>fun _ _ _ _ _ _=>rfl) fun f cdv hcd A outer s H E hr=>?_
 exact zaw (zbc (zz0 (zgf (yby rfl rfl z_any (zad (zfx (N':=["piece","point"]) (ixs:=[none,some 1]) rfl (zdo (scO:=za6 (top bd 9)) (NO:=yfq) rfl rfl (by decide +kernel)) (zfw (zab 0)) (fun _ _ _ _ _=>zaz 0 yfp) (fun _ _ _ _ _=>zdw) (fun _ _ _ _ _=>za1 h_m_has hr (by decide) rfl (zad (zab 0) (zad (zab 1) (zah))) (zaj (zaj za0)))) (zah)))) (zak) (zak)))
theorem yfr:FnScope ["bits","word","ask","b","c","nets","point","said"] ["bits","word","ask"] (za6 (top bd 26)):=⟨rfl,rfl,rfl,by decide +kernel,rfl,by decide +kernel,by decide +kernel⟩
theorem yfs:List.Nodup (["net","point"]:List Str):=by decide +kernel
noncomputable abbrev yft:List Str:=["bits","word","ask","b","c","nets","point","said"]
theorem h_m_step (F:FJ K mg "step" (top bd 26)) (h_m_number_of:Has P w K mg base "number_of" 1 1 zic) (h_m_says:Has P w K mg base "says" 4 2 zhg):Has P w K mg base "step" 5 3 zjs:=by
 have sc:=yfr
 refine zb0 (k:=4) F sc rfl (bl3 fun _ _ _=>fun _ _ _ _ _ _=>rfl) fun f cdv hcd A outer s H E hr=>?_
 exact zao (zdu (zab 0) (zcv rfl (zbd (zaz 3 sc.nd) (zbd (zaz 4 sc.nd) (zbd (zaz 5 sc.nd) (zcu)))))) (zao (za5 6 sc.nd (zbi (zab 1) (ze5 (zab 2) (zab 3)))) (zao (zkv 7 sc.nd (N':=["net","point"]) (ixs:=[none,some 6]) rfl (zdo (scO:=za6 (top bd 26)) (NO:=yft) rfl rfl (by decide +kernel)) (zfw (zab 5)) (fun _ _ _ _ _=>zaz 0 yfs) (fun _ _ _ _ _=>zdw) (fun _ _ _ _ _=>za1 h_m_says hr (by decide) rfl (zad (zab 0) (zad (zab 1) (zah))) (zaj (zaj za0)))) (zaw (zbc (zca (zad (za1 h_m_number_of hr (by decide) rfl (zad (zcx (zab 7) (zcs) (zct (zab 3))) (zah)) (zaj za0)) (zad (za1 h_m_number_of hr (by decide) rfl (zad (zcx (zab 7) (zct (zab 3)) (zcs)) (zah)) (zaj za0)) (zah))))))))
theorem yfu:FnScope ["bits","word","row","answers","here","ask","answer"] ["bits","word","row"] (za6 (top bd 28)):=⟨rfl,rfl,rfl,by decide +kernel,rfl,by decide +kernel,by decide +kernel⟩
theorem h_m_bit_run (F:FJ K mg "bit_run" (top bd 28)) (h_m_step:Has P w K mg base "step" 5 3 zjs):Has P w K mg base "bit_run" 6 3 zeq:=by
 have sc:=yfu
 refine zb0 (k:=5) F sc rfl (bl3 fun _ _ _=>fun _ _ _ _ _ _=>rfl) fun f cdv hcd A outer s H E hr=>?_
 exact zao (za5 3 sc.nd (zc4 (zah))) (zao (za5 4 sc.nd (zab 1)) (zao (zgz PassesOwn.never rfl (zab 2) (zaz 5 sc.nd) (zao (zdu (za1 h_m_step hr (by decide) rfl (zad (zab 0) (zad (zab 4) (zad (zab 5) (zah)))) (zaj (zaj (zaj za0)))) (zcv rfl (zbd (zaz 4 sc.nd) (zbd (zaz 6 sc.nd) (zcu))))) (zaw (zej (zfu (zab 3) (zab 6)))))) (zaw (zbc (zca (zad (zab 3) (zad (zab 4) (zah))))))))
theorem yfv:FnScope ["_law_pen_here","_law_many","_law_digit","_law_at","_law_cell","_law_prime","_law_number"] ["_law_pen_here","_law_many"] (za6 (top bd 33)):=⟨rfl,rfl,rfl,by decide +kernel,rfl,by decide +kernel,by decide +kernel⟩
theorem h_m_law_take (F:FJ K mg "_law_take" (top bd 33)) (z_len:mg "len" = none) (z_abs:mg "abs" = none):Has P w K mg base "_law_take" 1 2 zbp:=by
 have sc:=yfv
 refine zb0 (k:=0) F sc rfl (bl2 fun _ _=>fun _ _ _ _ _ _=>rfl) fun f cdv hcd A outer s H E hr=>?_
 exact zao (zbv (zmo (zgk hr (zab 0) (zco)) (zak)) (zao (za5 2 sc.nd (zei (zgk hr (zab 0) (zco)) (zab 1))) (zao (zni hr (zab 0) (zco) (zgv (zgk hr (zab 0) (zco)) (zab 1))) (zaw (zbc (zab 2))))) (zbu)) (zao (za5 3 sc.nd (zgk hr (zab 0) (zco))) (zao (zni hr (zab 0) (zco) (zbi (zab 3) (zak))) (zao (za5 4 sc.nd (zbi (zky (zky (zak) (zab 3)) (zab 3)) (zak))) (zao (zbv (zmo (zcw rfl z_len (zad (zgk hr (zab 0) (zco)) (zah))) (zak)) (zao (za5 4 sc.nd (zbf (zgk hr (zab 0) (zco)) (zei (zab 3) (zcw rfl z_len (zad (zgk hr (zab 0) (zco)) (zah)))))) (zaw (zbv (zew (zhw (zgw (zab 3) (zcw rfl z_len (zad (zgk hr (zab 0) (zco)) (zah)))) (zhv (zz1 (zm2 rfl z_abs (zad (zab 4) (zah))) (zmn (zak) (zak)))))) (zao (zni hr (zab 0) (zco) (zgv (zm2 rfl z_abs (zad (zab 4) (zah))) (zab 1))) (zaw (zbc (zei (zm2 rfl z_abs (zad (zab 4) (zah))) (zab 1))))) (zbu)))) (zbu)) (zao (za5 5 sc.nd (zbf (zca (zad (zak) (zad (zak) (zad (zak) (zad (zak) (zad (zak) (zad (zak) (zad (zak) (zah))))))))) (zei (zab 3) (zak)))) (zao (za5 6 sc.nd (zei (zmn (zbi (zbi (zei (zab 4) (zak)) (zky (zak) (zab 3))) (zak)) (zak)) (zab 5))) (zao (za5 6 sc.nd (zei (zmn (zbi (zky (zab 6) (zbi (zab 3) (zak))) (zak)) (zak)) (zak))) (zaw (zbc (zei (zgv (zab 6) (zak)) (zab 1)))))))))))
theorem yfw:FnScope ["machine","room","row","rooms","answers","here","ask","says"] ["machine","room","row"] (za6 (top bd 30)):=⟨rfl,rfl,rfl,by decide +kernel,rfl,by decide +kernel,by decide +kernel⟩
theorem h_m_run (F:FJ K mg "run" (top bd 30)):Has P w K mg base "run" 1 3 zjt:=by
 have sc:=yfw
 refine zb0 (k:=0) F sc rfl (bl3 fun _ _ _=>fun _ _ _ _ _ _=>rfl) fun f cdv hcd A outer s H E hr=>?_
 exact zao (za5 3 sc.nd (zbf (zab 0) (zak))) (zao (za5 4 sc.nd (zc4 (zah))) (zao (za5 5 sc.nd (zab 1)) (zao (zgz PassesOwn.never rfl (zab 2) (zaz 6 sc.nd) (zao (zbv (zp6 (zab 5) (zdd)) (zaw (yak)) (zbu)) (zao (zdu (zbf (zbf (zab 3) (zab 5)) (zab 6)) (zcv rfl (zbd (zaz 5 sc.nd) (zbd (zaz 7 sc.nd) (zcu))))) (zaw (zej (zfu (zab 4) (zab 7))))))) (zaw (zbc (zca (zad (zab 4) (zad (zab 5) (zah)))))))))
theorem yfx:FnScope ["_law_machine_here","_law_words_here","_law_bits_here","_law_row_here","_law_answers","_law_room","_law_heard","_law_word","_law_k"] ["_law_machine_here","_law_words_here","_law_bits_here","_law_row_here"] (za6 (top bd 45)):=⟨rfl,rfl,rfl,by decide +kernel,rfl,by decide +kernel,by decide +kernel⟩
theorem h_m_law_runs (F:FJ K mg "_law_runs" (top bd 45)) (z_range:mg "range" = none) (z_len:mg "len" = none) (h_m_bit_run:Has P w K mg base "bit_run" 6 3 zeq) (h_m_run:Has P w K mg base "run" 1 3 zjt):Has P w K mg base "_law_runs" 7 4 zhh:=by
 have sc:=yfx
 refine zb0 (k:=6) F sc rfl (bl4 fun _ _ _ _=>fun _ _ _ _ _ _=>rfl) fun f cdv hcd A outer s H E hr=>?_
 exact zao (zdu (za1 h_m_run hr (by decide) rfl (zad (zab 0) (zad (zak) (zad (zab 3) (zah)))) (zaj (zaj (zaj za0)))) (zcv rfl (zbd (zaz 4 sc.nd) (zbd (zaz 5 sc.nd) (zcu))))) (zao (zdu (za1 h_m_bit_run hr (by decide) rfl (zad (zab 2) (zad (zbf (zab 1) (zak)) (zad (zab 3) (zah)))) (zaj (zaj (zaj za0)))) (zcv rfl (zbd (zaz 6 sc.nd) (zbd (zaz 7 sc.nd) (zcu))))) (zao (zbv (zew (zit (zgx (zcw rfl z_len (zad (zab 4) (zah))) (zcw rfl z_len (zad (zab 3) (zah)))) (zis (zgx (zcw rfl z_len (zad (zab 6) (zah))) (zcw rfl z_len (zad (zab 3) (zah))))))) (zaw (zbc (zfg))) (zbu)) (zao (zg0 PassesOwn.never rfl rfl z_range (zad (zcw rfl z_len (zad (zab 3) (zah))) (zah)) (zaz 8 sc.nd) (zaw (zbv (zew (zhw (zft (zbf (zab 4) (zab 8)) (zdd)) (zhv (zgx (zbf (zab 6) (zab 8)) (zbf (zab 4) (zab 8)))))) (zaw (zbc (zfg))) (zbu)))) (zaw (zbc (zpv (zz4 (zab 5) (zdd)) (zkt (ziy (zab 7) (zbf (zab 1) (zab 5))))))))))
theorem yfy:FnScope ["on","net","point"] ["on","net"] (za6 (top bd 10)):=⟨rfl,rfl,rfl,by decide +kernel,rfl,by decide +kernel,by decide +kernel⟩
theorem h_m_first_lacked (F:FJ K mg "first_lacked" (top bd 10)) (h_m_says:Has P w K mg base "says" 4 2 zhg):Has P w K mg base "first_lacked" 5 2 zju:=by
 have sc:=yfy
 refine zb0 (k:=4) F sc rfl (bl2 fun _ _=>fun _ _ _ _ _ _=>rfl) fun f cdv hcd A outer s H E hr=>?_
 exact zao (zgz PassesOwn.never rfl (zab 0) (zaz 2 sc.nd) (zaw (zbv (zey (za1 h_m_says hr (by decide) rfl (zad (zab 1) (zad (zab 2) (zah))) (zaj (zaj za0))) (zak)) (zaw (zbc (zab 2))) (zbu)))) (zaw (zbc (zdd)))
theorem yfz:FnScope ["on","off","net","lacked","k","piece","point"] ["on","off","net"] (za6 (top bd 11)):=⟨rfl,rfl,rfl,by decide +kernel,rfl,by decide +kernel,by decide +kernel⟩
theorem h_m_net_fault (F:FJ K mg "net_fault" (top bd 11)) (z_enumerate:mg "enumerate" = none) (h_m_has:Has P w K mg base "has" 3 2 zhf) (h_m_first_lacked:Has P w K mg base "first_lacked" 5 2 zju):Has P w K mg base "net_fault" 6 3 zjv:=by
 have sc:=yfz
 refine zb0 (k:=5) F sc rfl (bl3 fun _ _ _=>fun _ _ _ _ _ _=>rfl) fun f cdv hcd A outer s H E hr=>?_
 exact zao (za5 3 sc.nd (za1 h_m_first_lacked hr (by decide) rfl (zad (zab 0) (zad (zab 2) (zah))) (zaj (zaj za0)))) (zao (zbv (zft (zab 3) (zdd)) (zaw (zbc (zca (zad (zco) (zad (zab 3) (zah)))))) (zbu)) (zao (zi9 PassesOwn.never rfl (zh6 rfl z_enumerate (zad (zab 2) (zah))) (zcv rfl (zbd (zaz 4 sc.nd) (zbd (zaz 5 sc.nd) (zcu)))) (zaw (zgz PassesOwn.never rfl (zab 1) (zaz 6 sc.nd) (zaw (zbv (zgf (za1 h_m_has hr (by decide) rfl (zad (zab 5) (zad (zab 6) (zah))) (zaj (zaj za0)))) (zaw (zbc (zca (zad (zco) (zad (zab 4) (zad (zab 6) (zah))))))) (zbu)))))) (zaw (zbc (zdd)))))
theorem yf0:FnScope ["numbers","bit","points","on","off"] ["numbers","bit"] (za6 (top bd 22)):=⟨rfl,rfl,rfl,by decide +kernel,rfl,by decide +kernel,by decide +kernel⟩
theorem ztr:List.Nodup (["point","numbers","bit"]:List Str):=by decide +kernel
noncomputable abbrev zts:List Str:=["numbers","bit","points","on","off"]
theorem h_m_table_of (F:FJ K mg "table_of" (top bd 22)) (z_tuple:mg "tuple" = none) (z_sorted:mg "sorted" = none) (h_m_bit_of:Has P w K mg base "bit_of" 1 2 zf6):Has P w K mg base "table_of" 2 2 zhi:=by
 have sc:=yf0
 refine zb0 (k:=1) F sc rfl (bl2 fun _ _=>fun _ _ _ _ _ _=>rfl) fun f cdv hcd A outer s H E hr=>?_
 exact zao (za5 2 sc.nd (yeu rfl rfl z_sorted (zad (zab 0) (zah)))) (zao (zkv 3 sc.nd (N':=["point","numbers","bit"]) (ixs:=[none,some 0,some 1]) rfl (zdo (scO:=za6 (top bd 22)) (NO:=zts) rfl rfl (by decide +kernel)) (zfw (zab 2)) (fun _ _ _ _ _=>zaz 0 ztr) (fun _ _ _ _ _=>zm0 (zey (za1 h_m_bit_of hr (by decide) rfl (zad (zrp hr (zab 1) (zab 0)) (zad (zab 2) (zah))) (zaj (zaj za0))) (zak))) (fun _ _ _ _ _=>zab 0)) (zao (zkv 4 sc.nd (N':=["point","numbers","bit"]) (ixs:=[none,some 0,some 1]) rfl (zdo (scO:=za6 (top bd 22)) (NO:=zts) rfl rfl (by decide +kernel)) (zfw (zab 2)) (fun _ _ _ _ _=>zaz 0 ztr) (fun _ _ _ _ _=>zm0 (zey (za1 h_m_bit_of hr (by decide) rfl (zad (zrp hr (zab 1) (zab 0)) (zad (zab 2) (zah))) (zaj (zaj za0))) (zak))) (fun _ _ _ _ _=>zab 0)) (zaw (zbc (zca (zad (zfk rfl z_tuple (zad (zab 3) (zah))) (zad (zfk rfl z_tuple (zad (zab 4) (zah))) (zah))))))))
theorem yf1:FnScope ["machine","asks","rooms"] ["machine"] (za6 (top bd 18)):=⟨rfl,rfl,rfl,by decide +kernel,rfl,by decide +kernel,by decide +kernel⟩
theorem h_m_bits_of (F:FJ K mg "bits_of" (top bd 18)) (z_max:mg "max" = none) (z_len:mg "len" = none) (c_MOST_WITH_WORDS:∃t,mg "MOST_WITH_WORDS" = some (.int 8 t)):Has P w K mg base "bits_of" 1 1 ze8:=by
 obtain ⟨_,c_MOST_WITH_WORDS⟩:=c_MOST_WITH_WORDS
 have sc:=yf1
 refine zb0 (k:=0) F sc rfl (bl1 fun _=>fun _ _ _ _ _ _=>rfl) fun f cdv hcd A outer s H E hr=>?_
 exact zao (zdu (zab 0) (zcv rfl (zbd (zaz 1 sc.nd) (zbd (zaz 2 sc.nd) (zcu))))) (zao (zbv (zmo (zcw rfl z_len (zad (zab 2) (zah))) (zml rfl c_MOST_WITH_WORDS)) (zaw (zp9)) (zbu)) (zaw (zbc (zca (zad (yay rfl rfl z_max (zad (zak) (zad (zrw (zgu (zcw rfl z_len (zad (zab 2) (zah))) (zak))) (zah)))) (zad (zrw (zgu (zab 1) (zak))) (zah)))))))
theorem yf2:FnScope ["thing","count"] ["thing","count"] (za6 (top bd 13)):=⟨rfl,rfl,rfl,by decide +kernel,rfl,by decide +kernel,by decide +kernel⟩
theorem h_m_is_below (F:FJ K mg "is_below" (top bd 13)) (z_isinstance:mg "isinstance" = none) (z_int:mg "int" = none) (z_bool:mg "bool" = none):Has P w K mg base "is_below" 1 2 zid:=by
 have sc:=yf2
 refine zb0 (k:=0) F sc rfl (bl2 fun _ _=>fun _ _ _ _ _ _=>rfl) fun f cdv hcd A outer s H E hr=>?_
 exact zaw (zbc (zmm (zmt (U:="int") rfl z_isinstance rfl z_int zqi (by decide) (zab 0)) (zmm (zzz (zmt (U:="bool") rfl z_isinstance rfl z_bool yav (by decide) (zab 0))) (zkt (zzw zxx zos (zgt fun _ _ _ _=>.bl _) (zgt fun _ _ _ _=>.bl _) (zak) (zab 0) (zab 1))))))
theorem yf3:FnScope ["thing","many","count"] ["thing","many","count"] (za6 (top bd 14)):=⟨rfl,rfl,rfl,by decide +kernel,rfl,by decide +kernel,by decide +kernel⟩
theorem yf4:List.Nodup (["number","count"]:List Str):=by decide +kernel
noncomputable abbrev yf5:List Str:=["thing","many","count"]
theorem h_m_are_unlike_below (F:FJ K mg "are_unlike_below" (top bd 14)) (z_all:mg "all" = none) (z_len:mg "len" = none) (z_set:mg "set" = none) (z_isinstance:mg "isinstance" = none) (z_tuple:mg "tuple" = none) (h_m_is_below:Has P w K mg base "is_below" 1 2 zid):Has P w K mg base "are_unlike_below" 2 3 zjw:=by
 have sc:=yf3
 refine zb0 (k:=1) F sc rfl (bl3 fun _ _ _=>fun _ _ _ _ _ _=>rfl) fun f cdv hcd A outer s H E hr=>?_
 exact zao (zbv (zew (zit (ziu (zgf (zmt (U:="tuple") rfl z_isinstance rfl z_tuple zqj (by decide) (zab 0)))) (zis (zgx (zcw rfl z_len (zad (zab 0) (zah))) (zab 1))))) (zaw (zbc (zfg))) (zbu)) (zaw (zbc (zmm (zna rfl rfl z_all (zad (zfx (N':=["number","count"]) (ixs:=[none,some 2]) rfl (zdo (scO:=za6 (top bd 14)) (NO:=yf5) rfl rfl (by decide +kernel)) (zfw (zab 0)) (fun _ _ _ _ _=>zaz 0 yf4) (fun _ _ _ _ _=>zdw) (fun _ _ _ _ _=>za1 h_m_is_below hr (by decide) rfl (zad (zab 0) (zad (zab 1) (zah))) (zaj (zaj za0)))) (zah))) (zkt (ziy (yeo rfl z_len (zad (yen hr rfl z_set (zad (zab 0) (zah))) zah)) (zab 1))))))
theorem yf6:FnScope ["machine","thing"] ["machine","thing"] (za6 (top bd 19)):=⟨rfl,rfl,rfl,by decide +kernel,rfl,by decide +kernel,by decide +kernel⟩
theorem h_m_is_words (F:FJ K mg "is_words" (top bd 19)) (z_len:mg "len" = none) (h_m_are_unlike_below:Has P w K mg base "are_unlike_below" 2 3 zjw) (h_m_bits_of:Has P w K mg base "bits_of" 1 1 ze8):Has P w K mg base "is_words" 3 2 zjx:=by
 have sc:=yf6
 refine zb0 (k:=2) F sc rfl (bl2 fun _ _=>fun _ _ _ _ _ _=>rfl) fun f cdv hcd A outer s H E hr=>?_
 exact zaw (zbc (za1 h_m_are_unlike_below hr (by decide) rfl (zad (zab 1) (zad (zcw rfl z_len (zad (zbf (zab 0) (zak)) (zah))) (zad (ze5 (zak) (zbf (za1 h_m_bits_of hr (by decide) rfl (zad (zab 0) (zah)) (zaj za0)) (zak))) (zah)))) (zaj (zaj (zaj za0)))))
theorem yf7:FnScope ["machine","thing"] ["machine","thing"] (za6 (top bd 20)):=⟨rfl,rfl,rfl,by decide +kernel,rfl,by decide +kernel,by decide +kernel⟩
theorem h_m_refuse_no_words (F:FJ K mg "refuse_no_words" (top bd 20)) (h_m_is_words:Has P w K mg base "is_words" 3 2 zjx):Has P w K mg base "refuse_no_words" 4 2 zhj:=by
 have sc:=yf7
 refine zb0 (k:=3) F sc rfl (bl2 fun _ _=>fun _ _ _ _ _ _=>rfl) fun f cdv hcd A outer s H E hr=>?_
 exact zaw (zbv (ziu (zgf (za1 h_m_is_words hr (by decide) rfl (zad (zab 0) (zad (zab 1) (zah))) (zaj (zaj za0))))) (zaw (zp9)) (zbu))
theorem yf8:FnScope ["machine","words","b","come_to","said","word","room","ask","goes","says","point"] ["machine","words"] (za6 (top bd 21)):=⟨rfl,rfl,rfl,by decide +kernel,rfl,by decide +kernel,by decide +kernel⟩
theorem yf9:List.Nodup (["bit","come_to"]:List Str):=by decide +kernel
theorem yga:List.Nodup (["bit","said"]:List Str):=by decide +kernel
noncomputable abbrev ztt:List Str:=["machine","words","b","come_to","said","word","room","ask","goes","says","point"]
theorem h_m_tables (F:FJ K mg "tables" (top bd 21)) (z_range:mg "range" = none) (z_enumerate:mg "enumerate" = none) (z_zip:mg "zip" = none) (c_ANSWER_BITS:∃t,mg "ANSWER_BITS" = some (.int 3 t)) (h_m_table_of:Has P w K mg base "table_of" 2 2 zhi) (h_m_bits_of:Has P w K mg base "bits_of" 1 1 ze8) (h_m_refuse_no_words:Has P w K mg base "refuse_no_words" 4 2 zhj):Has P w K mg base "tables" 5 2 zie:=by
 obtain ⟨_,c_ANSWER_BITS⟩:=c_ANSWER_BITS
 have sc:=yf8
 refine zb0 (k:=4) F sc rfl (bl2 fun _ _=>fun _ _ _ _ _ _=>rfl) fun f cdv hcd A outer s H E hr=>?_
 exact zao (zej (za1 h_m_refuse_no_words hr (by decide) rfl (zad (zab 0) (zad (zab 1) (zah))) (zaj (zaj za0)))) (zao (za5 2 sc.nd (zbf (za1 h_m_bits_of hr (by decide) rfl (zad (zab 0) (zah)) (zaj za0)) (zak))) (zao (za5 3 sc.nd (zq3)) (zao (za5 4 sc.nd (zq3)) (zao (zi9 PassesOwn.never rfl (yd1 rfl z_zip (zad (zab 1) (zad (zbf (zab 0) (zak)) (zah)))) (zcv rfl (zbd (zaz 5 sc.nd) (zbd (zaz 6 sc.nd) (zcu)))) (zaw (zi9 PassesOwn.never rfl (zh6 rfl z_enumerate (zad (zab 6) (zah))) (zcv rfl (zbd (zaz 7 sc.nd) (zbd (zcv rfl (zbd (zaz 8 sc.nd) (zbd (zaz 9 sc.nd) (zcu)))) (zcu)))) (zao (za5 10 sc.nd (zbi (zab 5) (ze5 (zab 7) (zab 2)))) (zao (zbv (zft (zab 8) (zdd)) (zaw (zrr hr (zab 3) (zab 10) (zbf (zab 1) (zab 8)))) (zbu)) (zaw (zbv (zft (zab 9) (zdd)) (zaw (zrr hr (zab 4) (zab 10) (zab 9))) (zbu)))))))) (zaw (zbc (zbi (zfx (N':=["bit","come_to"]) (ixs:=[none,some 3]) rfl (zdo (scO:=za6 (top bd 21)) (NO:=ztt) rfl rfl (by decide +kernel)) (zi3 rfl z_range (zad (zab 2) (zah))) (fun _ _ _ _ _=>zaz 0 yf9) (fun _ _ _ _ _=>zdw) (fun _ _ _ _ _=>za1 h_m_table_of hr (by decide) rfl (zad (zab 1) (zad (zab 0) (zah))) (zaj (zaj za0)))) (zfx (N':=["bit","said"]) (ixs:=[none,some 4]) rfl (zdo (scO:=za6 (top bd 21)) (NO:=ztt) rfl rfl (by decide +kernel)) (zi3 rfl z_range (zad (zml rfl c_ANSWER_BITS) (zah))) (fun _ _ _ _ _=>zaz 0 yga) (fun _ _ _ _ _=>zdw) (fun _ _ _ _ _=>za1 h_m_table_of hr (by decide) rfl (zad (zab 1) (zad (zab 0) (zah))) (zaj (zaj za0)))))))))))
theorem ygb:FnScope ["counts","bits","b","c","nets"] ["counts","bits"] (za6 (top bd 25)):=⟨rfl,rfl,rfl,by decide +kernel,rfl,by decide +kernel,by decide +kernel⟩
theorem ztu:List.Nodup (["net","piece","b","c"]:List Str):=by decide +kernel
noncomputable abbrev ygc:List Str:=["counts","bits","b","c","nets"]
theorem h_m_has_counts (F:FJ K mg "has_counts" (top bd 25)) (z_all:mg "all" = none) (z_len:mg "len" = none) (c_ANSWER_BITS:∃t,mg "ANSWER_BITS" = some (.int 3 t)):Has P w K mg base "has_counts" 1 2 zjy:=by
 obtain ⟨_,c_ANSWER_BITS⟩:=c_ANSWER_BITS
 have sc:=ygb
 refine zb0 (k:=0) F sc rfl (bl2 fun _ _=>fun _ _ _ _ _ _=>rfl) fun f cdv hcd A outer s H E hr=>?_
 exact zao (zdu (zab 1) (zcv rfl (zbd (zaz 2 sc.nd) (zbd (zaz 3 sc.nd) (zbd (zaz 4 sc.nd) (zcu)))))) (zao (zbv (zew (zit (zqw hr (zca (zad (zab 2) (zad (zab 3) (zah)))) (zab 0)) (zis (zgx (zcw rfl z_len (zad (zab 4) (zah))) (zbi (zab 2) (zml rfl c_ANSWER_BITS)))))) (zaw (zbc (zfg))) (zbu)) (zaw (zbc (zna rfl rfl z_all (zad (yd5 (N':=["net","piece","b","c"]) (ixs:=[none,none,some 2,some 3]) rfl (zdo (scO:=za6 (top bd 25)) (NO:=ygc) rfl rfl (by decide +kernel)) (zfw (zab 4)) (fun _ _ _ _ _=>zaz 0 ztu) (fun _ _ _ _ _=>zdw) (fun _ _ _ _ _=>yd3 (zab 0)) (fun _ _ _ _ _=>zaz 1 ztu) (fun _ _ _ _ _=>zdw) (fun _ _ _ _ _=>ziy (zcw rfl z_len (zad (zab 1) (zah))) (zbi (zab 2) (zab 3)))) (zah))))))
theorem ygd:FnScope ["machine","words","bits","j","on","off","fault"] ["machine","words","bits"] (za6 (top bd 24)):=⟨rfl,rfl,rfl,by decide +kernel,rfl,by decide +kernel,by decide +kernel⟩
theorem h_m_bit_fault (F:FJ K mg "bit_fault" (top bd 24)) (z_enumerate:mg "enumerate" = none) (h_m_net_fault:Has P w K mg base "net_fault" 6 3 zjv) (h_m_tables:Has P w K mg base "tables" 5 2 zie) (h_m_has_counts:Has P w K mg base "has_counts" 1 2 zjy) (h_m_bits_of:Has P w K mg base "bits_of" 1 1 ze8) (h_m_refuse_no_words:Has P w K mg base "refuse_no_words" 4 2 zhj):Has P w K mg base "bit_fault" 7 3 zhk:=by
 have sc:=ygd
 refine zb0 (k:=6) F sc rfl (bl3 fun _ _ _=>fun _ _ _ _ _ _=>rfl) fun f cdv hcd A outer s H E hr=>?_
 exact zao (zej (za1 h_m_refuse_no_words hr (by decide) rfl (zad (zab 0) (zad (zab 1) (zah))) (zaj (zaj za0)))) (zao (zbv (ziu (zgf (za1 h_m_has_counts hr (by decide) rfl (zad (za1 h_m_bits_of hr (by decide) rfl (zad (zab 0) (zah)) (zaj za0)) (zad (zab 2) (zah))) (zaj (zaj za0))))) (zaw (zbc (zca (zad (zco) (zah))))) (zbu)) (zao (zi9 PassesOwn.never rfl (zh6 rfl z_enumerate (zad (za1 h_m_tables hr (by decide) rfl (zad (zab 0) (zad (zab 1) (zah))) (zaj (zaj za0))) (zah))) (zcv rfl (zbd (zaz 3 sc.nd) (zbd (zcv rfl (zbd (zaz 4 sc.nd) (zbd (zaz 5 sc.nd) (zcu)))) (zcu)))) (zao (za5 6 sc.nd (za1 h_m_net_fault hr (by decide) rfl (zad (zab 4) (zad (zab 5) (zad (zbf (zbf (zab 2) (zak)) (zab 3)) (zah)))) (zaj (zaj (zaj za0))))) (zaw (zbv (zft (zab 6) (zdd)) (zaw (zbc (zca (zad (zab 3) (zad (zab 6) (zah)))))) (zbu))))) (zaw (zbc (zdd)))))
theorem yge:FnScope ["_law_pen_here","_law_v","_law_net_here","_law_way","_law_at","_law_k","_law_sign","_law_strange","_law_piece","_law_other"] ["_law_pen_here","_law_v","_law_net_here"] (za6 (top bd 42)):=⟨rfl,rfl,rfl,by decide +kernel,rfl,by decide +kernel,by decide +kernel⟩
theorem ygf:List.Nodup (["_law_place","_law_pen_here"]:List Str):=by decide +kernel
noncomputable abbrev ygg:List Str:=["_law_pen_here","_law_v","_law_net_here","_law_way","_law_at","_law_k","_law_sign","_law_strange","_law_piece","_law_other"]
theorem h_m_law_bent_net (F:FJ K mg "_law_bent_net" (top bd 42)) (z_len:mg "len" = none) (z_range:mg "range" = none) (h_m_law_take:Has P w K mg base "_law_take" 1 2 zbp):Has P w K mg base "_law_bent_net" 2 3 zjz:=by
 have sc:=yge
 refine zb0 (k:=1) F sc rfl (bl3 fun _ _ _=>fun _ _ _ _ _ _=>rfl) fun f cdv hcd A outer s H E hr=>?_
 exact zao (za5 3 sc.nd (za1 h_m_law_take hr (by decide) rfl (zad (zab 0) (zad (zak) (zah))) (zaj (zaj za0)))) (zao (za5 4 sc.nd (za1 h_m_law_take hr (by decide) rfl (zad (zab 0) (zad (zbi (zcw rfl z_len (zad (zab 2) (zah))) (zak)) (zah))) (zaj (zaj za0)))) (zao (za5 5 sc.nd (za1 h_m_law_take hr (by decide) rfl (zad (zab 0) (zad (zab 1) (zah))) (zaj (zaj za0)))) (zao (za5 6 sc.nd (zbf (zco) (za1 h_m_law_take hr (by decide) rfl (zad (zab 0) (zad (zak) (zah))) (zaj (zaj za0))))) (zao (za5 7 sc.nd (zre (zco) (zfx (N':=["_law_place","_law_pen_here"]) (ixs:=[none,some 0]) rfl (zdo (scO:=za6 (top bd 42)) (NO:=ygg) rfl rfl (by decide +kernel)) (zi3 rfl z_range (zad (zab 1) (zah))) (fun _ _ _ _ _=>zaz 0 ygf) (fun _ _ _ _ _=>zdw) (fun _ _ _ _ _=>zbf (zco) (za1 h_m_law_take hr (by decide) rfl (zad (zab 1) (zad (zak) (zah))) (zaj (zaj za0))))))) (zao (zbv (zew (zit (zey (zab 3) (zak)) (zis (zey (zab 4) (zcw rfl z_len (zad (zab 2) (zah))))))) (zaw (zbc (zcx (zbi (zbi (zcx (zab 2) (zcs) (zct (zab 4))) (zca (zad (zab 7) (zah)))) (zcx (zab 2) (zct (zab 4)) (zcs))) (zcs) (zct (zak))))) (zbu)) (zao (zbv (zey (zab 3) (zak)) (zaw (zbc (zbi (zcx (zab 2) (zcs) (zct (zab 4))) (zcx (zab 2) (zct (zbi (zab 4) (zak))) (zcs))))) (zbu)) (zao (za5 8 sc.nd (zbf (zab 2) (zab 4))) (zao (za5 9 sc.nd (zbi (zbi (zcx (zab 8) (zcs) (zct (zab 5))) (zab 6)) (zcx (zab 8) (zct (zbi (zab 5) (zak))) (zcs)))) (zaw (zbc (zbi (zbi (zcx (zab 2) (zcs) (zct (zab 4))) (zca (zad (zab 9) (zah)))) (zcx (zab 2) (zct (zbi (zab 4) (zak))) (zcs)))))))))))))
theorem ygh:FnScope ["_law_pen_here","_law_bits_here","_law_way","_law_b","_law_c","_law_nets","_law_at","_law_net_here","_law_longer"] ["_law_pen_here","_law_bits_here"] (za6 (top bd 43)):=⟨rfl,rfl,rfl,by decide +kernel,rfl,by decide +kernel,by decide +kernel⟩
theorem h_m_law_bent_bits (F:FJ K mg "_law_bent_bits" (top bd 43)) (z_len:mg "len" = none) (h_m_law_take:Has P w K mg base "_law_take" 1 2 zbp) (h_m_law_bent_net:Has P w K mg base "_law_bent_net" 2 3 zjz):Has P w K mg base "_law_bent_bits" 3 2 zj0:=by
 have sc:=ygh
 refine zb0 (k:=2) F sc rfl (bl2 fun _ _=>fun _ _ _ _ _ _=>rfl) fun f cdv hcd A outer s H E hr=>?_
 exact zao (za5 2 sc.nd (za1 h_m_law_take hr (by decide) rfl (zad (zab 0) (zad (zak) (zah))) (zaj (zaj za0)))) (zao (zdu (zab 1) (zcv rfl (zbd (zaz 3 sc.nd) (zbd (zaz 4 sc.nd) (zbd (zaz 5 sc.nd) (zcu)))))) (zao (za5 6 sc.nd (za1 h_m_law_take hr (by decide) rfl (zad (zab 0) (zad (zcw rfl z_len (zad (zab 5) (zah))) (zah))) (zaj (zaj za0)))) (zao (za5 7 sc.nd (za1 h_m_law_bent_net hr (by decide) rfl (zad (zab 0) (zad (zbi (zab 3) (zab 4)) (zad (zbf (zab 5) (zab 6)) (zah)))) (zaj (zaj (zaj za0))))) (zao (za5 8 sc.nd (zbf (zca (zad (znp (zco) (zbi (zbi (zab 3) (zab 4)) (zak))) (zad (znp (zco) (zgu (zbi (zab 3) (zab 4)) (zak))) (zad (zco) (zad (znp (zco) (zak)) (zah)))))) (za1 h_m_law_take hr (by decide) rfl (zad (zab 0) (zad (zak) (zah))) (zaj (zaj za0))))) (zao (zbv (zey (zab 2) (zak)) (zaw (zbc (zbf (zc4 (zad (zca (zad (zbi (zab 3) (zak)) (zad (zab 4) (zad (zab 5) (zah))))) (zad (zca (zad (zgu (zab 3) (zak)) (zad (zab 4) (zad (zab 5) (zah))))) (zad (zca (zad (zab 3) (zad (zbi (zab 4) (zak)) (zad (zab 5) (zah))))) (zad (zca (zad (zab 4) (zad (zab 3) (zad (zab 5) (zah))))) (zah)))))) (za1 h_m_law_take hr (by decide) rfl (zad (zab 0) (zad (zak) (zah))) (zaj (zaj za0)))))) (zbu)) (zao (zbv (zey (zab 2) (zak)) (zaw (zbc (zca (zad (zab 3) (zad (zab 4) (zad (zbf (zc4 (zad (zcx (zab 5) (zct (zak)) (zcs)) (zad (zbi (zab 5) (zcx (zab 5) (zcs) (zct (zak)))) (zad (zca (zah)) (zad (zcx (zab 5) (zcs) (zct (zab 6))) (zah)))))) (za1 h_m_law_take hr (by decide) rfl (zad (zab 0) (zad (zak) (zah))) (zaj (zaj za0)))) (zah))))))) (zbu)) (zao (zbv (zey (zab 2) (zak)) (zaw (za5 7 sc.nd (zbi (zbi (zcx (zbf (zab 5) (zab 6)) (zcs) (zct (zak))) (zca (zad (zab 8) (zah)))) (zcx (zbf (zab 5) (zab 6)) (zct (zak)) (zcs))))) (zbu)) (zao (zbv (zey (zab 2) (zak)) (zaw (zbc (zca (zad (zab 3) (zad (zab 4) (zad (zbi (zcx (zab 5) (zct (zab 6)) (zcs)) (zcx (zab 5) (zcs) (zct (zab 6)))) (zah))))))) (zbu)) (zaw (zbc (zca (zad (zab 3) (zad (zab 4) (zad (zbi (zbi (zcx (zab 5) (zcs) (zct (zab 6))) (zca (zad (zab 7) (zah)))) (zcx (zab 5) (zct (zbi (zab 6) (zak))) (zcs))) (zah)))))))))))))))
theorem ygi:FnScope ["_law_pen_here","_law_machine_here","_law_most","_law_row_here","_law_room","_law_ask"] ["_law_pen_here","_law_machine_here","_law_most"] (za6 (top bd 44)):=⟨rfl,rfl,rfl,by decide +kernel,rfl,by decide +kernel,by decide +kernel⟩
theorem h_m_law_row (F:FJ K mg "_law_row" (top bd 44)) (z_tuple:mg "tuple" = none) (z_len:mg "len" = none) (h_m_law_take:Has P w K mg base "_law_take" 1 2 zbp):Has P w K mg base "_law_row" 2 3 zif:=by
 have sc:=ygi
 refine zb0 (k:=1) F sc rfl (bl3 fun _ _ _=>fun _ _ _ _ _ _=>rfl) fun f cdv hcd A outer s H E hr=>?_
 exact zao (za5 3 sc.nd (zc4 (zah))) (zao (za5 4 sc.nd (zak)) (zao (ybc zkz PassesOwn.never (zew (zhw (zft (zab 4) (zdd)) (zhv (zgw (zcw rfl z_len (zad (zab 3) (zah))) (zab 2))))) (zao (za5 5 sc.nd (za1 h_m_law_take hr (by decide) rfl (zad (zab 0) (zad (zbf (zab 1) (zak)) (zah))) (zaj (zaj za0)))) (zao (zej (zfu (zab 3) (zab 5))) (zaw (za5 4 sc.nd (zbf (zbf (zbf (zbf (zab 1) (zak)) (zab 4)) (zab 5)) (zak))))))) (zaw (zbc (zfk rfl z_tuple (zad (zab 3) (zah)))))))
theorem ygj:FnScope ["_law_machine_here"] ["_law_machine_here"] (za6 (top bd 35)):=⟨rfl,rfl,rfl,by decide +kernel,rfl,by decide +kernel,by decide +kernel⟩
theorem h_m_law_bits (F:FJ K mg "_law_bits" (top bd 35)) (z_len:mg "len" = none):Has P w K mg base "_law_bits" 1 1 zf7:=by
 have sc:=ygj
 refine zb0 (k:=0) F sc rfl (bl1 fun _=>fun _ _ _ _ _ _=>rfl) fun f cdv hcd A outer s H E hr=>?_
 exact zaw (zbc (zca (zad (zbf (zc4 (zad (zak) (zad (zak) (zad (zak) (zad (zak) (zad (zak) (zad (zak) (zad (zak) (zad (zak) (zah)))))))))) (zgu (zcw rfl z_len (zad (zbf (zab 0) (zak)) (zah))) (zak))) (zad (zbf (zc4 (zad (zak) (zad (zak) (zad (zak) (zad (zak) (zah)))))) (zgu (zbf (zab 0) (zak)) (zak))) (zah)))))
theorem ygk:FnScope ["_law_machine_here","_law_words_here","_law_b","_law_c","_law_found","_law_j","_law_both","_law_point","_law_word","_law_ask","_law_goes","_law_number","_law_place"] ["_law_machine_here","_law_words_here"] (za6 (top bd 37)):=⟨rfl,rfl,rfl,by decide +kernel,rfl,by decide +kernel,by decide +kernel⟩
theorem h_m_law_tables (F:FJ K mg "_law_tables" (top bd 37)) (z_tuple:mg "tuple" = none) (z_range:mg "range" = none) (h_m_law_bits:Has P w K mg base "_law_bits" 1 1 zf7):Has P w K mg base "_law_tables" 2 2 zig:=by
 have sc:=ygk
 refine zb0 (k:=1) F sc rfl (bl2 fun _ _=>fun _ _ _ _ _ _=>rfl) fun f cdv hcd A outer s H E hr=>?_
 exact zao (zdu (za1 h_m_law_bits hr (by decide) rfl (zad (zab 0) (zah)) (zaj za0)) (zcv rfl (zbd (zaz 2 sc.nd) (zbd (zaz 3 sc.nd) (zcu))))) (zao (za5 4 sc.nd (zc4 (zah))) (zao (zg0 PassesOwn.never rfl rfl z_range (zad (zbi (zab 2) (zak)) (zah)) (zaz 5 sc.nd) (zao (za5 6 sc.nd (zc4 (zad (zc4 (zah)) (zad (zc4 (zah)) (zah))))) (zao (zg0 PassesOwn.never rfl rfl z_range (zad (ze5 (zak) (zbi (zab 2) (zab 3))) (zah)) (zaz 7 sc.nd) (zao (za5 8 sc.nd (zei (zab 7) (ze5 (zak) (zab 2)))) (zao (za5 9 sc.nd (zgv (zab 7) (ze5 (zak) (zab 2)))) (zaw (zbv (zew (zhw (ybi (zab 8) (zab 1)) (zhv (zgw (zab 9) (zbf (zab 0) (zak)))))) (zao (zdu (zbf (zbf (zbf (zab 0) (zak)) (yed (zab 1) (zab 8))) (zab 9)) (zcv rfl (zbd (zaz 10 sc.nd) (zbd (zaz 11 sc.nd) (zcu))))) (zao (za5 12 sc.nd (zgu (zab 5) (zab 2))) (zao (zbv (zgw (zab 5) (zab 2)) (zao (za5 12 sc.nd (zab 5)) (zao (za5 11 sc.nd (zdd)) (zaw (zbv (zft (zab 10) (zdd)) (zaw (za5 11 sc.nd (zbf (zab 1) (zab 10)))) (zbu))))) (zbu)) (zaw (zbv (zft (zab 11) (zdd)) (zaw (zej (zfu (zbf (zab 6) (zei (zgv (zab 11) (ze5 (zak) (zab 12))) (zak))) (zab 7)))) (zbu)))))) (zbu)))))) (zaw (zej (zfu (zab 4) (zca (zad (zfk rfl z_tuple (zad (zbf (zab 6) (zak)) (zah))) (zad (zfk rfl z_tuple (zad (zbf (zab 6) (zak)) (zah))) (zah)))))))))) (zaw (zbc (zab 4)))))
theorem ygl:FnScope ["_law_piece","_law_point","_law_k","_law_sign"] ["_law_piece","_law_point"] (za6 (top bd 38)):=⟨rfl,rfl,rfl,by decide +kernel,rfl,by decide +kernel,by decide +kernel⟩
theorem h_m_law_has (F:FJ K mg "_law_has" (top bd 38)) (z_int:mg "int" = none) (z_enumerate:mg "enumerate" = none):Has P w K mg base "_law_has" 1 2 zj1:=by
 have sc:=ygl
 refine zb0 (k:=0) F sc rfl (bl2 fun _ _=>fun _ _ _ _ _ _=>rfl) fun f cdv hcd A outer s H E hr=>?_
 exact zao (zi9 PassesOwn.never rfl (zh6 rfl z_enumerate (zad (zab 0) (zah))) (zcv rfl (zbd (zaz 2 sc.nd) (zbd (zaz 3 sc.nd) (zcu)))) (zaw (zbv (zew (zhw (zgx (zab 3) (zco)) (zhv (zgx (ycw rfl z_int (zad (zab 3) (zah))) (zei (zgv (zab 1) (ze5 (zak) (zab 2))) (zak)))))) (zaw (zbc (zfg))) (zbu)))) (zaw (zbc (zfg)))
theorem ygm:FnScope ["_law_pen_here","_law_v","_law_off","_law_point","_law_piece","_law_turn","_law_k","_law_loose"] ["_law_pen_here","_law_v","_law_off","_law_point"] (za6 (top bd 39)):=⟨rfl,rfl,rfl,by decide +kernel,rfl,by decide +kernel,by decide +kernel⟩
theorem ygn:List.Nodup (["_law_k","_law_point"]:List Str):=by decide +kernel
theorem ygo:List.Nodup (["_law_other","_law_loose"]:List Str):=by decide +kernel
noncomputable abbrev ztv:List Str:=["_law_pen_here","_law_v","_law_off","_law_point","_law_piece","_law_turn","_law_k","_law_loose"]
theorem h_m_law_piece_for (F:FJ K mg "_law_piece_for" (top bd 39)) (z_range:mg "range" = none) (z_str:mg "str" = none) (h_m_law_has:Has P w K mg base "_law_has" 1 2 zj1) (h_m_law_take:Has P w K mg base "_law_take" 1 2 zbp):Has P w K mg base "_law_piece_for" 2 4 zj2:=by
 have sc:=ygm
 refine zb0 (k:=1) F sc rfl (bl4 fun _ _ _ _=>fun _ _ _ _ _ _=>rfl) fun f cdv hcd A outer s H E hr=>?_
 exact zao (za5 4 sc.nd (zre (zco) (zfx (N':=["_law_k","_law_point"]) (ixs:=[none,some 3]) rfl (zdo (scO:=za6 (top bd 39)) (NO:=ztv) rfl rfl (by decide +kernel)) (zi3 rfl z_range (zad (zab 1) (zah))) (fun _ _ _ _ _=>zaz 0 ygn) (fun _ _ _ _ _=>zdw) (fun _ _ _ _ _=>zq7 rfl z_str (zad (zei (zgv (zab 1) (ze5 (zak) (zab 0))) (zak)) (zah)))))) (zao (zg0 PassesOwn.never rfl rfl z_range (zad (za1 h_m_law_take hr (by decide) rfl (zad (zab 0) (zad (zbi (zab 1) (zak)) (zah))) (zaj (zaj za0))) (zah)) (zaz 5 sc.nd) (zao (za5 6 sc.nd (za1 h_m_law_take hr (by decide) rfl (zad (zab 0) (zad (zab 1) (zah))) (zaj (zaj za0)))) (zao (za5 7 sc.nd (zbi (zbi (zcx (zab 4) (zcs) (zct (zab 6))) (zco)) (zcx (zab 4) (zct (zbi (zab 6) (zak))) (zcs)))) (zaw (zbv (ycs hr (zfx (N':=["_law_other","_law_loose"]) (ixs:=[none,some 7]) rfl (zdo (scO:=za6 (top bd 39)) (NO:=ztv) rfl rfl (by decide +kernel)) (zfw (zab 2)) (fun _ _ _ _ _=>zaz 0 ygo) (fun _ _ _ _ _=>zm0 (zgf (za1 h_m_law_has hr (by decide) rfl (zad (zab 1) (zad (zab 0) (zah))) (zaj (zaj za0))))) (fun _ _ _ _ _=>zab 0)) (zc4 (zah))) (zaw (za5 4 sc.nd (zab 7))) (zbu)))))) (zaw (zbc (zab 4))))
theorem ygp:FnScope ["_law_pen_here","_law_v","_law_on","_law_off","_law_found","_law_point"] ["_law_pen_here","_law_v","_law_on","_law_off"] (za6 (top bd 40)):=⟨rfl,rfl,rfl,by decide +kernel,rfl,by decide +kernel,by decide +kernel⟩
theorem h_m_law_net (F:FJ K mg "_law_net" (top bd 40)) (z_tuple:mg "tuple" = none) (z_len:mg "len" = none) (h_m_law_take:Has P w K mg base "_law_take" 1 2 zbp) (h_m_law_piece_for:Has P w K mg base "_law_piece_for" 2 4 zj2):Has P w K mg base "_law_net" 3 4 zj3:=by
 have sc:=ygp
 refine zb0 (k:=2) F sc rfl (bl4 fun _ _ _ _=>fun _ _ _ _ _ _=>rfl) fun f cdv hcd A outer s H E hr=>?_
 exact zao (za5 4 sc.nd (zc4 (zah))) (zao (zgz PassesOwn.never rfl (zab 2) (zaz 5 sc.nd) (zao (zej (ycz (zab 4) (za1 h_m_law_take hr (by decide) rfl (zad (zab 0) (zad (zbi (zcw rfl z_len (zad (zab 4) (zah))) (zak)) (zah))) (zaj (zaj za0))) (za1 h_m_law_piece_for hr (by decide) rfl (zad (zab 0) (zad (zab 1) (zad (zab 3) (zad (zab 5) (zah))))) (zaj (zaj (zaj (zaj za0))))))) (zaw (zbv (zew (zhw (zey (za1 h_m_law_take hr (by decide) rfl (zad (zab 0) (zad (zak) (zah))) (zaj (zaj za0))) (zak)) (zhv (zgw (zcw rfl z_len (zad (zab 4) (zah))) (zak))))) (zaw (zej (zfu (zab 4) (zbf (zab 4) (za1 h_m_law_take hr (by decide) rfl (zad (zab 0) (zad (zcw rfl z_len (zad (zab 4) (zah))) (zah))) (zaj (zaj za0))))))) (zbu))))) (zaw (zbc (zfk rfl z_tuple (zad (zab 4) (zah))))))
theorem ygq:FnScope ["_law_pen_here","_law_machine_here","_law_words_here","_law_b","_law_c"] ["_law_pen_here","_law_machine_here","_law_words_here"] (za6 (top bd 41)):=⟨rfl,rfl,rfl,by decide +kernel,rfl,by decide +kernel,by decide +kernel⟩
theorem ztw:List.Nodup (["_law_on","_law_off","_law_pen_here","_law_b","_law_c"]:List Str):=by decide +kernel
noncomputable abbrev ygr:List Str:=["_law_pen_here","_law_machine_here","_law_words_here","_law_b","_law_c"]
theorem h_m_law_made (F:FJ K mg "_law_made" (top bd 41)) (z_tuple:mg "tuple" = none) (h_m_law_tables:Has P w K mg base "_law_tables" 2 2 zig) (h_m_law_net:Has P w K mg base "_law_net" 3 4 zj3) (h_m_law_bits:Has P w K mg base "_law_bits" 1 1 zf7):Has P w K mg base "_law_made" 4 3 zj4:=by
 have sc:=ygq
 refine zb0 (k:=3) F sc rfl (bl3 fun _ _ _=>fun _ _ _ _ _ _=>rfl) fun f cdv hcd A outer s H E hr=>?_
 exact zao (zdu (za1 h_m_law_bits hr (by decide) rfl (zad (zab 1) (zah)) (zaj za0)) (zcv rfl (zbd (zaz 3 sc.nd) (zbd (zaz 4 sc.nd) (zcu))))) (zaw (zbc (zca (zad (zab 3) (zad (zab 4) (zad (zfk rfl z_tuple (zad (zfx (N':=["_law_on","_law_off","_law_pen_here","_law_b","_law_c"]) (ixs:=[none,none,some 0,some 3,some 4]) rfl (zdo (scO:=za6 (top bd 41)) (NO:=ygr) rfl rfl (by decide +kernel)) (zfw (za1 h_m_law_tables hr (by decide) rfl (zad (zab 1) (zad (zab 2) (zah))) (zaj (zaj za0)))) (fun _ _ _ _ _=>zcv rfl (zbd (zaz 0 ztw) (zbd (zaz 1 ztw) (zcu)))) (fun _ _ _ _ _=>zdw) (fun _ _ _ _ _=>za1 h_m_law_net hr (by decide) rfl (zad (zab 2) (zad (zbi (zab 3) (zab 4)) (zad (zab 0) (zad (zab 1) (zah))))) (zaj (zaj (zaj (zaj za0)))))) (zah))) (zah)))))))
theorem ygs:FnScope ["_law_pen_here","_law_many","_law_b","_law_left"] ["_law_pen_here","_law_many","_law_b"] (za6 (top bd 36)):=⟨rfl,rfl,rfl,by decide +kernel,rfl,by decide +kernel,by decide +kernel⟩
theorem ygt:List.Nodup (["_law_room","_law_left","_law_pen_here"]:List Str):=by decide +kernel
noncomputable abbrev ygu:List Str:=["_law_pen_here","_law_many","_law_b","_law_left"]
theorem h_m_law_words (F:FJ K mg "_law_words" (top bd 36)) (z_tuple:mg "tuple" = none) (z_range:mg "range" = none) (z_len:mg "len" = none) (z_list:mg "list" = none) (h_m_law_take:Has P w K mg base "_law_take" 1 2 zbp):Has P w K mg base "_law_words" 2 3 zj5:=by
 have sc:=ygs
 refine zb0 (k:=1) F sc rfl (bl3 fun _ _ _=>fun _ _ _ _ _ _=>rfl) fun f cdv hcd A outer s H E hr=>?_
 exact zao (za5 3 sc.nd (ybp rfl rfl z_list rfl z_range (zad (ze5 (zak) (zab 2)) (zah)))) (zaw (zbc (zfk rfl z_tuple (zad (zfx (N':=["_law_room","_law_left","_law_pen_here"]) (ixs:=[none,some 3,some 0]) rfl (zdo (scO:=za6 (top bd 36)) (NO:=ygu) rfl rfl (by decide +kernel)) (zi3 rfl z_range (zad (zab 1) (zah))) (fun _ _ _ _ _=>zaz 0 ygt) (fun _ _ _ _ _=>zdw) (fun _ _ _ _ _=>ybk (zab 1) (za1 h_m_law_take hr (by decide) rfl (zad (zab 2) (zad (zcw rfl z_len (zad (zab 1) (zah))) (zah))) (zaj (zaj za0))))) (zah)))))
theorem ygv:FnScope ["_law_pen_here","_law_rooms","_law_asks","_law_share","_law_most","_law_found","_law_room","_law_cells","_law_ask","_law_goes","_law_answer"] ["_law_pen_here","_law_rooms","_law_asks"] (za6 (top bd 34)):=⟨rfl,rfl,rfl,by decide +kernel,rfl,by decide +kernel,by decide +kernel⟩
theorem h_m_law_machine (F:FJ K mg "_law_machine" (top bd 34)) (z_tuple:mg "tuple" = none) (z_range:mg "range" = none) (h_m_law_take:Has P w K mg base "_law_take" 1 2 zbp):Has P w K mg base "_law_machine" 2 3 zj6:=by
 have sc:=ygv
 refine zb0 (k:=1) F sc rfl (bl3 fun _ _ _=>fun _ _ _ _ _ _=>rfl) fun f cdv hcd A outer s H E hr=>?_
 exact zao (za5 3 sc.nd (zbf (zc4 (zad (zak) (zad (zak) (zad (zak) (zad (zak) (zah)))))) (za1 h_m_law_take hr (by decide) rfl (zad (zab 0) (zad (zak) (zah))) (zaj (zaj za0))))) (zao (za5 4 sc.nd (zbf (zc4 (zad (zak) (zad (zak) (zad (zak) (zad (zak) (zah)))))) (za1 h_m_law_take hr (by decide) rfl (zad (zab 0) (zad (zak) (zah))) (zaj (zaj za0))))) (zao (za5 5 sc.nd (zc4 (zah))) (zao (zg0 PassesOwn.never rfl rfl z_range (zad (zab 1) (zah)) (zaz 6 sc.nd) (zao (za5 7 sc.nd (zc4 (zah))) (zao (zg0 PassesOwn.never rfl rfl z_range (zad (zab 2) (zah)) (zaz 8 sc.nd) (zao (za5 9 sc.nd (za1 h_m_law_take hr (by decide) rfl (zad (zab 0) (zad (zab 1) (zah))) (zaj (zaj za0)))) (zao (za5 10 sc.nd (za1 h_m_law_take hr (by decide) rfl (zad (zab 0) (zad (zab 4) (zah))) (zaj (zaj za0)))) (zao (zbv (zgw (za1 h_m_law_take hr (by decide) rfl (zad (zab 0) (zad (zak) (zah))) (zaj (zaj za0))) (zab 3)) (zaw (za5 9 sc.nd (zdd))) (zbu)) (zao (zbv (zgw (za1 h_m_law_take hr (by decide) rfl (zad (zab 0) (zad (zak) (zah))) (zaj (zaj za0))) (zab 3)) (zaw (za5 10 sc.nd (zdd))) (zbu)) (zaw (zej (zfu (zab 7) (zca (zad (zab 9) (zad (zab 10) (zah)))))))))))) (zaw (zej (zfu (zab 5) (zfk rfl z_tuple (zad (zab 7) (zah))))))))) (zaw (zbc (zca (zad (zab 2) (zad (zfk rfl z_tuple (zad (zab 5) (zah))) (zah)))))))))
theorem ygw:FnScope ["_law_script"] ["_law_script"] (za6 (top bd 32)):=⟨rfl,rfl,rfl,by decide +kernel,rfl,by decide +kernel,by decide +kernel⟩
theorem h_m_law_pen (F:FJ K mg "_law_pen" (top bd 32)):Has P w K mg base "_law_pen" 1 1 zj7:=by
 have sc:=ygw
 refine zb0 (k:=0) F sc rfl (bl1 fun _=>fun _ _ _ _ _ _=>rfl) fun f cdv hcd A outer s H E hr=>?_
 exact zaw (zbc (ycj 0 (by decide +kernel) (by decide +kernel) (by decide +kernel)))
theorem ygx:FnScope ["_law_script","_law_pen_here","_law_many","_law_machine_here","_law_b","_law_c","_law_words_here","_law_bits_here","_law_rows","_law_long","_law_some","_law_turn","_law_bent","_law_one","_law_row_here","_law_cut","_law_first","_law_word","_law_second"] ["_law_script"] (za6 (top bd 46)):=⟨rfl,rfl,rfl,by decide +kernel,rfl,by decide +kernel,by decide +kernel⟩
theorem ygy:List.Nodup (["_law_most","_law_pen_here","_law_machine_here"]:List Str):=by decide +kernel
noncomputable abbrev ygz:List Str:=["_law_script","_law_pen_here","_law_many","_law_machine_here","_law_b","_law_c","_law_words_here","_law_bits_here","_law_rows","_law_long","_law_some","_law_turn","_law_bent","_law_one","_law_row_here","_law_cut","_law_first","_law_word","_law_second"]
theorem yg0 {f:Addr}{fd:FuncData}(F:Fun K "law" "law" (top bd 46) f fd) (z_len:mg "len" = none) (z_range:mg "range" = none) (h_m_bit_run:Has P w K mg base "bit_run" 6 3 zeq) (h_m_law_take:Has P w K mg base "_law_take" 1 2 zbp) (h_m_law_runs:Has P w K mg base "_law_runs" 7 4 zhh) (h_m_bit_fault:Has P w K mg base "bit_fault" 7 3 zhk) (h_m_law_bent_bits:Has P w K mg base "_law_bent_bits" 3 2 zj0) (h_m_law_row:Has P w K mg base "_law_row" 2 3 zif) (h_m_law_made:Has P w K mg base "_law_made" 4 3 zj4) (h_m_law_words:Has P w K mg base "_law_words" 2 3 zj5) (h_m_law_bits:Has P w K mg base "_law_bits" 1 1 zf7) (h_m_law_machine:Has P w K mg base "_law_machine" 2 3 zj6) (h_m_law_pen:Has P w K mg base "_law_pen" 1 1 zj7):FnOk P w K mg base CX0 8 f fd ["_law_script"] (sp3 K 1 zgn):=by
 have sc:=ygx
 refine zqc (k:=7) F sc rfl fun cdv hcd A outer s H E hr=>?_
 exact zao (za5 1 sc.nd (za1 h_m_law_pen hr (by decide) rfl (zad (zab 0) (zah)) (zaj za0))) (zao (za5 2 sc.nd (zbf (zc4 (zad (zak) (zad (zak) (zad (zak) (zad (zak) (zad (zak) (zad (zak) (zad (zak) (zad (zak) (zah)))))))))) (za1 h_m_law_take hr (by decide) rfl (zad (zab 1) (zad (zak) (zah))) (zaj (zaj za0))))) (zao (za5 3 sc.nd (za1 h_m_law_machine hr (by decide) rfl (zad (zab 1) (zad (zab 2) (zad (zbf (zc4 (zad (zak) (zad (zak) (zad (zak) (zad (zak) (zad (zak) (zah))))))) (za1 h_m_law_take hr (by decide) rfl (zad (zab 1) (zad (zak) (zah))) (zaj (zaj za0)))) (zah)))) (zaj (zaj (zaj za0))))) (zao (zdu (za1 h_m_law_bits hr (by decide) rfl (zad (zab 3) (zah)) (zaj za0)) (zcv rfl (zbd (zaz 4 sc.nd) (zbd (zaz 5 sc.nd) (zcu))))) (zao (za5 6 sc.nd (za1 h_m_law_words hr (by decide) rfl (zad (zab 1) (zad (zab 2) (zad (zab 4) (zah)))) (zaj (zaj (zaj za0))))) (zao (za5 7 sc.nd (za1 h_m_law_made hr (by decide) rfl (zad (zab 1) (zad (zab 3) (zad (zab 6) (zah)))) (zaj (zaj (zaj za0))))) (zao (zkv 8 sc.nd (N':=["_law_most","_law_pen_here","_law_machine_here"]) (ixs:=[none,some 1,some 3]) rfl (zdo (scO:=za6 (top bd 46)) (NO:=ygz) rfl rfl (by decide +kernel)) (zfw (zc4 (zad (zak) (zad (zak) (zad (zak) (zad (zak) (zad (zak) (zah)))))))) (fun _ _ _ _ _=>zaz 0 ygy) (fun _ _ _ _ _=>zdw) (fun _ _ _ _ _=>za1 h_m_law_row hr (by decide) rfl (zad (zab 1) (zad (zab 2) (zad (zab 0) (zah)))) (zaj (zaj (zaj za0))))) (zao (za5 9 sc.nd (za1 h_m_law_row hr (by decide) rfl (zad (zab 1) (zad (zab 3) (zad (zak) (zah)))) (zaj (zaj (zaj za0))))) (zao (zbv (zew (zit (zft (za1 h_m_bit_fault hr (by decide) rfl (zad (zab 3) (zad (zab 6) (zad (zab 7) (zah)))) (zaj (zaj (zaj za0)))) (zdd)) (zis (ziu (zgf (za1 h_m_law_runs hr (by decide) rfl (zad (zab 3) (zad (zab 6) (zad (zab 7) (zad (zab 9) (zah))))) (zaj (zaj (zaj (zaj za0)))))))))) (zaw (zbc (zfg))) (zbu)) (zao (za5 10 sc.nd (zc4 (zad (zab 7) (zah)))) (zao (zg0 PassesOwn.never rfl rfl z_range (zad (zak) (zah)) (zaz 11 sc.nd) (zao (za5 12 sc.nd (za1 h_m_law_bent_bits hr (by decide) rfl (zad (zab 1) (zad (zab 7) (zah))) (zaj (zaj za0)))) (zaw (zbv (zp6 (za1 h_m_bit_fault hr (by decide) rfl (zad (zab 3) (zad (zab 6) (zad (zab 12) (zah)))) (zaj (zaj (zaj za0)))) (zdd)) (zaw (zej (zfu (zab 10) (zab 12)))) (zbu))))) (zao (zgz PassesOwn.never rfl (zab 10) (zaz 13 sc.nd) (zaw (zgz PassesOwn.never rfl (zab 8) (zaz 14 sc.nd) (zao (zbv (ziu (zgf (za1 h_m_law_runs hr (by decide) rfl (zad (zab 3) (zad (zab 6) (zad (zab 13) (zad (zab 14) (zah))))) (zaj (zaj (zaj (zaj za0))))))) (zaw (zbc (zfg))) (zbu)) (zao (za5 15 sc.nd (za1 h_m_law_take hr (by decide) rfl (zad (zab 1) (zad (zbi (zcw rfl z_len (zad (zab 14) (zah))) (zak)) (zah))) (zaj (zaj za0)))) (zao (zdu (za1 h_m_bit_run hr (by decide) rfl (zad (zab 13) (zad (zbf (zab 6) (zak)) (zad (zcx (zab 14) (zcs) (zct (zab 15))) (zah)))) (zaj (zaj (zaj za0)))) (zcv rfl (zbd (zaz 16 sc.nd) (zbd (zaz 17 sc.nd) (zcu))))) (zao (zdu (za1 h_m_bit_run hr (by decide) rfl (zad (zab 13) (zad (zab 17) (zad (zcx (zab 14) (zct (zab 15)) (zcs)) (zah)))) (zaj (zaj (zaj za0)))) (zcv rfl (zbd (zaz 18 sc.nd) (zbd (zaz 17 sc.nd) (zcu))))) (zaw (zbv (zqw hr (za1 h_m_bit_run hr (by decide) rfl (zad (zab 13) (zad (zbf (zab 6) (zak)) (zad (zab 14) (zah)))) (zaj (zaj (zaj za0)))) (zca (zad (zbi (zab 16) (zab 18)) (zad (zab 17) (zah))))) (zaw (zbc (zfg))) (zbu)))))))))) (zaw (zbc (zfg))))))))))))))
end
theorem all_mk {l:PySem.W.OpenLaw}{w:World}{K:QFg}{h:Heap}{mg:Str->Option Value}{fa:Addr}(X:K.In h) (G:h.Ns mainGlobals mg) (hfa:mg "law" = some (.ref fa))
  (a0:FI K "number_of" (top bd 27))
  (a1:FI K "bit_of" (top bd 2))
  (a2:FI K "bit_sign" (top bd 3))
  (a3:FI K "has" (top bd 1))
  (a4:FI K "says" (top bd 9))
  (a5:FI K "step" (top bd 26))
  (a6:FI K "bit_run" (top bd 28))
  (a7:FI K "_law_take" (top bd 33))
  (a8:FI K "run" (top bd 30))
  (a9:FI K "_law_runs" (top bd 45))
  (a10:FI K "first_lacked" (top bd 10))
  (a11:FI K "net_fault" (top bd 11))
  (a12:FI K "table_of" (top bd 22))
  (a13:FI K "bits_of" (top bd 18))
  (a14:FI K "is_below" (top bd 13))
  (a15:FI K "are_unlike_below" (top bd 14))
  (a16:FI K "is_words" (top bd 19))
  (a17:FI K "refuse_no_words" (top bd 20))
  (a18:FI K "tables" (top bd 21))
  (a19:FI K "has_counts" (top bd 25))
  (a20:FI K "bit_fault" (top bd 24))
  (a21:FI K "_law_bent_net" (top bd 42))
  (a22:FI K "_law_bent_bits" (top bd 43))
  (a23:FI K "_law_row" (top bd 44))
  (a24:FI K "_law_bits" (top bd 35))
  (a25:FI K "_law_tables" (top bd 37))
  (a26:FI K "_law_has" (top bd 38))
  (a27:FI K "_law_piece_for" (top bd 39))
  (a28:FI K "_law_net" (top bd 40))
  (a29:FI K "_law_made" (top bd 41))
  (a30:FI K "_law_words" (top bd 36))
  (a31:FI K "_law_machine" (top bd 34))
  (a32:FI K "_law_pen" (top bd 32))
  (a33:FI K "law" (top bd 46))
  (z_sum:PySem.W.nsIn K mainGlobals "sum" = some none)
  (z_enumerate:PySem.W.nsIn K mainGlobals "enumerate" = some none)
  (z_str:PySem.W.nsIn K mainGlobals "str" = some none)
  (z_all:PySem.W.nsIn K mainGlobals "all" = some none)
  (z_any:PySem.W.nsIn K mainGlobals "any" = some none)
  (z_len:PySem.W.nsIn K mainGlobals "len" = some none)
  (z_abs:PySem.W.nsIn K mainGlobals "abs" = some none)
  (z_range:PySem.W.nsIn K mainGlobals "range" = some none)
  (z_tuple:PySem.W.nsIn K mainGlobals "tuple" = some none)
  (z_sorted:PySem.W.nsIn K mainGlobals "sorted" = some none)
  (z_max:PySem.W.nsIn K mainGlobals "max" = some none)
  (z_isinstance:PySem.W.nsIn K mainGlobals "isinstance" = some none)
  (z_int:PySem.W.nsIn K mainGlobals "int" = some none)
  (z_bool:PySem.W.nsIn K mainGlobals "bool" = some none)
  (z_set:PySem.W.nsIn K mainGlobals "set" = some none)
  (z_zip:PySem.W.nsIn K mainGlobals "zip" = some none)
  (z_list:PySem.W.nsIn K mainGlobals "list" = some none)
  {t_MOST_WITH_WORDS:Tok} (c_MOST_WITH_WORDS:PySem.W.nsIn K mainGlobals "MOST_WITH_WORDS" = some (some (.int 8 t_MOST_WITH_WORDS)))
  {t_ANSWER_BITS:Tok} (c_ANSWER_BITS:PySem.W.nsIn K mainGlobals "ANSWER_BITS" = some (some (.int 3 t_ANSWER_BITS))) :
  ∃fd:FuncData,(∀(s:Shared) (v:Value),BindsTo s fd ⟨[v],[]⟩ [("_law_script",v)])/\∀base:Heap,K.In base->base.Ns mainGlobals mg->FnOk l.prog w K mg base CX0 8 fa fd ["_law_script"] (sp3 K 1 zgn):=by
 have y_sum:=PySem.W.mg_none_of X G z_sum
 have y_enumerate:=PySem.W.mg_none_of X G z_enumerate
 have y_str:=PySem.W.mg_none_of X G z_str
 have y_all:=PySem.W.mg_none_of X G z_all
 have y_any:=PySem.W.mg_none_of X G z_any
 have y_len:=PySem.W.mg_none_of X G z_len
 have y_abs:=PySem.W.mg_none_of X G z_abs
 have y_range:=PySem.W.mg_none_of X G z_range
 have y_tuple:=PySem.W.mg_none_of X G z_tuple
 have y_sorted:=PySem.W.mg_none_of X G z_sorted
 have y_max:=PySem.W.mg_none_of X G z_max
 have y_isinstance:=PySem.W.mg_none_of X G z_isinstance
 have y_int:=PySem.W.mg_none_of X G z_int
 have y_bool:=PySem.W.mg_none_of X G z_bool
 have y_set:=PySem.W.mg_none_of X G z_set
 have y_zip:=PySem.W.mg_none_of X G z_zip
 have y_list:=PySem.W.mg_none_of X G z_list
 have y_MOST_WITH_WORDS:∃t,mg "MOST_WITH_WORDS" = some (.int 8 t):=⟨_,PySem.W.mg_of X G c_MOST_WITH_WORDS⟩
 have y_ANSWER_BITS:∃t,mg "ANSWER_BITS" = some (.int 3 t):=⟨_,PySem.W.mg_of X G c_ANSWER_BITS⟩
 have F0:=a0.ok X G
 have F1:=a1.ok X G
 have F2:=a2.ok X G
 have F3:=a3.ok X G
 have F4:=a4.ok X G
 have F5:=a5.ok X G
 have F6:=a6.ok X G
 have F7:=a7.ok X G
 have F8:=a8.ok X G
 have F9:=a9.ok X G
 have F10:=a10.ok X G
 have F11:=a11.ok X G
 have F12:=a12.ok X G
 have F13:=a13.ok X G
 have F14:=a14.ok X G
 have F15:=a15.ok X G
 have F16:=a16.ok X G
 have F17:=a17.ok X G
 have F18:=a18.ok X G
 have F19:=a19.ok X G
 have F20:=a20.ok X G
 have F21:=a21.ok X G
 have F22:=a22.ok X G
 have F23:=a23.ok X G
 have F24:=a24.ok X G
 have F25:=a25.ok X G
 have F26:=a26.ok X G
 have F27:=a27.ok X G
 have F28:=a28.ok X G
 have F29:=a29.ok X G
 have F30:=a30.ok X G
 have F31:=a31.ok X G
 have F32:=a32.ok X G
 have F33:=a33.ok X G
 obtain @⟨fL,fdL,FL,mL,_⟩:=F33
 have e:=hfa.symm.trans mL
 cases e
 refine ⟨fdL,fun s v=>by obtain ⟨_,_,_,_,_,_,_,_,_,rfl,_⟩:=FL.ex;exact .of_eq rfl,fun base _ _=>?_⟩
 have t:∀{x k n m},Has l.prog w K mg base x k n m->Has l.prog w K mg base x k n m:=id
 have g0:=t (h_m_number_of F0 y_sum y_enumerate)
 have g1:=t (h_m_bit_of F1 )
 have g2:=t (h_m_bit_sign F2 y_str g1)
 have g3:=t (h_m_has F3 y_all y_enumerate g2)
 have g4:=t (h_m_says F4 y_any g3)
 have g5:=t (h_m_step F5 g0 g4)
 have g6:=t (h_m_bit_run F6 g5)
 have g7:=t (h_m_law_take F7 y_len y_abs)
 have g8:=t (h_m_run F8 )
 have g9:=t (h_m_law_runs F9 y_range y_len g6 g8)
 have g10:=t (h_m_first_lacked F10 g4)
 have g11:=t (h_m_net_fault F11 y_enumerate g3 g10)
 have g12:=t (h_m_table_of F12 y_tuple y_sorted g1)
 have g13:=t (h_m_bits_of F13 y_max y_len y_MOST_WITH_WORDS)
 have g14:=t (h_m_is_below F14 y_isinstance y_int y_bool)
 have g15:=t (h_m_are_unlike_below F15 y_all y_len y_set y_isinstance y_tuple g14)
 have g16:=t (h_m_is_words F16 y_len g15 g13)
 have g17:=t (h_m_refuse_no_words F17 g16)
 have g18:=t (h_m_tables F18 y_range y_enumerate y_zip y_ANSWER_BITS g12 g13 g17)
 have g19:=t (h_m_has_counts F19 y_all y_len y_ANSWER_BITS)
 have g20:=t (h_m_bit_fault F20 y_enumerate g11 g18 g19 g13 g17)
 have g21:=t (h_m_law_bent_net F21 y_len y_range g7)
 have g22:=t (h_m_law_bent_bits F22 y_len g7 g21)
 have g23:=t (h_m_law_row F23 y_tuple y_len g7)
 have g24:=t (h_m_law_bits F24 y_len)
 have g25:=t (h_m_law_tables F25 y_tuple y_range g24)
 have g26:=t (h_m_law_has F26 y_int y_enumerate)
 have g27:=t (h_m_law_piece_for F27 y_range y_str g26 g7)
 have g28:=t (h_m_law_net F28 y_tuple y_len g7 g27)
 have g29:=t (h_m_law_made F29 y_tuple g25 g28 g24)
 have g30:=t (h_m_law_words F30 y_tuple y_range y_len y_list g7)
 have g31:=t (h_m_law_machine F31 y_tuple y_range g7)
 have g32:=t (h_m_law_pen F32 )
 exact yg0 FL y_len y_range g6 g7 g9 g20 g22 g23 g29 g30 g24 g31 g32
theorem walk {l:PySem.W.OpenLaw}{q:Program}{loose:List Str}{XP:(Str->Option Value)->Heap->Prop}{YP:World->Heap->Prop}{d:DefRec}{K:Params->QFg}(hn:l.most=some 63) (hdf:d.params.defaults=[])
  (hY:∀(w:World) (h:Heap),YP w h->(K w.params).In h)
  (F:∀(w:World) (mg:Str->Option Value) (fa:Addr) (h:Heap),(K w.params).In h->h.Ns mainGlobals mg->mg d.name=some (.ref fa) ->
   ∃fd:FuncData,(∀(s:Shared) (u:Value),BindsTo s fd ⟨[u],[]⟩ [("_law_script",u)])/\∀base:Heap,(K w.params).In base->base.Ns mainGlobals mg->FnOk l.prog w (K w.params) mg base CX0 8 fa fd ["_law_script"] (sp3 (K w.params) 1 zgn))
  (hlaw:∀ns:List Int,ns.length<=63->∃S',zgn [.ref 0] [.flst (ns.map D.int)]=some (.bl true,S')) :
  PySem.W.WalkO q loose XP YP l.row.toRowW d [] (fun f vs=>PySem.call f vs) :=
 L2.walk_of (n:=63) (k:=8) (x:="_law_script") (CX:=fun _=>CX0) (sp:=fun w=>sp3 (K w.params) 1 zgn) hn (by decide) hdf ⟨rfl,by decide,by decide,rfl⟩ hY F (fun _ _ a ns hl hO hS=>ya0 hO hS (hlaw ns hl)) fun _ _ _ _ _ z=>z
end G
end
theorem qg0 {α:Type}{a:α}{l:List α}:(a :: l)[0]? = some a:=rfl
theorem qg1 {α:Type}{a:α}{i:Nat}{l:List α}:(a :: l)[i+1]? = l[i]?:=rfl
theorem qs0 {α:Type}{a b:α}{l:List α}:(a :: l).set 0 b=b :: l:=rfl
theorem qs1 {α:Type}{a b:α}{n:Nat}{l:List α}:(a :: l).set (n+1) b=a :: l.set n b:=rfl
theorem qlt {α:Type}{l:List α}{i:Nat}{a:α}(h:l[i]? = some a):i<l.length:=(List.getElem?_eq_some_iff.mp h).1
namespace M
open PySem L3 G
noncomputable def pen (a r:Int):List (L2.Key × D):=[(Sum.inr "cells",.ref 0),(Sum.inr "at",.int a),(Sum.inr "left",.int r)]
noncomputable def St (ns:List Int) (a r:Int) (rest:Sto):Sto:=.flst (ns.map .int) :: .dct (pen a r) :: rest
section
variable {ns:List Int}{a r x:Int}{rest:Sto}{o:Ob}{k:Nat}{Q:D->Sto->Prop}
theorem zlk:lstOf (St ns a r rest) 0=some (ns.map .int):=rfl
theorem ztx:(St ns a r rest).length=rest.length+2:=rfl
theorem zty:Wo (zdk (.ref 1) (.str "left") (St ns a r rest)) Q=Q (.int r) (St ns a r rest):=by
 have:zdk (.ref 1) (.str "left") (St ns a r rest)=some (.int r,St ns a r rest):=by with_unfolding_all rfl
 rw [this];exact zbh
theorem yg1:Wo (zdk (.ref 1) (.str "at") (St ns a r rest)) Q=Q (.int a) (St ns a r rest):=by
 have:zdk (.ref 1) (.str "at") (St ns a r rest)=some (.int a,St ns a r rest):=by with_unfolding_all rfl
 rw [this];exact zbh
theorem zll:Wo (zdk (.ref 1) (.str "cells") (St ns a r rest)) Q=Q (.ref 0) (St ns a r rest):=by
 have:zdk (.ref 1) (.str "cells") (St ns a r rest)=some (.ref 0,St ns a r rest):=by with_unfolding_all rfl
 rw [this];exact zbh
theorem zlm:zi8 (.ref 1) (.str "left") (.int x) (St ns a r rest)=some (St ns a x rest):=by with_unfolding_all rfl
theorem yg2:zi8 (.ref 1) (.str "at") (.int x) (St ns a r rest)=some (St ns x r rest):=by with_unfolding_all rfl
end
noncomputable abbrev ztz:List D:=[.int 2147483647,.int 2147483629,.int 2147483587,.int 2147483579,.int 2147483563,.int 2147483549,.int 2147483543]
theorem yg3 (i:Int) (h0:0<=i) (h1:i<7):∃p,L2.atI ztz i=some (.int p)/\0<p/\p<2147483648:=by
 have:i=0∨i=1∨i=2∨i=3∨i=4∨i=5∨i=6:=by omega
 rcases this with rfl|rfl|rfl|rfl|rfl|rfl|rfl <;> exact ⟨_,rfl,by decide,by decide⟩
local macro_rules
 | `(tactic| simp! only [$xs,*])=>`(tactic| simp only [zb5,zci,zbj,zbe,zax,ya1,zal,zas,za8,zb4,zd4,zby,zav,zc7,zc8,zc9,ye7,zat,zen,znt,zar,zaq,ze0,zg2,zi4,zql,zqm,ya2,zqn,ze2,zhy,zc6,zgm,zec,zd9,zea,zeb,zfo,ye4,zqo,zqp,zd0,zd8,znr,zqq,zqr,ze6,zhc,zsb,ya3,zda,ze3,zi5,zdb,ye5,zm3,zh9,zkw,zdx,zsc,zsd,ye8,zse,List.map_cons,List.map_nil,List.length_cons,List.length_nil,Nat.reduceAdd,Nat.reduceSub,List.replicate,List.cons_append,List.nil_append,qg0,qg1,qs0,qs1,zan,zbl,zbb,ye0,ye1,ye2,yey,yez,zdp,decide_eq_true_eq,znx,$xs,*])
theorem yg4 (at' p m c:Int) (ha:0<=at') (hb:at' < 1000000000) (pa:0<p) (pb:p<2147483648) (hm:0<m) (hm2:m<1073741824) (l0:Lo) (S:Sto) (ns:List Int) (r:Int) (x2:Option D)
  (hp:L2.atI ztz (at' % 7)=some (.int p)) :
  Ws (zam (zap (eOp za4 (zag zbs (zac (eC (.int 2147483647)) (zac (eC (.int 2147483629)) (zac (eC (.int 2147483587)) (zac (eC (.int 2147483579)) (zac (eC (.int 2147483563)) (zac (eC (.int 2147483549)) (zac (eC (.int 2147483543)) (zaf))))))))) (eOp zcr (zaa 3) (eC (.int 7)))) (zai 5)) (zam (zap (eOp zcr (eOp zgi (eOp za3 (eOp za3 (eOp zcr (zaa 4) (eC (.int 2147483497))) (eOp zeo (eC (.int 69621)) (zaa 3))) (eC (.int 7))) (eC (.int 3))) (zaa 5)) (zai 6)) (zam (zap (eOp zcr (eOp zgi (eOp za3 (eOp zeo (zaa 6) (eOp za3 (zaa 3) (eC (.int 3)))) (eC (.int 11))) (eC (.int 5))) (eC (.int 2147483489))) (zai 6)) (za9 (eOp zcr (eOp zex (zaa 6) (eC (.int 13))) (zaa 1))))))
   [some (.ref 1),some (.int m),x2,some (.int at'),some (.int c),none,none] S fun f _ S'=>∃d,f=.rt (.int d)/\0<=d/\d<m/\S' = S:=by
 have q1:0<=c % 2147483497:=Int.emod_nonneg _ (by omega)
 have q2:c % 2147483497<2147483497:=Int.emod_lt_of_pos _ (by omega)
 refine zau (fun l S'=>l=[some (.ref 1),some (.int m),x2,some (.int at'),some (.int c),some (.int p),none]/\S' = S) ?_ ?_
 ·have sz:7<=sizeLine:=by decide
  have f7:(0:Int)<7:=by decide
  simp! only [f7,sz,hp,true_and,and_self]
 rintro l S' ⟨rfl,rfl⟩
 refine zau (fun l S1=>∃n,l=[some (.ref 1),some (.int m),x2,some (.int at'),some (.int c),some (.int p),some (.int n)]/\0<=n/\n<p/\S1=S') ?_ ?_
 ·have f0:(0:Int)<2147483497:=by decide
  have f1:(-2 ^ 64:Int)<69621/\(69621:Int)<2 ^ 64:=by decide
  have f2:(0:Int)<=3/\(3:Int)<=1000000/\(c % 2147483497+69621*at' + 7).natAbs<2 ^ 64:=⟨by decide,by decide,by omega⟩
  simp! only [f0,f1,f2,pa,true_and,and_self,true_or]
  exact ⟨_,rfl,Int.emod_nonneg _ (by omega),Int.emod_lt_of_pos _ pa,by first|rfl|trivial⟩
 rintro l S1 ⟨n,rfl,n0,n1,rfl⟩
 refine zau (fun l S2=>∃k,l=[some (.ref 1),some (.int m),x2,some (.int at'),some (.int c),some (.int p),some (.int k)]/\S2=S1) ?_ ?_
 ·have f0:(0:Int)<2147483489:=by decide
  have f1:(-2 ^ 64:Int)<n/\n<2 ^ 64:=by omega
  have hmul:n*(at' + 3)<=2147483648*1000000003:=Int.mul_le_mul (by omega) (by omega) (by omega) (by omega)
  have hpos:0<=n*(at' + 3):=Int.mul_nonneg n0 (by omega)
  have f2:(0:Int)<=5/\(5:Int)<=1000000/\(n*(at' + 3)+11).natAbs<2 ^ 64:=⟨by decide,by decide,by omega⟩
  simp! only [f0,f1,f2,true_and,and_self,true_or]
  exact ⟨_,rfl,by first|rfl|trivial⟩
 rintro l S2 ⟨k,rfl,rfl⟩
 have f6:(0:Int)<13/\(13:Int)<1073741824:=by decide
 simp! only [f6,hm,true_and,and_self]
 exact ⟨_,rfl,Int.emod_nonneg _ (by omega),Int.emod_lt_of_pos _ hm,by first|rfl|trivial⟩
theorem yg5 (ns:List Int) (at' r m:Int) (rest:Sto) (ha:0<=at') (hb:at' < 1000000000) (hr:0<=r) (hm:0<m) (hm2:m<1073741824) :
  Wo (zbp [.ref 1,.int m] (St ns at' r rest)) fun v S=>∃d at2 r2,v=.int d/\0<=d/\d<m/\S=St ns at2 r2 rest/\0<=at2/\at2<=at' + 1/\0<=r2:=by
 obtain ⟨p,hp,pa,pb⟩:=yg3 (at' % 7) (by omega) (by omega)
 unfold zbp zsy
 simp only [zb5,List.map_cons,List.map_nil,List.length_cons,List.length_nil,Nat.reduceAdd,Nat.reduceSub,List.replicate,List.cons_append,List.nil_append]
 rw [zci]
 by_cases hr0:0<r
 ·simp! only [zty,zlm,hr0,hm,hm2,if_true,true_and,and_self]
  exact ⟨_,at',r / m,rfl,Int.emod_nonneg _ (by omega),Int.emod_lt_of_pos _ hm,rfl,ha,by omega,Int.ediv_nonneg hr (by omega)⟩
 have r0:r=0:=by omega
 subst r0
 simp only [zbj,zbe,zax,zal,zas,zty,ze2,zan,zbb,qg0,hr0,decide_false,Bool.false_eq_true,if_false,zby]
 refine zau (fun l S=>l=[some (.ref 1),some (.int m),none,some (.int at'),none,none,none]/\S=St ns at' 0 rest) (by simp! only [yg1,and_self]) ?_
 rintro l S ⟨rfl,rfl⟩
 refine zau (fun l S=>l=[some (.ref 1),some (.int m),none,some (.int at'),none,none,none]/\S=St ns (at' + 1) 0 rest) (by simp! only [yg2,and_self]) ?_
 rintro l S ⟨rfl,rfl⟩
 refine zau (fun l S=>∃c,l=[some (.ref 1),some (.int m),none,some (.int at'),some (.int c),none,none]/\S=St ns (at' + 1) 0 rest) ?_ ?_
 ·have f1:(-2 ^ 64:Int)<977/\(977:Int)<2 ^ 64:=by decide
  have f2:(-2 ^ 64:Int)<at'/\at' < 2 ^ 64:=by omega
  simp! only [f1,f2,true_and,and_self,true_or,or_true]
  exact ⟨_,rfl,by first|rfl|trivial⟩
 rintro l S ⟨c,rfl,rfl⟩
 rw [zci]
 have fin:∀c',Ws (zam (zap (eOp za4 (zag zbs (zac (eC (.int 2147483647)) (zac (eC (.int 2147483629)) (zac (eC (.int 2147483587)) (zac (eC (.int 2147483579)) (zac (eC (.int 2147483563)) (zac (eC (.int 2147483549)) (zac (eC (.int 2147483543)) (zaf))))))))) (eOp zcr (zaa 3) (eC (.int 7)))) (zai 5)) (zam (zap (eOp zcr (eOp zgi (eOp za3 (eOp za3 (eOp zcr (zaa 4) (eC (.int 2147483497))) (eOp zeo (eC (.int 69621)) (zaa 3))) (eC (.int 7))) (eC (.int 3))) (zaa 5)) (zai 6)) (zam (zap (eOp zcr (eOp zgi (eOp za3 (eOp zeo (zaa 6) (eOp za3 (zaa 3) (eC (.int 3)))) (eC (.int 11))) (eC (.int 5))) (eC (.int 2147483489))) (zai 6)) (za9 (eOp zcr (eOp zex (zaa 6) (eC (.int 13))) (zaa 1))))))
   [some (.ref 1),some (.int m),none,some (.int at'),some (.int c'),none,none] (St ns (at' + 1) 0 rest) fun f x S'=>match f with
    | .rt d=>∃d1 at2 r2,d=.int d1/\0<=d1/\d1<m/\S' = St ns at2 r2 rest/\0<=at2/\at2<=at' + 1/\0<=r2
    | .nx=>∃d1 at2 r2,D.non=.int d1/\0<=d1/\d1<m/\S' = St ns at2 r2 rest/\0<=at2/\at2<=at' + 1/\0<=r2
    | _=>False:=fun c'=>(yg4 at' p m c' ha hb pa pb hm hm2 [] _ ns 0 none hp).mono (by
  rintro f l S ⟨d,rfl,d0,d1,rfl⟩
  exact ⟨d,at' + 1,0,rfl,d0,d1,rfl,by omega,by omega,by omega⟩)
 refine Wr.mono (Q:=fun f l1 S1=>(f=.nx/\∃c',l1=[some (.ref 1),some (.int m),none,some (.int at'),some (.int c'),none,none]/\S1=St ns (at' + 1) 0 rest)∨∃d1 at2 r2,f=.rt (.int d1)/\0<=d1/\d1<m/\S1=St ns at2 r2 rest/\0<=at2/\at2<=at' + 1/\0<=r2) ?_ ?_
 ·by_cases hl:0<(ns.length:Int)
  ·obtain ⟨x,h1,h2⟩:=ye3 (ns.map D.int) (at' % (ns.length:Int)) (Int.emod_nonneg _ (by omega)) (by rw [qlm];exact Int.emod_lt_of_pos _ hl)
   obtain ⟨c2,_,rfl⟩:=List.mem_map.mp h2
   have f5:(0:Int)<=18/\(18:Int)<=1000000/\Int.natAbs 10<2 ^ 64:=by decide
   by_cases hbig:at' < (ns.length:Int)
   ·by_cases hc:10 ^ Int.toNat 18<=(if c2<0 then -c2 else c2)
    ·simp! only [zll,zlk,zlm,hl,h1,hbig,hc,qlm,hm,hm2,if_true,if_false,true_and,and_self,f5]
     exact .inr ⟨_,at' + 1,_,rfl,Int.emod_nonneg _ (by omega),Int.emod_lt_of_pos _ hm,rfl,by omega,by omega,Int.ediv_nonneg (by split <;> omega) (by omega)⟩
    ·simp! only [zll,zlk,zlm,hl,h1,hbig,hc,qlm,hm,hm2,if_true,if_false,true_and,and_self,f5]
     exact .inl ⟨_,rfl,(by first|rfl|trivial)⟩
   ·simp! only [zll,zlk,zlm,hl,h1,hbig,qlm,hm,hm2,if_true,if_false,true_and,and_self,f5,decide_false,Bool.false_eq_true]
    exact .inl ⟨_,rfl,(by first|rfl|trivial)⟩
  ·simp! only [zll,zlk,hl,qlm,if_true,if_false,true_and,and_self,decide_false,Bool.false_eq_true]
   exact .inl ⟨_,rfl,(by first|rfl|trivial)⟩
 ·rintro f l S (⟨rfl,c',rfl,rfl⟩|⟨d1,at2,r2,rfl,d0,d1,rfl,q1,q2,q3⟩)
  ·exact fin c'
  ·exact ⟨_,at2,r2,rfl,d0,d1,rfl,q1,q2,q3⟩
noncomputable def Pn (ns:List Int) (k:Int) (S:Sto):Prop:=∃at2 r2 rest,S=St ns at2 r2 rest/\0<=at2/\at2<=k/\0<=r2
noncomputable def Fr (S S':Sto):Prop:=∀(n:Nat) (o:Ob),n≠1->S[n]? = some o->S'[n]? = some o
theorem Fr.refl (S:Sto):Fr S S:=fun _ _ _ h=>h
theorem Fr.trans {A B C:Sto}(h:Fr A B) (g:Fr B C):Fr A C:=fun n o hn e=>g n o hn (h n o hn e)
theorem Fr.of {A B:Sto}(h:Gr A B):Fr A B:=fun _ _ _ e=>h.get e
theorem Fr.lst {A B:Sto}{n:Nat}{xs:List D}(h:Fr A B) (hn:n≠1) (e:lstOf A n=some xs):lstOf B n=some xs:=by
 unfold lstOf at e ⊢
 cases q:A[n]? with
 | none=>rw [q] at e;cases e
 | some o=>rw [h n o hn q];rw [q] at e;exact e
theorem zcn (ns:List Int) (S:Sto) (k m:Int) (h:Pn ns k S) (hk:k<1000000000) (hm:0<m) (hm2:m<1073741824) :
  Wo (zbp [.ref 1,.int m] S) fun v S'=>(∃d:Nat,v=.int d/\(d:Int)<m)/\Pn ns (k+1) S'/\Fr S S':=by
 obtain ⟨a,r,rest,rfl,h1,h2,h3⟩:=h
 refine (yg5 ns a r m rest h1 (by omega) h3 hm hm2).mono ?_
 rintro v S' ⟨d,a2,r2,rfl,q1,q2,rfl,q3,q4,q5⟩
 refine ⟨⟨d.toNat,by rw [Int.toNat_of_nonneg q1],by omega⟩,⟨a2,r2,rest,rfl,q3,by omega,q5⟩,fun n o hn e=>?_⟩
 match n,hn with
 | 0,_=>exact e
 | n+2,_=>exact e
theorem Pn.mono {ns:List Int}{k k':Int}{S:Sto}(h:Pn ns k S) (hk:k<=k'):Pn ns k' S:=by
 obtain ⟨a,r,ex,e,h1,h2,h3⟩:=h
 exact ⟨a,r,ex,e,h1,by omega,h3⟩
theorem Pn.gr {ns:List Int}{k:Int}{S S':Sto}(h:Pn ns k S) (g:Gr S S'):Pn ns k S':=by
 obtain ⟨a,r,rest,rfl,h1,h2,h3⟩:=h
 obtain ⟨ex',rfl⟩:=g
 exact ⟨a,r,rest++ex',rfl,h1,h2,h3⟩
theorem Pn.push {ns:List Int}{k:Int}{S:Sto}(h:Pn ns k S) (o:Ob):Pn ns k (S++[o]):=h.gr ⟨[o],rfl⟩
theorem Pn.len {ns:List Int}{k:Int}{S:Sto}(h:Pn ns k S):S.length≠1:=by
 obtain ⟨a,r,rest,rfl,h1,h2,h3⟩:=h
 rw [ztx];omega
theorem Pn.kept {ns:List Int}{k:Int}{S S':Sto}{xs:List D}(h:Pn ns k S) (f:Fr (S++[.lst xs]) S'):lstOf S' S.length=some xs:=f.lst h.len zdp
theorem yg6 (ns:List Int):Wo (zj7 [.ref 0] [.flst (ns.map D.int)]) fun v S=>v=.ref 1/\Pn ns 0 S:=by
 unfold zj7 ztn
 simp only [zb5,List.map_cons,List.map_nil,List.length_cons,List.length_nil,Nat.reduceAdd,Nat.reduceSub,List.replicate,List.cons_append,List.nil_append,zb4]
 exact ⟨_,_,rfl,rfl,0,0,[],rfl,by decide,by decide,by decide⟩
noncomputable def bt (p k:Nat):Nat:=p / 2 ^ k % 2
theorem yg7 (p k:Nat):bt p k<2:=Nat.mod_lt _ (by decide)
theorem zt0 (p k:Nat):((bt p k:Nat):Int)=(p:Int) / 2 ^ k % 2:=by unfold bt;push_cast;rfl
noncomputable def bs (p k:Nat):Str:=toString (bt p k:Int)
theorem zf8 (p k:Nat):bt p k=0∨bt p k=1:=by have:=yg7 p k;omega
theorem zih {p k:Nat}(h:bt p k=0):bs p k = "0":=by unfold bs;rw [h];decide +kernel
theorem zii {p k:Nat}(h:bt p k=1):bs p k = "1":=by unfold bs;rw [h];decide +kernel
theorem yg8 (p k:Nat):bs p k≠("-":Str):=by
 rcases zf8 p k with h|h
 ·rw [zih h];decide +kernel
 ·rw [zii h];decide +kernel
theorem s01:("0":Str)≠("1":Str):=by decide +kernel
theorem bs_inj {p q k j:Nat}:bs p k=bs q j↔bt p k=bt q j:=by
 constructor
 ·intro h
  rcases zf8 p k with h1|h1 <;> rcases zf8 q j with h2|h2
  ·rw [h1,h2]
  ·rw [zih h1,zii h2] at h;exact absurd h s01
  ·rw [zii h1,zih h2] at h;exact absurd h.symm s01
  ·rw [h1,h2]
 ·intro h;unfold bs;rw [h]
theorem zt1 (p k:Nat):((bt p k:Nat):Int).natAbs.log2<1920:=by
 rcases zf8 p k with h|h <;> rw [h] <;> decide
section
variable {p k:Nat}{S:Sto}{Q:D->Sto->Prop}
theorem zt2:Wo (zf6 [.int p,.int k] S) Q=Q (.int (bt p k)) S:=by
 have h:(0:Int)<=k:=by omega
 unfold zf6 zss
 simp! only [h,true_and,Int.toNat_natCast,PyProof.Rows.bitAnd_m1,zt0]
theorem yg9:Wo (zjr [.int p,.int k] S) Q=Q (.str (bs p k)) S:=by
 unfold zjr zst
 simp! only [zt2,zt1,true_and]
 rfl
end
noncomputable def zer (p:Nat):D->D
 | .tup [.int k,.str c]=>.bl (decide (c = "-") || decide (c=bs p k.toNat))
 | _=>.non
noncomputable def zbg (z:Str) (p:Nat):Bool:=((enl (sgn z)).map (zer p)).all isT
theorem znz {xs:List D}{x:D}(h:x∈enl xs):∃(i:Nat) (y:D),x=.tup [.int i,y]/\xs[i]? = some y:=by
 obtain ⟨i,hi⟩:=List.getElem?_of_mem h
 rw [zfn] at hi
 cases e:xs[i]? with
 | none=>rw [e] at hi;cases hi
 | some y=>rw [e] at hi;cases hi;exact ⟨i,y,rfl,e⟩
theorem zn0 {z:Str}{i:Nat}{y:D}(h:(sgn z)[i]? = some y):∃c,y=.str ⟨#[c]⟩/\z.cps.toList[i]? = some c:=by
 unfold sgn at h
 rw [qgm] at h
 cases e:z.cps.toList[i]? with
 | none=>rw [e] at h;cases h
 | some c=>rw [e] at h;cases h;exact ⟨c,rfl,rfl⟩
theorem zt3 (p:Nat):∀xs:List D,(∀x∈xs,∃(i:Nat) (c:Str),x=.tup [.int i,.str c])->(xs.map (zer p)).all zep=true
 | [],_=>rfl
 | x :: xs,h=>by
  obtain ⟨i,c,rfl⟩:=h x List.mem_cons_self
  rw [List.map_cons,List.all_cons,zt3 p xs fun y hy=>h y (List.mem_cons_of_mem _ hy)]
  rfl
theorem zt4 (z:Str) (p:Nat) (S:Sto) (hz:z.cps.size<=1000):Wo (zhf [.str z,.int p] S) fun v S'=>v=.bl (zbg z p)/\Gr S S':=by
 unfold zhf zsu
 simp only [zb5,List.map_cons,List.map_nil,List.length_cons,List.length_nil,Nat.reduceAdd,Nat.reduceSub,List.replicate,List.cons_append,List.nil_append,zb4,zat,zar,zaq]
 have hs:(1000:Nat)<=sizeLine:=by decide
 have hm:∀x∈enl (sgn z),∃(i:Nat) (c:Str),x=.tup [.int i,.str c]:=fun x hx=>by
  obtain ⟨i,y,rfl,hy⟩:=znz hx
  obtain ⟨c,rfl,_⟩:=zn0 hy
  exact ⟨i,_,rfl⟩
 refine zhd (enl (sgn z)) (zer p) (Gr S) (fun l=>∃y0 y1,l=[y0,y1,some (.int p)]) (zsh rfl) (Gr.refl S) ⟨_,_,rfl⟩ (fun i S _=>zli) (by rw [zf4,zk9];omega) ?_ ?_
 ·rintro x l S1 hx ⟨y0,y1,rfl⟩ hp
  obtain ⟨i,c,rfl⟩:=hm x hx
  simp only [zc7,zc9,zav,zc8,List.length_cons,List.length_nil,Nat.reduceAdd,qs0,qs1,true_and]
  refine ⟨hp,⟨_,_,rfl⟩,?_⟩
  simp! only [yg9,zer,Int.toNat_natCast]
  by_cases hc:c = "-"
  ·simp only [hc,decide_true,if_true,Bool.true_or,true_and];exact hp
  ·simp only [hc,decide_false,Bool.false_eq_true,if_false,Bool.false_or,true_and];exact hp
 ·intro S' hg
  rw [zns]
  refine ⟨_,zdp,zt3 p _ hm,rfl,hg.push _⟩
theorem zn1 (z:Str) (p:Nat):zbg z p=true↔∀(i:Nat) c,z.cps.toList[i]? = some c->(⟨#[c]⟩:Str) = "-"∨(⟨#[c]⟩:Str)=bs p i:=by
 unfold zbg
 rw [List.all_eq_true]
 constructor
 ·intro h i c hc
  have hm:zer p (.tup [.int i,.str ⟨#[c]⟩])∈(enl (sgn z)).map (zer p):=by
   refine List.mem_map_of_mem ?_
   refine qmg (i:=i) ?_
   rw [zfn];unfold sgn;rw [qgm,hc];rfl
  have:=h _ hm
  simp only [zer,isT,Bool.or_eq_true,decide_eq_true_eq,Int.toNat_natCast] at this
  exact this
 ·intro h d hd
  obtain ⟨x,hx,rfl⟩:=List.mem_map.mp hd
  obtain ⟨i,y,rfl,hy⟩:=znz hx
  obtain ⟨c,rfl,hc⟩:=zn0 hy
  simp only [zer,isT,Bool.or_eq_true,decide_eq_true_eq,Int.toNat_natCast]
  exact h i c hc
theorem zt5 {e:EM}{l:Lo}{S S1:Sto}{v:Nat}(h:e l S=some (.int (v:Int),S1)) (hv:v<=1000000):eOp zdj (eC (.int 1)) e l S=some (.int ((2 ^ v:Nat):Int),S1):=by
 unfold eOp eC;simp only [Option.bind_some];rw [h];simp only [Option.bind_some]
 unfold zdj oI
 have:decide ((0:Int)<=v/\(v:Int)<=1000000/\Int.natAbs 1<2 ^ 64)=true:=decide_eq_true ⟨by omega,by omega,by decide⟩
 simp only [this,if_true,Int.one_mul,Int.toNat_natCast]
 push_cast;rfl
theorem as1 {e:EM}{l:Lo}{S S1:Sto}{x:D}(h:e l S=some (x,S1)):zac e zaf l S=some ([x],S1):=by
 unfold zac;rw [h];rfl
theorem zhl {v:Nat}{S:Sto}{Q:D->Sto->Prop}(hv:v<=1000000):Wo (zdj (.int 1) (.int v) S) Q=Q (.int ((2 ^ v:Nat):Int)) S:=by
 have:decide ((0:Int)<=v/\(v:Int)<=1000000/\Int.natAbs 1<2 ^ 64)=true:=decide_eq_true ⟨by omega,by omega,by decide⟩
 unfold zdj
 rw [zhy]
 simp only [this,true_and,Int.one_mul,Int.toNat_natCast]
 push_cast;rfl
noncomputable def zay (zs:List Str):List D:=zs.map D.str
noncomputable def zae (ps:List Nat):List D:=ps.map fun (p:Nat)=>D.int (p:Int)
theorem yha {zs:List Str}{i:Nat}{x:D}(h:(zay zs)[i]? = some x):∃z,x=.str z/\zs[i]? = some z:=by
 unfold zay at h;rw [qgm] at h
 cases e:zs[i]? with
 | none=>rw [e] at h;cases h
 | some z=>rw [e] at h;cases h;exact ⟨z,rfl,rfl⟩
theorem zgo {ps:List Nat}{i:Nat}{x:D}(h:(zae ps)[i]? = some x):∃p:Nat,x=.int p/\ps[i]? = some p:=by
 unfold zae at h;rw [qgm] at h
 cases e:ps[i]? with
 | none=>rw [e] at h;cases h
 | some z=>rw [e] at h;cases h;exact ⟨z,rfl,rfl⟩
theorem zt6 {zs:List Str}{x:D}(h:x∈zay zs):∃z∈zs,x=.str z:=by
 obtain ⟨z,hz,rfl⟩:=List.mem_map.mp h;exact ⟨z,hz,rfl⟩
theorem zln {ps:List Nat}{x:D}(h:x∈zae ps):∃p∈ps,x=.int (p:Nat):=by
 obtain ⟨z,hz,rfl⟩:=List.mem_map.mp h;exact ⟨z,hz,rfl⟩
theorem zcj (zs:List Str):(zay zs).length=zs.length:=by simp [zay]
theorem zck (ps:List Nat):(zae ps).length=ps.length:=by simp [zae]
noncomputable def SgC (c:Nat):Prop:=(⟨#[c]⟩:Str) = "-"∨(⟨#[c]⟩:Str) = "0"∨(⟨#[c]⟩:Str) = "1"
noncomputable def SgT (z:Str):Prop:=∀c∈z.cps.toList,SgC c
theorem yhb:intText? ("0":Str)=some 0:=by decide +kernel
theorem yhc:intText? ("1":Str)=some 1:=by decide +kernel
theorem yhd:("0":Str).length<=640:=by decide +kernel
theorem yhe:("1":Str).length<=640:=by decide +kernel
theorem d0:("0":Str)≠("-":Str):=by decide +kernel
theorem d1:("1":Str)≠("-":Str):=by decide +kernel
theorem yhf (z:Str) (p i c:Nat) (hc:z.cps.toList[i]? = some c):(((enl (sgn z)).take (i+1)).map (zer p)).all isT=((((enl (sgn z)).take i).map (zer p)).all isT && (decide ((⟨#[c]⟩:Str) = "-") || decide ((⟨#[c]⟩:Str)=bs p i))):=by
 have:(enl (sgn z))[i]? = some (.tup [.int i,.str ⟨#[c]⟩]):=by
  rw [zfn];unfold sgn;rw [qgm,hc];rfl
 rw [List.take_add_one,this]
 simp only [Option.toList_some,List.map_append,List.all_append,List.map_cons,List.map_nil,List.all_cons,List.all_nil,Bool.and_true,zer,isT,Int.toNat_natCast]
theorem yhg (z:Str) (p i c:Nat) (hc:z.cps.toList[i]? = some c) (h1:(⟨#[c]⟩:Str)≠"-") (h2:(⟨#[c]⟩:Str)≠bs p i):zbg z p=false:=by
 cases h:zbg z p with
 | false=>rfl
 | true =>
  rcases (zn1 z p).mp h i c hc with q|q
  ·exact absurd q h1
  ·exact absurd q h2
theorem zlo {p k:Nat}{S:Sto}{Q:D->Sto->Prop}(hk:k<=20):Wo (zex (.int p) (.int ((2 ^ k:Nat):Int)) S) (fun x S1=>Wo (zcr x (.int 2) S1) Q)=Q (.int (bt p k)) S:=by
 have h1:(2:Nat) ^ k<=2 ^ 20:=Nat.pow_le_pow_right (by decide) hk
 have h2:(0:Nat)<2 ^ k:=Nat.pow_pos (by decide)
 have h3:(0:Int)<((2 ^ k:Nat):Int)/\((2 ^ k:Nat):Int)<1073741824:=by omega
 have h4:(0:Int)<2:=by decide
 simp only [zhy,decide_eq_true_eq,h3,h4,true_and,and_self,zt0]
 push_cast;rfl
theorem yhh (z:Str) (p:Nat) (S:Sto) (hz:SgT z) (hs:z.cps.size<=20):Wo (zj1 [.str z,.int p] S) fun v S'=>v=.bl (zbg z p)/\S' = S:=by
 unfold zj1 zth
 simp only [zb5,List.map_cons,List.map_nil,List.length_cons,List.length_nil,Nat.reduceAdd,Nat.reduceSub,List.replicate,List.cons_append,List.nil_append]
 rw [zci]
 refine zjn (enl (sgn z)) (fun i l S'=>S' = S/\(((enl (sgn z)).take i).map (zer p)).all isT=true/\∃y2 y3,l=[some (.str z),some (.int p),y2,y3]) (fun d S'=>S' = S/\d=.bl false/\zbg z p=false) (zsh (as1 rfl)) ⟨rfl,rfl,_,_,rfl⟩ (fun i l S _=>zli) ?_ ?_ ?_
 ·rintro i x l S1 hx ⟨rfl,ha,y2,y3,rfl⟩
  rw [zfn] at hx
  cases e:(sgn z)[i]? with
  | none=>rw [e] at hx;cases hx
  | some y =>
   rw [e] at hx;cases hx
   obtain ⟨c,rfl,hc⟩:=zn0 e
   have hi:i<z.cps.size:=by have:=(qme hc).1;simpa using this
   rw [yhf z p i c hc,ha,Bool.true_and]
   simp only [zc7,zc9,zav,zc8,List.length_cons,List.length_nil,Nat.reduceAdd,qs0,qs1,true_and]
   have hn:=yhg z p i c hc
   rcases hz c (qmg hc) with h|h|h
   ·simp! only [h,decide_true,Bool.not_true,Bool.false_eq_true,if_false,Bool.true_or]
    first|exact .inl ⟨(by first|exact .inl rfl|exact .inl trivial|trivial),(by first|rfl|trivial),(by first|rfl|trivial),_,_,rfl⟩|exact .inl ⟨(by first|exact .inl rfl|exact .inl trivial|trivial),(by first|rfl|trivial),_,_,rfl⟩
   ·simp only [zbj,ze0,zbe,zax,zat,zar,zaq,zal,zas,qg0,qg1,zan,zm3,h,d0,decide_false,Bool.not_false,if_true,zbb,zsk yhb yhd,zhl (show i<=1000000 by omega),zlo (show i<=20 by omega),zh9]
    rcases zf8 p i with hb|hb
    ·have e1:bs p i = "0":=zih hb
     simp only [hb,e1,Int.natCast_zero,decide_true,Bool.not_true,Bool.false_eq_true,if_false,Bool.or_true,zby]
     first|exact .inl ⟨(by first|exact .inl rfl|exact .inl trivial|trivial),(by first|rfl|trivial),(by first|rfl|trivial),_,_,rfl⟩|exact .inl ⟨(by first|exact .inl rfl|exact .inl trivial|trivial),(by first|rfl|trivial),_,_,rfl⟩
    ·have e2:¬(0:Int)=((1:Nat):Int):=by decide
     simp only [hb,e2,decide_false,Bool.not_false,if_true,zb4,zas]
     exact .inr ⟨_,(by first|rfl|trivial),(by first|rfl|trivial),(by first|rfl|trivial),hn (by rw [h];exact d0) (by rw [h,zii hb];exact s01)⟩
   ·simp only [zbj,ze0,zbe,zax,zat,zar,zaq,zal,zas,qg0,qg1,zan,zm3,h,d1,decide_false,Bool.not_false,if_true,zbb,zsk yhc yhe,zhl (show i<=1000000 by omega),zlo (show i<=20 by omega),zh9]
    rcases zf8 p i with hb|hb
    ·have e2:¬(1:Int)=((0:Nat):Int):=by decide
     simp only [hb,e2,decide_false,Bool.not_false,if_true,zb4,zas]
     exact .inr ⟨_,(by first|rfl|trivial),(by first|rfl|trivial),(by first|rfl|trivial),hn (by rw [h];exact d1) (by rw [h,zih hb];exact s01.symm)⟩
    ·have e1:bs p i = "1":=zii hb
     have e2:(1:Int)=((1:Nat):Int):=by decide
     simp only [hb,e1,←e2,decide_true,Bool.not_true,Bool.false_eq_true,if_false,Bool.or_true,zby]
     first|exact .inl ⟨(by first|exact .inl rfl|exact .inl trivial|trivial),(by first|rfl|trivial),(by first|rfl|trivial),_,_,rfl⟩|exact .inl ⟨(by first|exact .inl rfl|exact .inl trivial|trivial),(by first|rfl|trivial),_,_,rfl⟩
 ·rintro l S1 ⟨rfl,ha,y2,y3,rfl⟩
  rw [List.take_length] at ha
  simp! only [zal]
  exact ⟨by unfold zbg;rw [ha],(by first|rfl|trivial)⟩
 ·rintro d l S1 ⟨rfl,rfl,h⟩
  exact ⟨by rw [h],rfl⟩
noncomputable def lacks (zs:List Str) (p:Nat):Bool:=!zs.any (fun z=>zbg z p)
theorem zt7 (zs:List Str) (p:Nat) (S:Sto) (h1:∀z∈zs,z.cps.size<=1000) (h2:zs.length<=1000):Wo (zhg [.tup (zay zs),.int p] S) fun v S'=>v=.int (if lacks zs p then 0 else 1)/\Gr S S':=by
 have hs:(1000:Nat)<=sizeLine:=by decide
 unfold zhg zsv
 simp only [zb5,List.map_cons,List.map_nil,List.length_cons,List.length_nil,Nat.reduceAdd,Nat.reduceSub,List.replicate,List.cons_append,List.nil_append,zb4,zqn,zbe,zat,zar,zaq]
 refine zhd (zay zs) (fun x=>match x with | .str z=>.bl (zbg z p)|_=>.non) (Gr S) (fun l=>∃y0,l=[y0,some (.int p)]) (zjl rfl) (Gr.refl S) ⟨_,rfl⟩ (fun i S _=>rfl) (by rw [zcj];omega) ?_ ?_
 ·rintro x l S1 hx ⟨y0,rfl⟩ hp
  obtain ⟨z,hz,rfl⟩:=zt6 hx
  simp only [zav,qs0]
  refine ⟨hp,⟨_,rfl⟩,?_⟩
  simp only [zat,zar,zaq,zal,qg0,qg1,zan]
  refine (zt4 z p S1 (h1 z hz)).mono ?_
  rintro v S2 ⟨rfl,g⟩
  exact ⟨rfl,hp.trans g⟩
 ·intro S' hg
  have e1:((zay zs).map fun x=>match x with | .str z=>D.bl (zbg z p)|_=>.non)=zs.map fun z=>.bl (zbg z p):=by unfold zay;rw [List.map_map];rfl
  rw [e1,ye6]
  refine ⟨_,zdp,?_,?_⟩
  ·rw [List.all_map];simp [zep,Function.comp_def]
  ·rw [zbb]
   have e2:(zs.map fun z=>D.bl (zbg z p)).any isT = !lacks zs p:=by rw [List.any_map];unfold lacks;simp [isT,Function.comp_def]
   rw [e2]
   cases lacks zs p with
   | true=>simp only [Bool.not_true,Bool.false_eq_true,if_false,if_true,zas];exact ⟨(by first|rfl|trivial),hg.push _⟩
   | false=>simp only [Bool.not_false,Bool.false_eq_true,if_false,if_true,zas];exact ⟨(by first|rfl|trivial),hg.push _⟩
theorem zj8 {α:Type}{xs:List α}{i:Nat}{x:α}(h:xs[i]? = some x):xs.drop i=x :: xs.drop (i+1):=by
 have hl:=(qme h).1
 rw [List.drop_eq_getElem_cons hl]
 rw [qge hl] at h;cases h;rfl
noncomputable def zhm (o:Option Nat):D:=match o with|some p=>.int (p:Int)|none=>.non
theorem yhi (on:List Nat) (zs:List Str) (S:Sto) (h1:∀z∈zs,z.cps.size<=1000) (h2:zs.length<=1000):Wo (zju [.tup (zae on),.tup (zay zs)] S) fun v S'=>v=zhm (on.find? (lacks zs))/\Gr S S':=by
 unfold zju zs1
 simp only [zb5,List.map_cons,List.map_nil,List.length_cons,List.length_nil,Nat.reduceAdd,Nat.reduceSub,List.replicate,List.cons_append,List.nil_append]
 rw [zci]
 refine zjo (zae on) (fun i l S'=>Gr S S'/\on.find? (lacks zs)=(on.drop i).find? (lacks zs)/\∃y2,l=[some (.tup (zae on)),some (.tup (zay zs)),y2]) (fun d S'=>Gr S S'/\d=zhm (on.find? (lacks zs))) rfl ⟨Gr.refl S,by rw [List.drop_zero],_,rfl⟩ ?_ ?_ ?_
 ·rintro i x l S1 hx ⟨g1,hf,y2,rfl⟩
  obtain ⟨p,rfl,hp⟩:=zgo hx
  rw [zj8 hp,List.find?_cons] at hf
  simp only [zav,qs0,qs1,zbj,zbe,zax,zat,zar,zaq,zal,qg0,qg1,zan]
  refine (zt7 zs p S1 h1 h2).mono ?_
  rintro v S2 ⟨rfl,g2⟩
  simp! only [zal]
  cases hl:lacks zs p with
  | true =>
   rw [hl] at hf
   simp only [if_true,decide_true]
   exact .inr ⟨_,rfl,g1.trans g2,by rw [hf];rfl⟩
  | false =>
   rw [hl] at hf
   have e:¬(1:Int)=0:=by decide
   simp only [Bool.false_eq_true,if_false,e,decide_false]
   exact .inl ⟨(by first|exact .inl rfl|exact .inl trivial|trivial),g1.trans g2,hf,_,rfl⟩
 ·rintro l S1 ⟨g1,hf,y2,rfl⟩
  rw [List.drop_of_length_le (by rw [zck];exact qlr _)] at hf
  simp! only [zal]
  exact ⟨by rw [hf];rfl,g1⟩
 ·rintro d l S1 ⟨g1,rfl⟩
  exact ⟨rfl,g1⟩
noncomputable def zfp (off:List Nat):Nat->List Str->Option (Nat × Nat)
 | _,[]=>none
 | k,z :: zs=>match off.find? (fun p=>zbg z p) with
  | some p=>some (k,p)
  | none=>zfp off (k+1) zs
noncomputable def fault (on off:List Nat) (zs:List Str):D:=match on.find? (lacks zs) with
 | some p=>.tup [.str "lacks",.int (p:Int)]
 | none=>match zfp off 0 zs with
  | some (k,p)=>.tup [.str "has",.int (k:Int),.int (p:Int)]
  | none=>.non
theorem yhj (on off:List Nat) (zs:List Str) (S:Sto) (h1:∀z∈zs,z.cps.size<=1000) (h2:zs.length<=1000):Wo (zjv [.tup (zae on),.tup (zae off),.tup (zay zs)] S) fun v S'=>v=fault on off zs/\Gr S S':=by
 have sz2:2<=sizeLine:=by decide
 have sz3:3<=sizeLine:=by decide
 unfold zjv zs2
 simp only [zb5,List.map_cons,List.map_nil,List.length_cons,List.length_nil,Nat.reduceAdd,Nat.reduceSub,List.replicate,List.cons_append,List.nil_append]
 refine zau (fun l S'=>Gr S S'/\l=[some (.tup (zae on)),some (.tup (zae off)),some (.tup (zay zs)),some (zhm (on.find? (lacks zs))),none,none,none]) ?_ ?_
 ·simp only [za8,zat,zar,zaq,zal,qg0,qg1,zan]
  refine (yhi on zs S h1 h2).mono ?_
  rintro v S1 ⟨rfl,g1⟩
  simp only [zav,qs0,qs1]
  exact ⟨(by first|rfl|trivial),g1,(by first|rfl|trivial)⟩
 rintro l S1 ⟨g1,rfl⟩
 cases hl:on.find? (lacks zs) with
 | some p =>
  have e:zb7 (zhm (some p))=false:=rfl
  simp! only [e,Bool.not_false,if_true,sz2,true_and]
  exact ⟨by unfold fault;rw [hl];rfl,g1⟩
 | none =>
  have e:zb7 (zhm none)=true:=rfl
  rw [zci]
  simp only [zbj,zbe,zax,zal,zas,qg0,qg1,zan,zdx,zbb,e,Bool.not_true,Bool.false_eq_true,if_false,zby]
  rw [zci]
  have hfa:fault on off zs=match zfp off 0 zs with|some (k,p)=>.tup [.str "has",.int (k:Int),.int (p:Int)]|none=>.non:=by unfold fault;rw [hl]
  refine zjn (enl (zay zs)) (fun i l S'=>Gr S S'/\zfp off 0 zs=zfp off i (zs.drop i)/\∃y4 y5 y6,l=[some (.tup (zae on)),some (.tup (zae off)),some (.tup (zay zs)),some (zhm none),y4,y5,y6]) (fun d S'=>Gr S S'/\d=fault on off zs) (zsi (as1 rfl)) ⟨g1,by rw [List.drop_zero],_,_,_,rfl⟩ (fun i l S _=>zli) ?_ ?_ ?_
  ·rintro i x l S2 hx ⟨g2,hf,y4,y5,y6,rfl⟩
   rw [zfn] at hx
   cases ez:(zay zs)[i]? with
   | none=>rw [ez] at hx;cases hx
   | some y =>
    rw [ez] at hx;cases hx
    obtain ⟨z,rfl,hz⟩:=yha ez
    rw [zj8 hz] at hf
    have hf:zfp off 0 zs=match off.find? (fun p=>zbg z p) with|some p=>some (i,p)|none=>zfp off (i+1) (zs.drop (i+1)):=hf
    simp only [zc7,zc9,zav,zc8,List.length_cons,List.length_nil,Nat.reduceAdd,qs0,qs1,true_and]
    refine zjo (zae off) (fun j l S'=>Gr S S'/\off.find? (fun p=>zbg z p)=(off.drop j).find? (fun p=>zbg z p)/\∃y6,l=[some (.tup (zae on)),some (.tup (zae off)),some (.tup (zay zs)),some (zhm none),some (.int i),some (.str z),y6]) (fun d S'=>Gr S S'/\d=fault on off zs) rfl ⟨g2,by rw [List.drop_zero],_,rfl⟩ ?_ ?_ ?_
    ·rintro j x l S3 hx ⟨g3,hj,y6,rfl⟩
     obtain ⟨p,rfl,hp⟩:=zgo hx
     rw [zj8 hp,List.find?_cons] at hj
     simp only [zav,qs0,qs1,zbj,zbe,zat,zar,zaq,zal,qg0,qg1,zan]
     refine (zt4 z p S3 (h1 z (qmg hz))).mono ?_
     rintro v S4 ⟨rfl,g4⟩
     cases hh:zbg z p with
     | true =>
      rw [hh] at hj
      simp only [zbb,if_true,zb4,zat,zar,zaq,zas,zal,qg0,qg1,zan,zda,List.length_cons,List.length_nil,Nat.reduceAdd,sz3,true_and]
      exact .inr ⟨_,rfl,g3.trans g4,by rw [hfa,hf,hj]⟩
     | false =>
      rw [hh] at hj
      simp only [zbb,Bool.false_eq_true,if_false,zby]
      exact .inl ⟨(by first|exact .inl rfl|exact .inl trivial|trivial),g3.trans g4,hj,_,rfl⟩
    ·rintro l S3 ⟨g3,hj,y6,rfl⟩
     rw [List.drop_of_length_le (by rw [zck];exact qlr _)] at hj
     rw [hj] at hf
     exact .inl ⟨.inl rfl,g3,hf,_,_,_,rfl⟩
    ·rintro d l S3 ⟨g3,rfl⟩
     exact .inr ⟨_,rfl,g3,rfl⟩
  ·rintro l S2 ⟨g2,hf,y4,y5,y6,rfl⟩
   rw [List.drop_of_length_le (by rw [zf4,zcj];exact qlr _)] at hf
   simp! only [zal]
   exact ⟨by rw [hfa,hf];rfl,g2⟩
  ·rintro d l S2 ⟨g2,rfl⟩
   exact ⟨rfl,g2⟩
theorem Pn.set {ns:List Int}{k:Int}{S:Sto}{n:Nat}{o:Ob}(h:Pn ns k S) (hn:2<=n):Pn ns k (S.set n o):=by
 obtain ⟨a,r,rest,rfl,h1,h2,h3⟩:=h
 obtain ⟨m,rfl⟩:∃m,n=m+2:=⟨n-2,by omega⟩
 exact ⟨a,r,rest.set m o,rfl,h1,h2,h3⟩
theorem Pn.two {ns:List Int}{k:Int}{S:Sto}(h:Pn ns k S):2<=S.length:=by
 obtain ⟨a,r,rest,rfl,h1,h2,h3⟩:=h
 rw [ztx];omega
theorem zd1 {S:Sto}{n:Nat}{o o':Ob}(h:S[n]? = some o'):(S.set n o)[n]? = some o:=List.getElem?_set_self (qme h).1
theorem zt8:∀ts:List Str,(Str.join "" ts).cps.toList=ts.flatMap fun t=>t.cps.toList
 | []=>rfl
 | [x]=>by simp [Str.join]
 | x :: y :: r=>by
  have ih:=zt8 (y :: r)
  show (x++(Str.ofString "")++Str.join "" (y :: r)).cps.toList=_
  have e:((Str.ofString "").cps.toList)=[]:=by decide +kernel
  rw [Str.cps_append,Str.cps_append,Array.toList_append,Array.toList_append,ih,e]
  simp
theorem zt9:∀(cs:List Nat),(cs.map fun c=>(⟨#[c]⟩:Str)).flatMap (fun t=>t.cps.toList)=cs
 | []=>rfl
 | c :: cs=>by rw [List.map_cons,List.flatMap_cons,zt9 cs];rfl
theorem zua:∀(vs:List D) (P:Nat->Prop),(∀v∈vs,∃c,v=.str ⟨#[c]⟩/\P c)->∃cs:List Nat,vs=cs.map (fun c=>.str ⟨#[c]⟩)/\∀c∈cs,P c
 | [],_,_=>⟨[],rfl,fun t h=>by cases h⟩
 | v :: vs,P,h=>by
  obtain ⟨c,rfl,hc⟩:=h v List.mem_cons_self
  obtain ⟨cs,h1,h2⟩:=zua vs P fun u hu=>h u (List.mem_cons_of_mem _ hu)
  refine ⟨c :: cs,by rw [h1];rfl,fun t ht=>?_⟩
  rcases List.mem_cons.mp ht with rfl|ht
  ·exact hc
  ·exact h2 t ht
theorem zub:∀cs:List Nat,zdz (cs.map fun c=>.str ⟨#[c]⟩)=some (cs.map fun c=>⟨#[c]⟩)
 | []=>rfl
 | c :: cs=>by show (zdz (cs.map _)).bind _=_;rw [zub cs];rfl
theorem zuc {S:Sto}{n:Nat}{cs:List Nat}{Q:D->Sto->Prop}(h:lstOf S n=some (cs.map fun c=>.str ⟨#[c]⟩)) (hl:cs.length<=1000):Wo (zf2 (.str "") [.ref n] S) Q=Q (.str ⟨cs.toArray⟩) S:=by
 have e0:(Str.ofString "").length=0:=by decide +kernel
 have hs:((cs.map fun c=>(⟨#[c]⟩:Str)).map (·.length)).sum+(cs.map fun c=>(⟨#[c]⟩:Str)).length*(Str.ofString "").length<=16777216:=by
  rw [e0,Nat.mul_zero,Nat.add_zero]
  have:=StrLaws.sumLen_le (B:=1) (cs.map fun c=>(⟨#[c]⟩:Str)) fun y hy=>by obtain ⟨c,_,rfl⟩:=List.mem_map.mp hy;exact qlr _
  rw [qlm] at this;omega
 have ej:Str.join "" (cs.map fun c=>(⟨#[c]⟩:Str))=⟨cs.toArray⟩:=by
  have:=zt8 (cs.map fun c=>(⟨#[c]⟩:Str))
  rw [zt9] at this
  cases hj:Str.join "" (cs.map fun c=>(⟨#[c]⟩:Str)) with
  | mk a=>rw [hj] at this;rw [←this]
 have:zf2 (.str "") [.ref n] S=some (.str ⟨cs.toArray⟩,S):=by
  show (lstOf S n).bind _=_
  rw [h];simp only [Option.bind_some,zub]
  rw [if_pos hs,ej]
 rw [this];exact zbh
theorem zud {cs:List Nat}(h:∀c∈cs,SgC c):SgT ⟨cs.toArray⟩:=fun c hc=>h c (by simpa using hc)
theorem yhk (ns:List Int) (t:Str) (m:Nat) (ht:t.cps.size=m) (hsg:SgT t) (h1:1<=m) (h2:m<=100) (l:Lo) (S:Sto) (k:Int) (v:Nat) (h:Pn ns k S) (hk:k<100000) (hv:v<=5) {as:AM}(l0:zcc [none,some 0] l=[none,some (.ref 1)]) (lv:as l S=some ([.int v],S)) {Q:D->Sto->Prop}
  (fin:∀z S',SgT z->z.cps.size=v->Pn ns (k+v) S'->Fr S S'->Q (.str z) S') :
  We (zh5 zf2 (eC (.str "")) (zac (zch (zfj (zcg as)) [none,some 0] (zai 0) (zcm) (eOp za4 (eC (.str t)) (zag zbp (zac (zaa 1) (zac (eC (.int m)) (zaf)))))) zaf)) l S Q:=by
 have hs5:(1000:Nat)<=sizeLine:=by decide
 have htl:t.length<=sizeLine:=by have:t.length=m:=ht;omega
 simp only [znt,zas,zar,zaq]
 refine ⟨rfl,?_⟩
 refine yfa (zbz 0 v) (fun u=>∃c,u=.str ⟨#[c]⟩/\SgC c) (fun i S'=>Pn ns (k+i) S'/\Fr S S') (fun l=>∃y0,l=[y0,some (.ref 1)]) (zlh lv (by omega)) ⟨by simpa using h,Fr.refl S⟩ ⟨_,l0⟩ (fun i S _=>rfl) (by rw [zfy];omega) ?_ ?_
 ·rintro i x l S3 hx ⟨y0,rfl⟩ ⟨hp,hfr⟩
  have hi:=(zkx hx).1
  simp only [zav,qs0]
  refine ⟨⟨_,rfl⟩,?_⟩
  simp only [zax,zat,zar,zaq,zal,zas,qg0,qg1,zan]
  refine (zcn ns _ _ (m:Int) hp (by omega) (by omega) (by omega)).mono ?_
  rintro u S4 ⟨⟨d,rfl,hd⟩,p4,f4⟩
  have hc:t.cps.toList[d]? = some t.cps[d]:=by simp [show d<t.cps.size by omega]
  simp only [znr,htl,true_and,atI_get hc,zbl]
  exact ⟨⟨_,rfl,hsg _ (qmg hc)⟩,p4.mono (by push_cast;omega),hfr.trans f4⟩
 ·rintro vs S3 hl hvs ⟨hp,hfr⟩
  obtain ⟨cs,rfl,hcs⟩:=zua vs _ hvs
  rw [zfy,qlm] at hl
  rw [zuc zdp (by omega)]
  rw [zfy] at hp
  exact fin _ _ (zud hcs) (by simp [hl]) (hp.push _) (hfr.trans (Fr.of ⟨_,rfl⟩))
theorem zue:SgT ("01-":Str):=fun c hc=>by
 have e:("01-":Str).cps.toList=[48,49,45]:=by decide +kernel
 rw [e] at hc
 have:c=48∨c=49∨c=45:=by simpa using hc
 rcases this with rfl|rfl|rfl
 ·exact .inr (.inl (by decide +kernel))
 ·exact .inr (.inr (by decide +kernel))
 ·exact .inl (by decide +kernel)
theorem zj9 (ps:List Nat) (p:Nat):zae ps++[.int p]=zae (ps++[p]):=by unfold zae;rw [List.map_append];rfl
theorem zbk {S:Sto}{n:Nat}{xs:List D}(h:S[n]? = some (.lst xs)):lstOf S n=some xs:=by unfold lstOf;rw [h]
theorem zuf (zs:List Str) (z:Str):zay zs++[.str z]=zay (zs++[z]):=by unfold zay;rw [List.map_append];rfl
noncomputable def OkN (v:Nat) (zs:List Str):Prop:=∀z∈zs,SgT z/\z.cps.size=v
theorem yhl (z:Str) (off:List Nat):((zae off).filterMap fun x=>match x with | .int p=>if zbg z p.toNat=true then some x else none|_=>none)=zae (off.filter fun p=>zbg z p):=by
 induction off with
 | nil=>rfl
 | cons p off ih =>
  unfold zae at ih ⊢
  rw [List.map_cons,List.filterMap_cons]
  simp only [Int.toNat_natCast]
  by_cases h:zbg z p=true
  ·rw [if_pos h];simp only [List.filter_cons,h,if_true,List.map_cons];rw [ih]
  ·rw [if_neg h];simp only [List.filter_cons,h,Bool.false_eq_true,if_false];exact ih
theorem yhm:∀v:Fin 6,∀a p:Fin 32,a.val<2 ^ v.val->p.val<2 ^ v.val->(∀k:Fin 5,k.val<v.val->bt a.val k.val=bt p.val k.val)->a=p:=by decide +kernel
structure zhp (v:Nat) (off:List Nat) (z:Str):Prop where
 sg:SgT z
 len:z.cps.size=v
 no:∀o∈off,zbg z o=false
noncomputable def loose (z:Str) (k:Nat) (c:Nat):Str:=⟨(z.cps.toList.take k++c :: z.cps.toList.drop (k+1)).toArray⟩
theorem zug {z:Str}{k c:Nat}(hk:k<z.cps.size) (i:Nat):(loose z k c).cps.toList[i]? = if i=k then some c else z.cps.toList[i]?:=by
 unfold loose
 have hl:(z.cps.toList.take k).length=k:=by simp;omega
 show (z.cps.toList.take k++c :: z.cps.toList.drop (k+1))[i]? = _
 by_cases h:i=k
 ·subst h
  rw [if_pos rfl,List.getElem?_append_right (by omega),hl,Nat.sub_self];rfl
 ·rw [if_neg h]
  by_cases h2:i<k
  ·rw [List.getElem?_append_left (by omega),List.getElem?_take_of_lt h2]
  ·rw [List.getElem?_append_right (by omega),hl]
   obtain ⟨j,hj⟩:∃j,i-k=j+1:=⟨i-k-1,by omega⟩
   rw [hj,qg1,List.getElem?_drop]
   congr 1;omega
theorem zuh {z:Str}{k c:Nat}(hk:k<z.cps.size):(loose z k c).cps.size=z.cps.size:=by
 rw [←Array.length_toList]
 show (z.cps.toList.take k++c :: z.cps.toList.drop (k+1)).length=_
 simp;omega
theorem zui {z:Str}{k c:Nat}(hz:SgT z) (hk:k<z.cps.size) (hc:SgC c):SgT (loose z k c):=fun d hd=>by
 obtain ⟨i,hi⟩:=List.getElem?_of_mem hd
 rw [zug hk] at hi
 by_cases h:i=k
 ·rw [if_pos h] at hi;cases hi;exact hc
 ·rw [if_neg h] at hi;exact hz d (qmg hi)
theorem yhn:(⟨#[45]⟩:Str) = "-":=by decide +kernel
theorem yho {z:Str}{k p:Nat}(hk:k<z.cps.size) (h:zbg z p=true):zbg (loose z k 45) p=true:=by
 rw [zn1] at h ⊢
 intro i c hc
 rw [zug hk] at hc
 by_cases hi:i=k
 ·rw [if_pos hi] at hc;cases hc;exact .inl yhn
 ·rw [if_neg hi] at hc;exact h i c hc
theorem zuj {z w:Str}{k c:Nat}{S:Sto}{Q:D->Sto->Prop}(hz:z.cps.size<=100) (hk:k<z.cps.size) (hw:w=⟨#[c]⟩) :
  Wo (za3 (.str (Txt.slice z none (some (k:Int)))) (.str w) S) (fun x S1=>Wo (za3 x (.str (Txt.slice z (some ((k:Int)+1)) none)) S1) Q)=Q (.str (loose z k c)) S:=by
 have big:1000<=sizeLine:=by decide
 have e1:((k:Int)+1)=((k+1:Nat):Int):=by push_cast;rfl
 have h1:(⟨(z.cps.toList.take k).toArray⟩:Str).length=k:=by show (z.cps.toList.take k).toArray.size=k;simp;omega
 have h2:(⟨(z.cps.toList.drop (k+1)).toArray⟩:Str).length=z.cps.size-(k+1):=by show (z.cps.toList.drop (k+1)).toArray.size=_;simp
 have h3:w.length=1:=by rw [hw];rfl
 have h4:((⟨(z.cps.toList.take k).toArray⟩:Str)++w).length=k+1:=by rw [Str.length_append,h1,h3]
 rw [e1,yfc z k (by omega),yfd z (k+1) (by omega),znw]
 have e2:((⟨(z.cps.toList.take k).toArray⟩:Str)++w++⟨(z.cps.toList.drop (k+1)).toArray⟩:Str)=loose z k c:=by
  have:((⟨(z.cps.toList.take k).toArray⟩:Str)++w++⟨(z.cps.toList.drop (k+1)).toArray⟩:Str).cps=(loose z k c).cps:=by
   rw [Str.cps_append,Str.cps_append,hw]
   unfold loose
   apply Array.toList_inj.mp
   simp
  exact congrArg Str.mk this
 apply propext
 constructor
 ·rintro ⟨_,q⟩
  rw [znw] at q
  rw [←e2];exact q.2
 ·intro q
  refine ⟨by rw [h1,h3];omega,?_⟩
  rw [znw,e2]
  exact ⟨by rw [h4,h2];omega,q⟩
theorem yhp:("-":Str)=⟨#[45]⟩:=by decide +kernel
theorem yhq:SgC 45:=.inl (by decide +kernel)
noncomputable def own (v p:Nat):Str:=Str.join "" ((List.range v).map (bs p))
theorem yhr (p k:Nat):∃c,bs p k=⟨#[c]⟩/\SgC c:=by
 rcases zf8 p k with h|h
 ·refine ⟨48,?_,.inr (.inl (by decide +kernel))⟩
  rw [zih h];decide +kernel
 ·refine ⟨49,?_,.inr (.inr (by decide +kernel))⟩
  rw [zii h];decide +kernel
theorem yhs (v p:Nat):∃cs:List Nat,cs.length=v/\(List.range v).map (bs p)=cs.map (fun c=>(⟨#[c]⟩:Str))/\∀c∈cs,SgC c:=by
 induction v with
 | zero=>exact ⟨[],rfl,rfl,fun c hc=>by cases hc⟩
 | succ v ih =>
  obtain ⟨cs,h1,h2,h3⟩:=ih
  obtain ⟨c,hc,hs⟩:=yhr p v
  refine ⟨cs++[c],by simp [h1],?_,fun d hd=>?_⟩
  ·rw [List.range_succ,List.map_append,h2,List.map_append];simp [hc]
  ·rcases List.mem_append.mp hd with hd|hd
   ·exact h3 d hd
   ·rw [List.mem_singleton.mp hd];exact hs
theorem yht (v p:Nat):∃z:Str,(∀{S:Sto}{n:Nat}{Q:D->Sto->Prop},v<=1000->lstOf S n=some ((List.range v).map fun k=>.str (bs p k))->Wo (zf2 (.str "") [.ref n] S) Q=Q (.str z) S)/\SgT z/\z.cps.size=v/\∀(k c:Nat),z.cps.toList[k]? = some c->(⟨#[c]⟩:Str)=bs p k:=by
 obtain ⟨cs,h1,h2,h3⟩:=yhs v p
 refine ⟨⟨cs.toArray⟩,fun {S n Q} hv hn=>?_,zud h3,by simp [h1],fun k c hc=>?_⟩
 ·refine zuc ?_ (by omega)
  rw [hn]
  have:((List.range v).map fun k=>D.str (bs p k))=((List.range v).map (bs p)).map D.str:=by rw [List.map_map];rfl
  rw [this,h2,List.map_map];rfl
 ·have hc:cs[k]? = some c:=by simpa using hc
  have hk:k<v:=by have:=(qme hc).1;omega
  have e:=congrArg (fun l=>l[k]?) h2
  simp only [qgm,List.getElem?_range hk,hc,Option.map_some] at e
  exact (qoi e).symm
theorem zuk {v a p:Nat}{z:Str}(hv:v<=5) (ha:a<2 ^ v) (hp:p<2 ^ v) (hz:z.cps.size=v) (h:∀(k c:Nat),z.cps.toList[k]? = some c->(⟨#[c]⟩:Str)=bs a k):zbg z p=decide (p=a):=by
 have hp5:(2:Nat) ^ v<=2 ^ 5:=Nat.pow_le_pow_right (by decide) hv
 rw [Bool.eq_iff_iff,zn1,decide_eq_true_eq]
 constructor
 ·intro hh
  have:=yhm ⟨v,by omega⟩ ⟨a,by omega⟩ ⟨p,by omega⟩ ha hp fun k hk=>by
   have hc:z.cps.toList[k.val]? = some (z.cps[k.val]'(by rw [hz];exact hk)):=by simp [hz,hk]
   rcases hh k.val _ hc with q|q
   ·rw [h _ _ hc] at q;exact absurd q (yg8 a k.val)
   ·rw [h _ _ hc] at q;exact bs_inj.mp q
  exact (congrArg Fin.val this).symm
 ·rintro rfl k c hc;exact .inr (h k c hc)
theorem yhu (ns:List Int) (S:Sto) (k:Int) (v:Nat) (off:List Nat) (a:Nat) (h:Pn ns k S) (hk:k<100000) (h1:1<=v) (hv:v<=5) (ha:a<2 ^ v) (hao:a ∉ off) (hof:∀p∈off,p<2 ^ v) (hol:off.length<=100) :
  Wo (zj2 [.ref 1,.int v,.tup (zae off),.int a] S) fun d S'=>∃z,d=.str z/\zhp v off z/\zbg z a=true/\Pn ns (k+6) S'/\Fr S S':=by
 have sz0:0<=sizeLine:=by decide
 have big:1000<=sizeLine:=by decide
 obtain ⟨z0,j1,j2,j3,j4⟩:=yht v a
 unfold zj2 zti
 simp only [zb5,List.map_cons,List.map_nil,List.length_cons,List.length_nil,Nat.reduceAdd,Nat.reduceSub,List.replicate,List.cons_append,List.nil_append]
 refine zau (fun l S'=>Gr S S'/\l=[some (.ref 1),some (.int v),some (.tup (zae off)),some (.int a),some (.str z0),none,none,none]) ?_ ?_
 ·simp only [za8,znt,zas,zar,zaq]
  refine ⟨rfl,?_⟩
  refine zhd (zbz 0 v) (fun x=>match x with | .int k=>.str (bs a k.toNat)|_=>.non) (Gr S) (fun l=>∃y0,l=[y0,some (.int a)]) (zlh (as1 rfl) (by omega)) (Gr.refl S) ⟨_,rfl⟩ (fun i S _=>rfl) (by rw [zfy];omega) ?_ ?_
  ·rintro x l S1 hx ⟨y0,rfl⟩ hp
   obtain ⟨i,hi,rfl⟩:=List.mem_map.mp hx
   have hi:=List.mem_range.mp hi
   simp only [zav,qs0,Int.zero_add]
   refine ⟨hp,⟨_,rfl⟩,?_⟩
   simp only [zat,zar,zaq,zax,zal,zas,qg0,qg1,zan,zhl (show i<=1000000 by omega),zlo (show i<=20 by omega),zsc,zt1,true_and,Int.toNat_natCast]
   exact ⟨rfl,hp⟩
  ·intro S1 g1
   have e:((zbz 0 v).map fun x=>match x with | .int k=>D.str (bs a k.toNat)|_=>.non)=(List.range v).map fun k=>.str (bs a k):=by
    unfold zbz;rw [List.map_map];refine List.map_congr_left fun k _=>?_;simp
   rw [e,j1 (by omega) zdp]
   simp only [zav,qs0,qs1]
   exact ⟨(by first|rfl|trivial),g1.push _,(by first|rfl|trivial)⟩
 rintro l S1 ⟨g1,rfl⟩
 have p1:Pn ns k S1:=h.gr g1
 have hz0:zhp v off z0:=⟨j2,j3,fun o ho=>by rw [zuk hv ha (hof o ho) j3 j4];exact decide_eq_false (fun e=>hao (e ▸ ho))⟩
 have hz0a:zbg z0 a=true:=by rw [zuk hv ha ha j3 j4];exact decide_eq_true rfl
 rw [zci]
 rw [zqs]
 simp only [zar,zaq,zat,zax,zal,zas,qg0,qg1,zan,zc6]
 refine (zcn ns _ _ ((v:Int)+1) p1 (by omega) (by omega) (by omega)).mono ?_
 rintro x S2 ⟨⟨t,rfl,ht⟩,p2,f2⟩
 refine ⟨t,rfl,⟨by omega,by omega⟩,?_⟩
 rw [Int.toNat_natCast]
 refine (zlj (fun i l S'=>∃z,zhp v off z/\zbg z a=true/\Pn ns (k+1+i) S'/\Fr S S'/\∃y5 y6 y7,l=[some (.ref 1),some (.int v),some (.tup (zae off)),some (.int a),some (.str z),y5,y6,y7]) (fun _ _=>False) (zbz 0 t) 0 _ S2 ⟨z0,hz0,hz0a,by simpa using p2,(Fr.of g1).trans f2,_,_,_,rfl⟩ ?_).mono ?_
 ·rintro i x l S3 hx ⟨z,hz,hza,p3,f3,y5,y6,y7,rfl⟩
  rw [Nat.zero_add] at p3 ⊢
  have hit:=(zkx hx).1
  rw [zav]
  simp only [qs0,qs1]
  refine zau (fun l S'=>Pn ns (k+1+i+1) S'/\Fr S S'/\∃j:Nat,j<v/\l=[some (.ref 1),some (.int v),some (.tup (zae off)),some (.int a),some (.str z),some x,some (.int j),y7]) ?_ ?_
  ·simp only [za8,zat,zar,zaq,zal,qg0,qg1,zan]
   refine (zcn ns _ _ (v:Int) p3 (by omega) (by omega) (by omega)).mono ?_
   rintro u S4 ⟨⟨j,rfl,hj⟩,p4,f4⟩
   simp only [zav,qs0,qs1]
   exact ⟨(by first|rfl|trivial),p4,f3.trans f4,j,by omega,rfl⟩
  rintro l S4 ⟨p4,f4,j,hj,rfl⟩
  have hjz:j<z.cps.size:=by rw [hz.len];exact hj
  have hzl:z.length<=sizeLine:=by have:z.length=v:=hz.len;omega
  refine zau (fun l S'=>S' = S4/\l=[some (.ref 1),some (.int v),some (.tup (zae off)),some (.int a),some (.str z),some x,some (.int j),some (.str (loose z j 45))]) ?_ ?_
  ·simp only [za8,zax,zec,zd9,zea,zal,zas,qg0,qg1,zan,zeb,zc6,zsm,hzl,true_and]
   rw [zuj (by rw [hz.len];omega) hjz yhp]
   simp only [zav,qs0,qs1,and_self]
  rintro l S5 ⟨rfl,rfl⟩
  have hsg:=zui hz.sg hjz yhq
  have hln:(loose z j 45).cps.size=v:=by rw [zuh hjz];exact hz.len
  simp only [zbj,zbe]
  rw [zax]
  refine zsf (zae off) (fun x=>match x with | .int p=>if zbg (loose z j 45) p.toNat=true then some x else none|_=>none) (Gr S5) (fun l=>∃y0,l=[y0,some (.str (loose z j 45))]) (zjl rfl) (Gr.refl _) ⟨_,rfl⟩ (fun i S _=>rfl) (by rw [zck];omega) ?_ ?_
  ·rintro x l S6 hx ⟨y0,rfl⟩ g6
   obtain ⟨p,hp,rfl⟩:=zln hx
   simp only [zav,qs0]
   refine ⟨⟨_,rfl⟩,?_⟩
   simp only [zbe,zat,zar,zaq,zal,qg0,qg1,zan,Int.toNat_natCast]
   refine (yhh _ p S6 hsg (by omega)).mono ?_
   rintro d S7 ⟨rfl,rfl⟩
   rw [zbb]
   exact ⟨g6,fun h=>by rw [if_neg (by rw [h];decide)],fun h=>⟨by rw [if_pos h],g6⟩⟩
  ·intro S6 g6
   rw [show ((zae off).filterMap fun x=>match x with | .int p=>if zbg (loose z j 45) p.toNat=true then some x else none|_=>none)=zae (off.filter fun p=>zbg (loose z j 45) p) from yhl _ _]
   simp only [zat,zaq,ze3,List.length_nil,sz0,true_and]
   rw [ye9 (Gr.get ⟨_,rfl⟩ (zbx S6 _)) (zbx _ _)]
   have gg:Fr S (S6++[.lst (zae (off.filter fun p=>zbg (loose z j 45) p))]++[.lst []]):=f4.trans (Fr.of ((g6.push _).push _))
   have pp:Pn ns (k+1+((i+1:Nat):Int)) (S6++[.lst (zae (off.filter fun p=>zbg (loose z j 45) p))]++[.lst []]):=(((p4.gr g6).push _).push _).mono (by push_cast;omega)
   rw [zbb]
   cases he:(zae (off.filter fun p=>zbg (loose z j 45) p)).isEmpty with
   | true =>
    have hno:∀o∈off,zbg (loose z j 45) o=false:=fun o ho=>by
     have:off.filter (fun p=>zbg (loose z j 45) p)=[]:=by
      have:=List.isEmpty_iff.mp he
      unfold zae at this
      exact List.map_eq_nil_iff.mp this
     cases hb:zbg (loose z j 45) o with
     | false=>rfl
     | true=>have:=List.mem_filter.mpr ⟨ho,hb⟩;rw [‹off.filter _=[]›] at this;cases this
    simp only [if_true,za8,zal,qg0,qg1,zan,zav,qs0,qs1]
    exact .inl ⟨(by first|exact .inl rfl|exact .inl trivial|trivial),_,⟨hsg,hln,hno⟩,yho hjz hza,pp,gg,_,_,_,rfl⟩
   | false =>
    simp only [Bool.false_eq_true,if_false,zby]
    exact .inl ⟨(by first|exact .inl rfl|exact .inl trivial|trivial),z,hz,hza,pp,gg,_,_,_,rfl⟩
 ·rintro f l S3 (⟨rfl,z,hz,hza,p3,f3,y5,y6,y7,rfl⟩|⟨d,_,hd⟩)
  ·simp! only [zal]
   rw [Nat.zero_add,zfy] at p3
   exact ⟨z,rfl,hz,hza,p3.mono (by omega),f3⟩
  ·exact hd.elim
theorem zij (zs:List Str) (k:Nat):(zay zs).take k=zay (zs.take k):=by unfold zay;rw [List.map_take]
theorem zka (zs:List Str) (k:Nat):(zay zs).drop k=zay (zs.drop k):=by unfold zay;rw [List.map_drop]
theorem zkb (a b:List Str):zay a++zay b=zay (a++b):=by unfold zay;rw [List.map_append]
theorem OkN.take {v:Nat}{zs:List Str}(h:OkN v zs) (k:Nat):OkN v (zs.take k):=fun z hz=>h z (List.mem_of_mem_take hz)
theorem OkN.drop {v:Nat}{zs:List Str}(h:OkN v zs) (k:Nat):OkN v (zs.drop k):=fun z hz=>h z (List.mem_of_mem_drop hz)
theorem OkN.app {v:Nat}{a b:List Str}(h:OkN v a) (g:OkN v b):OkN v (a++b):=fun z hz=>by
 rcases List.mem_append.mp hz with hz|hz
 ·exact h z hz
 ·exact g z hz
theorem OkN.one {v:Nat}{z:Str}(h:SgT z) (g:z.cps.size=v):OkN v [z]:=fun u hu=>by rw [List.mem_singleton.mp hu];exact ⟨h,g⟩
structure NetR (v:Nat) (off on:List Nat) (i:Nat) (zs:List Str):Prop where
 good:∀z∈zs,zhp v off z
 has:∀p∈on.take i,∃z∈zs,zbg z p=true
 len:zs.length<=2*i
theorem Fr.set {A B:Sto}{n:Nat}{o:Ob}(h:Fr A B) (hn:A.length<=n):Fr A (B.set n o):=fun m x hm e=>by
 have:=(qme e).1
 rw [List.getElem?_set_ne (by omega)]
 exact h m x hm e
theorem yhv (ns:List Int) (S:Sto) (k:Int) (v:Nat) (on off:List Nat) (h:Pn ns k S) (hk:k<10000) (h1:1<=v) (hv:v<=5) (hon:∀p∈on,p<2 ^ v/\p ∉ off) (hof:∀p∈off,p<2 ^ v) (l1:on.length<=32) (l2:off.length<=32) :
  Wo (zj3 [.ref 1,.int v,.tup (zae on),.tup (zae off)] S) fun d S'=>∃zs,d=.tup (zay zs)/\NetR v off on on.length zs/\Pn ns (k+400) S'/\Fr S S':=by
 have sz0:0<=sizeLine:=by decide
 have big:1000<=sizeLine:=by decide
 unfold zj3 ztj
 simp only [zb5,List.map_cons,List.map_nil,List.length_cons,List.length_nil,Nat.reduceAdd,Nat.reduceSub,List.replicate,List.cons_append,List.nil_append]
 refine zau (fun l S'=>Pn ns k S'/\∃n,2<=n/\S.length<=n/\Fr S S'/\S'[n]? = some (.lst [])/\l=[some (.ref 1),some (.int v),some (.tup (zae on)),some (.tup (zae off)),some (.ref n),none]) ?_ ?_
 ·simp! only [sz0,true_and]
  exact ⟨h.push _,_,h.two,qlr _,Fr.of ⟨_,rfl⟩,zbx _ _,rfl⟩
 rintro l S1 ⟨p1,n,hn,hS,f1,e1,rfl⟩
 rw [zci]
 refine zjo (zae on) (fun i l S'=>∃zs,Pn ns (k+10*i) S'/\Fr S S'/\S'[n]? = some (.lst (zay zs))/\NetR v off on i zs/\∃y5,l=[some (.ref 1),some (.int v),some (.tup (zae on)),some (.tup (zae off)),some (.ref n),y5]) (fun _ _=>False) rfl ⟨[],by simpa using p1,f1,e1,⟨(fun z hz=>by cases hz),(fun p hp=>by simp at hp),Nat.zero_le _⟩,_,rfl⟩ ?_ ?_ (fun d l S h=>h.elim)
 ·rintro i x l S2 hx ⟨zs,p2,f2,q2,hz,y5,rfl⟩
  obtain ⟨p,rfl,hp⟩:=zgo hx
  have hi:i<on.length:=(qme hp).1
  have hlen:=hz.len
  obtain ⟨hp1,hp2⟩:=hon p (qmg hp)
  rw [zav]
  simp only [qs0,qs1]
  refine zau (fun l S'=>∃zs,Pn ns (k+10*i+7) S'/\Fr S S'/\S'[n]? = some (.lst (zay zs))/\(∀z∈zs,zhp v off z)/\(∀q∈on.take (i+1),∃z∈zs,zbg z q=true)/\1<=zs.length/\zs.length<=2*i+1/\l=[some (.ref 1),some (.int v),some (.tup (zae on)),some (.tup (zae off)),some (.ref n),some (.int p)]) ?_ ?_
  ·simp only [zd4]
   rw [zen]
   simp only [zal,qg0,qg1,zan]
   refine ⟨⟨_,show zdh (.ref n) S2=some _ from zbk q2⟩,?_⟩
   simp only [zar,zaq,zat,zax,zal,zas,qg0,qg1,zan,zbl,zhc,zbk q2,zc6,zcj]
   refine (zcn ns _ _ ((zs.length:Int)+1) p2 (by omega) (by omega) (by omega)).mono ?_
   rintro u S3 ⟨⟨d,rfl,hd⟩,p3,f3⟩
   refine (yhu ns S3 _ v off p p3 (by omega) h1 hv hp1 hp2 hof (by omega)).mono ?_
   rintro u S4 ⟨z,rfl,hg,hza,p4,f4⟩
   have q4:S4[n]? = some (.lst (zay zs)):=f4 n _ (by omega) (f3 n _ (by omega) q2)
   rw [yfb q4 (by rw [zcj];omega) (by rw [zcj];omega),zij,zka]
   have e2:zay (zs.take d)++[.str z]++zay (zs.drop d)=zay (zs.take d++[z]++zs.drop d):=by rw [zuf,zkb]
   rw [e2]
   have mem:∀u,u∈zs.take d++[z]++zs.drop d↔u∈zs∨u=z:=fun u=>by
    have:u∈zs↔u∈zs.take d∨u∈zs.drop d:=by
     conv=>lhs;rw [←List.take_append_drop d zs]
     exact List.mem_append
    rw [this]
    simp only [List.mem_append,List.mem_singleton]
    constructor
    ·rintro ((a|b)|c)
     ·exact .inl (.inl a)
     ·exact .inr b
     ·exact .inl (.inr c)
    ·rintro ((a|b)|c)
     ·exact .inl (.inl a)
     ·exact .inr b
     ·exact .inl (.inr c)
   refine ⟨(by first|rfl|trivial),zs.take d++[z]++zs.drop d,(p4.set hn).mono (by omega),((f2.trans f3).trans f4).set hS,zd1 q4,fun u hu=>?_,fun q hq=>?_,by simp;omega,by simp;omega,(by first|rfl|trivial)⟩
   ·rcases (mem u).mp hu with hu|rfl
    ·exact hz.good u hu
    ·exact hg
   ·rw [List.take_add_one,hp] at hq
    rcases List.mem_append.mp hq with hq|hq
    ·obtain ⟨u,hu,hh⟩:=hz.has q hq
     exact ⟨u,(mem u).mpr (.inl hu),hh⟩
    ·have:q=p:=by simpa using hq
     subst this
     exact ⟨z,(mem z).mpr (.inr rfl),hza⟩
  rintro l S3 ⟨us,p3,f3,q3,g3,h3,le1,le2,rfl⟩
  have nx:∀S4,Pn ns (k+10*i+8) S4->Fr S S4->S4[n]? = some (.lst (zay us))->∃zs,Pn ns (k+10*((i+1:Nat):Int)) S4/\Fr S S4/\S4[n]? = some (.lst (zay zs))/\NetR v off on (i+1) zs:=fun S4 a f b =>
   ⟨us,a.mono (by push_cast;omega),f,b,g3,h3,by omega⟩
  simp only [zbj,ze0,zbe,zax,zat,zar,zaq,zal,zas,qg0,qg1,zan]
  refine (zcn ns _ _ 8 p3 (by omega) (by decide) (by decide)).mono ?_
  rintro u S4 ⟨⟨d,rfl,hd⟩,p4,f4⟩
  have q4:S4[n]? = some (.lst (zay us)):=f4 n _ (by omega) q3
  have p4':Pn ns (k+10*i+8) S4:=p4.mono (by omega)
  simp only [zdb,zbb,zhc,zbk q4,zbl,ze2,zcj]
  have other:(((Fl.nx:Fl)=.nx∨(Fl.nx:Fl)=.ct)/\∃zs,Pn ns (k+10*((i+1:Nat):Int)) S4/\Fr S S4/\S4[n]? = some (.lst (zay zs))/\NetR v off on (i+1) zs/\∃y5,[some (D.ref 1),some (.int v),some (.tup (zae on)),some (.tup (zae off)),some (.ref n),some (.int p)]=[some (.ref 1),some (.int v),some (.tup (zae on)),some (.tup (zae off)),some (.ref n),y5])∨∃d,(Fl.nx:Fl)=.rt d/\False:=by
   obtain ⟨zs,a,f,b,c⟩:=nx S4 p4' (f3.trans f4) q4
   exact .inl ⟨.inl rfl,zs,a,f,b,c,_,rfl⟩
  cases decide ((d:Int)=7) with
  | false =>
   simp only [Bool.false_eq_true,if_false,zby]
   simpa using other
  | true =>
   cases decide ((us.length:Int)<12) with
   | false =>
    simp only [if_true,Bool.false_eq_true,if_false,zby]
    simpa using other
   | true =>
    simp only [if_true,zd4]
    rw [zen]
    simp only [zal,qg0,qg1,zan]
    refine ⟨⟨_,show zdh (.ref n) S4=some _ from zbk q4⟩,?_⟩
    simp only [zar,zaq,zax,zat,zal,qg0,qg1,zan,zbl,zhc,zbk q4,zcj]
    refine (zcn ns _ _ (us.length:Int) p4' (by omega) (by omega) (by omega)).mono ?_
    rintro u S5 ⟨⟨e,rfl,he⟩,p5,f5⟩
    have q5:S5[n]? = some (.lst (zay us)):=f5 n _ (by omega) q4
    have hge:us[e]? = some us[e]:=qge (by omega)
    have hgs:(zay us)[e]? = some (.str us[e]):=by unfold zay;rw [qgm,hge];rfl
    simp only [zd8,zbk q5,atI_get hgs,zbl,zhz]
    refine ⟨_,q5,by rw [zcj];omega,.inl ⟨(by first|exact .inl rfl|exact .inl trivial|trivial),us++[us[e]],(p5.set hn).mono (by push_cast;omega),((f3.trans f4).trans f5).set hS,?_,⟨fun z hz'=>?_,fun q hq=>?_,by simp;omega⟩,_,rfl⟩⟩
    ·rw [zd1 q5,zuf]
    ·rcases List.mem_append.mp hz' with hz' | hz'
     ·exact g3 z hz'
     ·rw [List.mem_singleton.mp hz'];exact g3 _ (qmg hge)
    ·obtain ⟨z,hz',hh⟩:=h3 q hq
     exact ⟨z,List.mem_append_left _ hz',hh⟩
 ·rintro l S2 ⟨zs,p2,f2,q2,hz,y5,rfl⟩
  rw [zck] at p2 hz
  simp! only [zbk q2]
  exact ⟨zs,(by first|rfl|trivial),hz,p2.mono (by omega),f2⟩
noncomputable def num:List Nat->Nat
 | []=>0
 | x :: r=>x+2*num r
theorem zn2:∀xs:List Nat,(∀x∈xs,x<=1)->num xs<2 ^ xs.length
 | [],_=>by decide
 | x :: r,h=>by
  have h1:=zn2 r fun y hy=>h y (List.mem_cons_of_mem _ hy)
  have h2:=h x List.mem_cons_self
  show x+2*num r<2 ^ (r.length+1)
  rw [Nat.pow_succ];omega
noncomputable def zik:D->D
 | .tup [.int k,.int x]=>.int (x*2 ^ k.toNat)
 | _=>.non
theorem zul:∀(xs:List Nat) (k:Nat),∃ns:List Int,zd7 ((xs.mapIdx fun i (x:Nat)=>D.tup [.int ((k+i:Nat):Int),.int (x:Int)]).map zik)=some ns/\ns.sum=((2 ^ k*num xs:Nat):Int)
 | [],k=>⟨[],rfl,rfl⟩
 | x :: r,k=>by
  obtain ⟨ns,h1,h2⟩:=zul r (k+1)
  refine ⟨((x:Int)*2 ^ k) :: ns,?_,?_⟩
  ·rw [List.mapIdx_cons,List.map_cons]
   have e:(r.mapIdx fun i (x:Nat)=>D.tup [.int ((k+(i+1):Nat):Int),.int (x:Int)])=r.mapIdx fun i (x:Nat)=>D.tup [.int ((k+1+i:Nat):Int),.int (x:Int)]:=by
    congr 1;funext i x;rw [show k+(i+1)=k+1+i by omega]
   rw [e]
   show (zd7 (List.map zik (r.mapIdx fun i (x:Nat)=>D.tup [.int ((k+1+i:Nat):Int),.int (x:Int)]))).bind _=_
   rw [h1]
   simp
  ·rw [List.sum_cons,h2]
   show (x:Int)*2 ^ k+((2 ^ (k+1)*num r:Nat):Int)=((2 ^ k*(x+2*num r):Nat):Int)
   rw [Nat.pow_succ];push_cast
   rw [Int.mul_add,Int.mul_comm (x:Int)]
   congr 1
   rw [Int.mul_assoc]
theorem yhw (xs:List Nat):enl (zae xs)=xs.mapIdx fun i (x:Nat)=>D.tup [.int ((0+i:Nat):Int),.int (x:Int)]:=by
 unfold enl zae
 apply List.ext_getElem?
 intro i
 simp [List.getElem?_mapIdx,qgm]
 cases xs[i]? <;> rfl
theorem zum (n:Nat) (xs:List Nat) (S:Sto) (hn:lstOf S n=some (zae xs)) (h1:∀x∈xs,x<=1) (h2:xs.length<=100):Wo (zic [.ref n] S) fun v S'=>v=.int (num xs:Nat)/\Gr S S':=by
 have big:100<=sizeLine:=by decide
 unfold zic zsr
 simp only [zb5,List.map_cons,List.map_nil,List.length_cons,List.length_nil,Nat.reduceAdd,Nat.reduceSub,List.replicate,List.cons_append,List.nil_append,zb4,zat,zar,zaq]
 refine zhd (enl (zae xs)) zik (Gr S) (fun l=>∃y0 y1,l=[y0,y1]) (it:=itN (itL n)) (S1:=S) ?_ (Gr.refl S) ⟨_,_,rfl⟩ ?_ (by rw [zf4,zck];omega) ?_ ?_
 ·unfold zd6
  rw [as1 (x:=.ref n) (S1:=S) rfl]
  simp only [Option.bind_some]
  rw [hn,zf4];rfl
 ·intro i S' g
  unfold itN
  rw [zjm (g.lst hn),zfn];rfl
 ·rintro x l S1 hx ⟨y0,y1,rfl⟩ g1
  obtain ⟨i,y,rfl,hy⟩:=znz hx
  obtain ⟨b,rfl,hb⟩:=zgo hy
  have hi:i<100:=by have:=(qme hb).1;omega
  have hb1:=h1 b (qmg hb)
  simp only [zc7,zc9,zav,zc8,List.length_cons,List.length_nil,Nat.reduceAdd,qs0,qs1,true_and]
  refine ⟨g1,⟨_,_,rfl⟩,?_⟩
  have c1:(0:Int)<=(i:Int)/\(i:Int)<=1000000/\((b:Nat):Int).natAbs<2 ^ 64:=⟨by omega,by omega,by omega⟩
  simp only [zax,zal,qg0,qg1,zan,zhy,decide_eq_true_eq,c1,true_and,zik]
  first|exact ⟨(by first|rfl|trivial),g1⟩|exact g1
 ·intro S1 g1
  obtain ⟨ns,q1,q2⟩:=zul xs 0
  rw [←yhw] at q1
  have:zjc [.ref S1.length] (S1++[.lst ((enl (zae xs)).map zik)])=some (.int (num xs:Nat),S1++[.lst ((enl (zae xs)).map zik)]):=by
   show (lstOf _ _).bind _=_
   rw [zdp];simp only [Option.bind_some]
   rw [q1];simp only [Option.bind_some]
   rw [q2,Nat.pow_zero,Nat.one_mul]
  rw [this,zbh]
  exact ⟨rfl,g1.push _⟩
noncomputable def zcd (p:Nat) (zs:List Str):Nat:=if lacks zs p then 0 else 1
theorem zun (p:Nat) (zs:List Str):zcd p zs<=1:=by unfold zcd;split <;> omega
noncomputable def za2 (nets:List (List Str)):List D:=nets.map fun zs=>.tup (zay zs)
theorem zes (nets:List (List Str)):(za2 nets).length=nets.length:=by simp [za2]
noncomputable def OkNs (nets:List (List Str)):Prop:=∀zs∈nets,(∀z∈zs,z.cps.size<=100)/\zs.length<=100
noncomputable def zbm (b c:Nat) (nets:List (List Str)):D:=.tup [.int b,.int c,.tup (za2 nets)]
noncomputable def zcl (b:Nat) (nets:List (List Str)) (w a:Nat):Nat × Nat:=(num ((nets.map (zcd (w+a*2 ^ b))).take b),num ((nets.map (zcd (w+a*2 ^ b))).drop b))
theorem zlp (nets:List (List Str)) (k:Nat):(za2 nets).take k=za2 (nets.take k):=by unfold za2;rw [List.map_take]
theorem zn3 (nets:List (List Str)) (k:Nat):(za2 nets).drop k=za2 (nets.drop k):=by unfold za2;rw [List.map_drop]
theorem yhx (b c:Nat) (nets:List (List Str)) (w a:Nat) (S:Sto) (hb:b<=3) (hc:c<=2) (h:OkNs nets) (hl:nets.length<=10) (ha:a<100):Wo (zjs [zbm b c nets,.int w,.int a] S) fun d S'=>d=.tup [.int ((zcl b nets w a).1:Nat),.int ((zcl b nets w a).2:Nat)]/\Gr S S':=by
 have sz2:2<=sizeLine:=by decide
 have big:1000<=sizeLine:=by decide
 have c1:(0:Int)<=(b:Int)/\(b:Int)<=1000000/\((a:Nat):Int).natAbs<2 ^ 64:=⟨by omega,by omega,by omega⟩
 unfold zjs zsw zbm
 simp only [zb5,List.map_cons,List.map_nil,List.length_cons,List.length_nil,Nat.reduceAdd,Nat.reduceSub,List.replicate,List.cons_append,List.nil_append]
 refine zau (fun l S'=>S' = S/\l=[some (.tup [.int b,.int c,.tup (za2 nets)]),some (.int w),some (.int a),some (.int b),some (.int c),some (.tup (za2 nets)),none,none]) (by simp! only [true_and,and_self]) ?_
 rintro l S1 ⟨rfl,rfl⟩
 refine zau (fun l S'=>S' = S1/\l=[some (.tup [.int b,.int c,.tup (za2 nets)]),some (.int w),some (.int a),some (.int b),some (.int c),some (.tup (za2 nets)),some (.int ((w+a*2 ^ b:Nat):Int)),none]) ?_ ?_
 ·simp only [za8,zax,zal,zas,qg0,qg1,zan,zhy,decide_eq_true_eq,c1,true_and,and_self,zc6,zav,qs0,qs1,Int.toNat_natCast]
  push_cast
  first|exact ⟨(by first|rfl|trivial),(by first|rfl|trivial)⟩|trivial
 rintro l S2 ⟨rfl,rfl⟩
 generalize hp:w+a*2 ^ b=p
 refine zau (fun l S'=>Gr S2 S'/\∃n,S'[n]? = some (.lst (zae (nets.map (zcd p))))/\l=[some (.tup [.int b,.int c,.tup (za2 nets)]),some (.int w),some (.int a),some (.int b),some (.int c),some (.tup (za2 nets)),some (.int p),some (.ref n)]) ?_ ?_
 ·rw [za8]
  refine zhd (za2 nets) (fun x=>match x with | .tup []=>.int (zcd p []) | .tup xs=>.int (zcd p (((zdz xs)).getD []))|_=>.non) (Gr S2) (fun l=>∃y0,l=[y0,some (.int p)]) (zjl rfl) (Gr.refl _) ⟨_,rfl⟩ (fun i S _=>rfl) (by rw [zes];omega) ?_ ?_
  ·rintro x l S3 hx ⟨y0,rfl⟩ g3
   obtain ⟨zs,hzs,rfl⟩:=List.mem_map.mp hx
   obtain ⟨ok,hzl⟩:=h zs hzs
   simp only [zav,qs0]
   refine ⟨g3,⟨_,rfl⟩,?_⟩
   simp only [zat,zar,zaq,zal,qg0,qg1,zan]
   refine (zt7 zs p S3 (fun z hz=>by have:=ok z hz;omega) (by omega)).mono ?_
   rintro d S4 ⟨rfl,g4⟩
   refine ⟨?_,g3.trans g4⟩
   have es:∀us:List Str,zdz (zay us)=some us:=fun us=>by
    induction us with
    | nil=>rfl
    | cons u us ih=>show (zdz (zay us)).bind _=_;rw [ih];rfl
   cases zs with
   | nil=>show D.int _=D.int ((zcd p []:Nat):Int);unfold zcd;split <;> rfl
   | cons u us =>
    show D.int _=D.int ((zcd p ((zdz (zay (u :: us))).getD []):Nat):Int)
    rw [es];unfold zcd;simp only [Option.getD_some];split <;> rfl
  ·intro S3 g3
   have e:((za2 nets).map fun x=>match x with | .tup []=>D.int (zcd p []) | .tup xs=>.int (zcd p (((zdz xs)).getD []))|_=>.non)=zae (nets.map (zcd p)):=by
    unfold za2 zae
    rw [List.map_map,List.map_map]
    refine List.map_congr_left fun zs _=>?_
    have es:∀us:List Str,zdz (zay us)=some us:=fun us=>by
     induction us with
     | nil=>rfl
     | cons u us ih=>show (zdz (zay us)).bind _=_;rw [ih];rfl
    cases zs with
    | nil=>rfl
    | cons u us=>show D.int ((zcd p ((zdz (zay (u :: us))).getD []):Nat):Int)=_;rw [es];rfl
   rw [e]
   simp only [zav,qs0,qs1]
   exact ⟨(by first|rfl|trivial),g3.push _,_,zbx _ _,rfl⟩
 rintro l S3 ⟨g3,n,hn,rfl⟩
 have bits:∀x∈nets.map (zcd p),x<=1:=fun x hx=>by obtain ⟨zs,_,rfl⟩:=List.mem_map.mp hx;exact zun p zs
 have intT:∀(xs:List Nat) (k:Nat),(zae xs).take k=zae (xs.take k):=fun xs k=>by unfold zae;rw [List.map_take]
 have intD:∀(xs:List Nat) (k:Nat),(zae xs).drop k=zae (xs.drop k):=fun xs k=>by unfold zae;rw [List.map_drop]
 simp only [zb4,zat,zar,zaq,zec,zd9,zea,zal,qg0,qg1,zan,zeb]
 rw [zsl (zbk hn),ze7,intT]
 refine (zum _ ((nets.map (zcd p)).take b) _ zdp (fun x hx=>bits x (List.mem_of_mem_take hx)) (by simp;omega)).mono ?_
 rintro d S4 ⟨rfl,g4⟩
 have hn4:=g4.get (Gr.get ⟨_,rfl⟩ hn)
 rw [zsl (zbk hn4),zf5,intD]
 refine (zum _ ((nets.map (zcd p)).drop b) _ zdp (fun x hx=>bits x (List.mem_of_mem_drop hx)) (by simp;omega)).mono ?_
 rintro d S5 ⟨rfl,g5⟩
 rw [zda]
 refine ⟨by simp only [List.length_cons,List.length_nil];exact sz2,?_,((g3.push _).trans g4 |>.push _).trans g5⟩
 unfold zcl;rw [hp]
noncomputable def zbq (b:Nat) (nets:List (List Str)):Nat->List Nat->List Nat × Nat
 | w,[]=>([],w)
 | w,a :: r=>((zcl b nets w a).2 :: (zbq b nets (zcl b nets w a).1 r).1,(zbq b nets (zcl b nets w a).1 r).2)
structure OkB (b c:Nat) (nets:List (List Str)):Prop where
 b1:1<=b
 b3:b<=3
 c2:c<=2
 ok:OkNs nets
 len:nets.length=b+3
theorem OkB.l10 {b c:Nat}{nets:List (List Str)}(h:OkB b c nets):nets.length<=10:=by have:=h.len;have:=h.b3;omega
theorem zuo {b c:Nat}{nets:List (List Str)}(h:OkB b c nets) (w a:Nat):(zcl b nets w a).1<8/\(zcl b nets w a).2<8:=by
 have hl:=h.len
 have hb:=h.b3
 have bits:∀x∈nets.map (zcd (w+a*2 ^ b)),x<=1:=fun x hx=>by obtain ⟨zs,_,rfl⟩:=List.mem_map.mp hx;exact zun _ zs
 unfold zcl
 constructor
 ·have:=zn2 ((nets.map (zcd (w+a*2 ^ b))).take b) fun x hx=>bits x (List.mem_of_mem_take hx)
  have e:((nets.map (zcd (w+a*2 ^ b))).take b).length<=3:=by simp;omega
  exact Nat.lt_of_lt_of_le this (Nat.le_trans (Nat.pow_le_pow_right (by decide) e) (by decide))
 ·have:=zn2 ((nets.map (zcd (w+a*2 ^ b))).drop b) fun x hx=>bits x (List.mem_of_mem_drop hx)
  have e:((nets.map (zcd (w+a*2 ^ b))).drop b).length<=3:=by simp;omega
  exact Nat.lt_of_lt_of_le this (Nat.le_trans (Nat.pow_le_pow_right (by decide) e) (by decide))
theorem zkc {b c:Nat}{nets:List (List Str)}(h:OkB b c nets):∀(row:List Nat) (w:Nat),w<8->(∀x∈(zbq b nets w row).1,x<8)/\(zbq b nets w row).2<8/\(zbq b nets w row).1.length=row.length
 | [],w,hw=>⟨fun x hx=>(by cases hx),hw,rfl⟩
 | a :: r,w,hw=>by
  obtain ⟨h1,h2⟩:=zuo h w a
  obtain ⟨q1,q2,q3⟩:=zkc h r _ h1
  refine ⟨fun x hx=>?_,q2,by show _+1=_+1;rw [q3]⟩
  rcases List.mem_cons.mp hx with rfl|hx
  ·exact h2
  ·exact q1 x hx
theorem zlq {b c:Nat}{nets:List (List Str)}(h:OkB b c nets) (w:Nat) (row:List Nat) (S:Sto) (hw:w<8) (hr:∀a∈row,a<100) (hl:row.length<=100) :
  Wo (zeq [zbm b c nets,.int w,.tup (zae row)] S) fun d S'=>∃n,d=.tup [.ref n,.int ((zbq b nets w row).2:Nat)]/\S.length<=n/\S'[n]? = some (.lst (zae (zbq b nets w row).1))/\Gr S S':=by
 have sz0:0<=sizeLine:=by decide
 have sz2:2<=sizeLine:=by decide
 have big:1000<=sizeLine:=by decide
 unfold zeq zsx
 simp only [zb5,List.map_cons,List.map_nil,List.length_cons,List.length_nil,Nat.reduceAdd,Nat.reduceSub,List.replicate,List.cons_append,List.nil_append]
 refine zau (fun l S'=>S' = S++[.lst []]/\l=[some (zbm b c nets),some (.int w),some (.tup (zae row)),some (.ref S.length),none,none,none]) (by simp! only [sz0,true_and,and_self]) ?_
 rintro l S1 ⟨rfl,rfl⟩
 refine zau (fun l S'=>S' = S++[.lst []]/\l=[some (zbm b c nets),some (.int w),some (.tup (zae row)),some (.ref S.length),some (.int w),none,none]) (by simp! only [and_self]) ?_
 rintro l S1 ⟨rfl,rfl⟩
 rw [zci]
 refine zjo (zae row) (fun i l S'=>Gr S S'/\∃(here:Nat) (as:List Nat),here<8/\as.length=i/\S'[S.length]? = some (.lst (zae as))/\as++(zbq b nets here (row.drop i)).1=(zbq b nets w row).1/\(zbq b nets here (row.drop i)).2=(zbq b nets w row).2/\∃y5 y6,l=[some (zbm b c nets),some (.int w),some (.tup (zae row)),some (.ref S.length),some (.int here),y5,y6]) (fun _ _=>False) rfl
  ⟨⟨_,rfl⟩,w,[],hw,rfl,zbx _ _,by rw [List.drop_zero];rfl,by rw [List.drop_zero],_,_,rfl⟩ ?_ ?_ (fun d l S h=>h.elim)
 ·rintro i x l S2 hx ⟨g2,here,as,hh,hla,q2,e1,e2,y5,y6,rfl⟩
  obtain ⟨a,rfl,ha⟩:=zgo hx
  have hi:i<row.length:=(qme ha).1
  rw [zj8 ha] at e1 e2
  rw [zav]
  simp only [qs0,qs1]
  refine zau (fun l S'=>Gr S2 S'/\l=[some (zbm b c nets),some (.int w),some (.tup (zae row)),some (.ref S.length),some (.int ((zcl b nets here a).1:Nat)),some (.int a),some (.int ((zcl b nets here a).2:Nat))]) ?_ ?_
  ·simp only [za8,zat,zar,zaq,zal,qg0,qg1,zan]
   refine (yhx b c nets here a S2 h.b3 h.c2 h.ok h.l10 (hr a (qmg ha))).mono ?_
   rintro d S3 ⟨rfl,g3⟩
   simp only [zc7,zc9,zav,zc8,List.length_cons,List.length_nil,Nat.reduceAdd,qs0,qs1,true_and]
   exact ⟨g3,(by first|rfl|trivial)⟩
  rintro l S3 ⟨g3,rfl⟩
  have q3:=g3.get q2
  simp only [zd4,zen,zal,zar,zaq,qg0,qg1,zan,zhz]
  refine ⟨⟨_,show zdh (.ref S.length) S3=some _ from zbk q3⟩,_,q3,by rw [zck];omega,.inl ⟨(by first|exact .inl rfl|exact .inl trivial|trivial),?_,(zcl b nets here a).1,as++[(zcl b nets here a).2],(zuo h here a).1,by simp [hla],?_,?_,e2,_,_,rfl⟩⟩
  ·obtain ⟨ex,rfl⟩:=g2.trans g3
   cases ex with
   | nil=>rw [List.append_nil] at q3;have:=(qme q3).1;omega
   | cons o ex =>
    refine ⟨.lst (zae as++[.int ((zcl b nets here a).2:Nat)]) :: ex,?_⟩
    rw [List.set_append_right _ _ (qlr _),Nat.sub_self];rfl
  ·rw [zd1 q3,zj9]
  ·rw [List.append_assoc];exact e1
 ·rintro l S2 ⟨g2,here,as,hh,hla,q2,e1,e2,y5,y6,rfl⟩
  rw [List.drop_of_length_le (by rw [zck];exact qlr _)] at e1 e2
  have e1:as++[]=_:=e1
  have e2:here=_:=e2
  rw [List.append_nil] at e1
  subst e1 e2
  simp! only [sz2,true_and]
  exact ⟨_,rfl,qlr _,q2,g2⟩
noncomputable abbrev Cl:=Option Nat × Option Nat
noncomputable def oD:Option Nat->D
 | none=>.non
 | some n=>.int (n:Int)
noncomputable def cD (c:Cl):D:=.tup [oD c.1,oD c.2]
noncomputable def rD (cs:List Cl):D:=.tup (cs.map cD)
noncomputable def mD (asks:Nat) (rs:List (List Cl)):D:=.tup [.int (asks:Int),.tup (rs.map rD)]
structure OkC (m:Nat) (c:Cl):Prop where
 go:∀g,c.1=some g->g<m
 sa:∀s,c.2=some s->s<8
structure OkM (asks:Nat) (rs:List (List Cl)):Prop where
 a1:1<=asks
 a4:asks<=4
 r1:1<=rs.length
 r8:rs.length<=8
 len:∀cs∈rs,cs.length=asks
 ok:∀cs∈rs,∀c∈cs,OkC rs.length c
theorem yhy (i:Nat) (hi:(i:Int)<4):∃m:Nat,L2.atI [D.int 0,.int 1,.int 4,.int 7] (i:Int)=some (.int m):=by
 have:i=0∨i=1∨i=2∨i=3:=by omega
 rcases this with rfl|rfl|rfl|rfl
 ·exact ⟨0,rfl⟩
 ·exact ⟨1,rfl⟩
 ·exact ⟨4,rfl⟩
 ·exact ⟨7,rfl⟩
theorem yhz (i:Nat) (hi:(i:Int)<4):∃m:Nat,L2.atI [D.int 2,.int 3,.int 8,.int 8] (i:Int)=some (.int m)/\1<=m/\m<=8:=by
 have:i=0∨i=1∨i=2∨i=3:=by omega
 rcases this with rfl|rfl|rfl|rfl
 ·exact ⟨2,rfl,by decide,by decide⟩
 ·exact ⟨3,rfl,by decide,by decide⟩
 ·exact ⟨8,rfl,by decide,by decide⟩
 ·exact ⟨8,rfl,by decide,by decide⟩
theorem yh0 (ns:List Int) (S:Sto) (k:Int) (rooms asks:Nat) (h:Pn ns k S) (hk:k<1000) (hr1:1<=rooms) (hr8:rooms<=8) (ha1:1<=asks) (ha4:asks<=4):Wo (zj6 [.ref 1,.int rooms,.int asks] S) fun v S'=>∃rs,v=mD asks rs/\OkM asks rs/\rs.length=rooms/\Pn ns (k+200) S':=by
 have sz0:0<=sizeLine:=by decide
 have sz2:2<=sizeLine:=by decide
 have sz4:4<=sizeLine:=by decide
 have big:1000<=sizeLine:=by decide
 unfold zj6 ztm
 simp only [zb5,List.map_cons,List.map_nil,List.length_cons,List.length_nil,Nat.reduceAdd,Nat.reduceSub,List.replicate,List.cons_append,List.nil_append]
 refine zau (fun l S'=>Pn ns (k+1) S'/\∃share:Nat,l=[some (.ref 1),some (.int rooms),some (.int asks),some (.int share),none,none,none,none,none,none,none]) ?_ ?_
 ·simp only [za8,zax,zat,zar,zaq,zal,zas,qg0,qg1,zan,ze3,List.length_cons,List.length_nil,Nat.reduceAdd,sz4,true_and]
  refine (zcn ns _ _ 4 (h.push _) (by omega) (by decide) (by decide)).mono ?_
  rintro x S2 ⟨⟨d,rfl,hd⟩,p,f⟩
  obtain ⟨m,hm⟩:=yhy d hd
  have hl:=h.kept f
  simp only [zd8,hl,zbl,hm,zav,qs0,qs1]
  exact ⟨p,m,rfl⟩
 rintro l S1 ⟨p1,share,rfl⟩
 refine zau (fun l S'=>Pn ns (k+2) S'/\∃most:Nat,1<=most/\most<=8/\l=[some (.ref 1),some (.int rooms),some (.int asks),some (.int share),some (.int most),none,none,none,none,none,none]) ?_ ?_
 ·simp only [za8,zax,zat,zar,zaq,zal,zas,qg0,qg1,zan,ze3,List.length_cons,List.length_nil,Nat.reduceAdd,sz4,true_and]
  refine (zcn ns _ _ 4 (p1.push _) (by omega) (by decide) (by decide)).mono ?_
  rintro x S2 ⟨⟨d,rfl,hd⟩,p,f⟩
  obtain ⟨m,hm,hm1,hm2⟩:=yhz d hd
  have hl:=p1.kept f
  simp only [zd8,hl,zbl,hm,zav,qs0,qs1]
  exact ⟨p.mono (by omega),m,hm1,hm2,rfl⟩
 rintro l S2 ⟨p2,most,mo1,mo8,rfl⟩
 refine zau (fun l S'=>Pn ns (k+2) S'/\∃r,2<=r/\S'[r]? = some (.lst [])/\l=[some (.ref 1),some (.int rooms),some (.int asks),some (.int share),some (.int most),some (.ref r),none,none,none,none,none]) ?_ ?_
 ·simp! only [sz0,true_and]
  exact ⟨p2.push _,_,p2.two,zbx _ _,rfl⟩
 rintro l S3 ⟨p3,r,hr,h3,rfl⟩
 rw [zci]
 refine zib (n:=rooms) (fun i l S'=>Pn ns (k+2+16*i) S'/\∃rs:List (List Cl),rs.length=i/\(∀cs∈rs,cs.length=asks/\∀c∈cs,OkC rooms c)/\S'[r]? = some (.lst (rs.map rD))/\∃y6 y7 y8 y9 y10,l=[some (.ref 1),some (.int rooms),some (.int asks),some (.int share),some (.int most),some (.ref r),y6,y7,y8,y9,y10]) (fun _ _=>False) (as1 rfl) (by omega) ⟨by simpa using p3,[],rfl,(fun cs z=>by cases z),h3,_,_,_,_,_,rfl⟩ ?_ ?_ (fun d l S h=>h.elim)
 ·rintro i l S4 hi ⟨p4,rs,hl4,ok4,h4,y6,y7,y8,y9,y10,rfl⟩
  simp only [zav,qs0,qs1]
  have hrl:=(qme h4).1
  refine zau (fun l S'=>Pn ns (k+2+16*i) S'/\∃q,r<q/\S'[q]? = some (.lst [])/\S'[r]? = some (.lst (rs.map rD))/\l=[some (.ref 1),some (.int rooms),some (.int asks),some (.int share),some (.int most),some (.ref r),some (.int i),some (.ref q),y8,y9,y10]) ?_ ?_
  ·simp! only [sz0,true_and]
   exact ⟨p4.push _,_,hrl,zbx _ _,Gr.get ⟨_,rfl⟩ h4,rfl⟩
  rintro l S5 ⟨p5,q,hq,h5,h5r,rfl⟩
  rw [zci]
  refine zib (n:=asks) (fun j l S'=>Pn ns (k+2+16*i+4*j) S'/\∃cs:List Cl,cs.length=j/\(∀c∈cs,OkC rooms c)/\S'[q]? = some (.lst (cs.map cD))/\S'[r]? = some (.lst (rs.map rD))/\∃y8 y9 y10,l=[some (.ref 1),some (.int rooms),some (.int asks),some (.int share),some (.int most),some (.ref r),some (.int i),some (.ref q),y8,y9,y10]) (fun _ _=>False) (as1 rfl) (by omega) ⟨by simpa using p5,[],rfl,(fun cs z=>by cases z),h5,h5r,_,_,_,rfl⟩ ?_ ?_ (fun d l S h=>h.elim)
  ·rintro j l S6 hj ⟨p6,cs,hl6,ok6,h6,h6r,y8,y9,y10,rfl⟩
   simp only [zav,qs0,qs1]
   refine zau (fun l S'=>Pn ns (k+2+16*i+4*j+1) S'/\Fr S6 S'/\∃g:Nat,g<rooms/\l=[some (.ref 1),some (.int rooms),some (.int asks),some (.int share),some (.int most),some (.ref r),some (.int i),some (.ref q),some (.int j),some (.int g),y10]) ?_ ?_
   ·simp only [za8,zat,zar,zaq,zal,qg0,qg1,zan]
    refine (zcn ns _ _ (rooms:Int) p6 (by omega) (by omega) (by omega)).mono ?_
    rintro u S7 ⟨⟨g,rfl,hg⟩,p7,f7⟩
    simp only [zav,qs0,qs1]
    exact ⟨(by first|rfl|trivial),p7,f7,g,by omega,rfl⟩
   rintro l S7 ⟨p7,f7,g,hg,rfl⟩
   refine zau (fun l S'=>Pn ns (k+2+16*i+4*j+2) S'/\Fr S6 S'/\∃s:Nat,s<8/\l=[some (.ref 1),some (.int rooms),some (.int asks),some (.int share),some (.int most),some (.ref r),some (.int i),some (.ref q),some (.int j),some (.int g),some (.int s)]) ?_ ?_
   ·simp only [za8,zat,zar,zaq,zal,qg0,qg1,zan]
    refine (zcn ns _ _ (most:Int) p7 (by omega) (by omega) (by omega)).mono ?_
    rintro u S8 ⟨⟨s,rfl,hs⟩,p8,f8⟩
    simp only [zav,qs0,qs1]
    exact ⟨(by first|rfl|trivial),p8.mono (by omega),f7.trans f8,s,by omega,rfl⟩
   rintro l S8 ⟨p8,f8,s,hs,rfl⟩
   refine zau (fun l S'=>Pn ns (k+2+16*i+4*j+3) S'/\Fr S6 S'/\∃o:Option Nat,(∀g,o=some g->g<rooms)/\l=[some (.ref 1),some (.int rooms),some (.int asks),some (.int share),some (.int most),some (.ref r),some (.int i),some (.ref q),some (.int j),some (oD o),some (.int s)]) ?_ ?_
   ·simp only [zbj,zbe,zax,zat,zar,zaq,zal,zas,qg0,qg1,zan]
    refine (zcn ns _ _ 8 p8 (by omega) (by decide) (by decide)).mono ?_
    rintro u S9 ⟨⟨d,rfl,hd⟩,p9,f9⟩
    simp only [ze2,zbb]
    cases decide ((d:Int)<(share:Int)) with
    | true =>
     simp only [if_true,za8,zas,zav,qs0,qs1]
     exact ⟨(by first|rfl|trivial),p9.mono (by omega),f8.trans f9,none,(fun g z=>by cases z),rfl⟩
    | false =>
     simp only [Bool.false_eq_true,if_false,zby]
     exact ⟨(by first|rfl|trivial),p9.mono (by omega),f8.trans f9,some g,(fun g' z=>by cases z;exact hg),rfl⟩
   rintro l S9 ⟨p9,f9,o,ho,rfl⟩
   refine zau (fun l S'=>Pn ns (k+2+16*i+4*j+4) S'/\Fr S6 S'/\∃o2:Option Nat,(∀g,o2=some g->g<8)/\l=[some (.ref 1),some (.int rooms),some (.int asks),some (.int share),some (.int most),some (.ref r),some (.int i),some (.ref q),some (.int j),some (oD o),some (oD o2)]) ?_ ?_
   ·simp only [zbj,zbe,zax,zat,zar,zaq,zal,zas,qg0,qg1,zan]
    refine (zcn ns _ _ 8 p9 (by omega) (by decide) (by decide)).mono ?_
    rintro u S10 ⟨⟨d,rfl,hd⟩,p10,f10⟩
    simp only [ze2,zbb]
    cases decide ((d:Int)<(share:Int)) with
    | true =>
     simp only [if_true,za8,zas,zav,qs0,qs1]
     exact ⟨(by first|rfl|trivial),p10.mono (by omega),f9.trans f10,none,(fun g z=>by cases z),rfl⟩
    | false =>
     simp only [Bool.false_eq_true,if_false,zby]
     exact ⟨(by first|rfl|trivial),p10.mono (by omega),f9.trans f10,some s,(fun g' z=>by cases z;exact hs),rfl⟩
   rintro l S10 ⟨p10,f10,o2,ho2,rfl⟩
   have q10:=f10 q _ (by omega) h6
   have r10:=f10 r _ (by omega) h6r
   simp only [zd4,zen,zat,zal,zar,zaq,qg0,qg1,zan,zda,List.length_cons,List.length_nil,Nat.reduceAdd,sz2,true_and,zhz]
   refine ⟨⟨_,show zdh (.ref q) S10=some _ from zbk q10⟩,_,q10,by rw [qlm];omega,.inl ⟨(by first|exact .inl rfl|exact .inl trivial|trivial),(p10.set (by omega)).mono (by push_cast;omega),cs++[(o,o2)],by simp [hl6],fun c hc=>?_,?_,?_,_,_,_,rfl⟩⟩
   ·rcases List.mem_append.mp hc with z|z
    ·exact ok6 c z
    ·rw [List.mem_singleton.mp z];exact ⟨ho,ho2⟩
   ·rw [zd1 q10,List.map_append];rfl
   ·rw [List.getElem?_set_ne (by omega)];exact r10
  ·rintro l S6 ⟨p6,cs,hl6,ok6,h6,h6r,y8,y9,y10,rfl⟩
   simp only [zd4,zen,zat,zal,zar,zaq,qg0,qg1,zan,zbl,zi5,zbk h6,zhz]
   refine ⟨⟨_,show zdh (.ref r) S6=some _ from zbk h6r⟩,_,h6r,by rw [qlm];omega,.inl ⟨(by first|exact .inl rfl|exact .inl trivial|trivial),(p6.set hr).mono (by push_cast;omega),rs++[cs],by simp [hl4],fun c hc=>?_,?_,_,_,_,_,_,rfl⟩⟩
   ·rcases List.mem_append.mp hc with z|z
    ·exact ok4 c z
    ·rw [List.mem_singleton.mp z];exact ⟨hl6,ok6⟩
   ·rw [zd1 h6r,List.map_append];rfl
 ·rintro l S4 ⟨p4,rs,hl4,ok4,h4,y6,y7,y8,y9,y10,rfl⟩
  simp! only [zbk h4,sz2,true_and]
  subst hl4
  exact ⟨rs,(by first|rfl|trivial),⟨ha1,ha4,hr1,hr8,fun cs hc=>(ok4 cs hc).1,fun cs hc=>(ok4 cs hc).2⟩,(by first|rfl|trivial),p4.mono (by omega)⟩
noncomputable abbrev Ls:=List (Nat × Nat)
noncomputable def kvD (L:Ls):List (L2.Key × D):=L.map fun p=>(Sum.inl (p.1:Int),.int (p.2:Int))
theorem yh1 (L:Ls) (p:Nat):zdy (kvD L) (Sum.inl (p:Int))=(L.find? fun q=>decide (q.1=p)).map fun q=>D.int (q.2:Int):=by
 unfold zdy kvD
 induction L with
 | nil=>rfl
 | cons q L ih =>
  rw [List.map_cons,List.find?_cons,List.find?_cons]
  by_cases e:q.1=p
  ·subst e;simp
  ·have e1:decide ((Sum.inl (q.1:Int):L2.Key)=Sum.inl (p:Int))=false:=decide_eq_false fun z=>e (by have:=Sum.inl.inj z;omega)
   rw [e1,decide_eq_false e]
   exact ih
noncomputable def zkd (L:Ls) (p v:Nat):Ls:=if (L.any fun q=>decide (q.1=p))=true then L.map (fun q=>if q.1=p then (q.1,v) else q) else L++[(p,v)]
theorem yh2 (L:Ls) (p v:Nat):zf1 (kvD L) (Sum.inl (p:Int)) (.int (v:Int))=kvD (zkd L p v):=by
 unfold zf1 zkd
 have e0:∀q:Nat × Nat,decide ((Sum.inl (q.1:Int):L2.Key)=Sum.inl (p:Int))=decide (q.1=p):=fun q=>by
  by_cases e:q.1=p
  ·rw [e];simp
  ·rw [decide_eq_false e];exact decide_eq_false fun z=>e (by have:=Sum.inl.inj z;omega)
 have e1:((kvD L).any fun kv=>decide (kv.1=Sum.inl (p:Int)))=L.any fun q=>decide (q.1=p):=by
  unfold kvD
  rw [List.any_map]
  congr 1;funext q;exact e0 q
 rw [e1]
 by_cases h:(L.any fun q=>decide (q.1=p))=true
 ·rw [if_pos h,if_pos h]
  unfold kvD
  rw [List.map_map,List.map_map]
  refine List.map_congr_left fun q _=>?_
  by_cases e:q.1=p
  ·simp [e]
  ·have:¬((Sum.inl (q.1:Int):L2.Key)=Sum.inl (p:Int)):=fun z=>e (by have:=Sum.inl.inj z;omega)
   simp only [Function.comp,this,if_false,e]
 ·rw [if_neg h,if_neg h]
  unfold kvD
  rw [List.map_append];rfl
noncomputable def ks (L:Ls):List Nat:=(zgl (L.map fun q=>(q.1:Int))).map Int.toNat
theorem yh3 (L:Ls):(zgl (L.map fun q=>(q.1:Int))).map D.int=zae (ks L):=by
 unfold ks zae
 rw [List.map_map]
 refine List.map_congr_left fun i hi=>?_
 obtain ⟨q,_,rfl⟩:=List.mem_map.mp ((zh8 _).mem_iff.mp hi)
 simp
theorem zup (L:Ls) (p:Nat):p∈ks L↔p∈L.map (·.1):=by
 unfold ks
 rw [List.mem_map]
 constructor
 ·rintro ⟨i,hi,rfl⟩
  obtain ⟨q,hq,rfl⟩:=List.mem_map.mp ((zh8 _).mem_iff.mp hi)
  exact List.mem_map.mpr ⟨q,hq,by simp⟩
 ·intro h
  obtain ⟨q,hq,rfl⟩:=List.mem_map.mp h
  exact ⟨(q.1:Int),(zh8 _).mem_iff.mpr (List.mem_map.mpr ⟨q,hq,rfl⟩),by simp⟩
theorem yh4 (L:Ls):(ks L).length=L.length:=by
 unfold ks
 rw [qlm,(zh8 _).length_eq,qlm]
noncomputable def val (L:Ls) (p:Nat):Nat:=((L.find? fun q=>decide (q.1=p)).map (·.2)).getD 0
theorem yh5 {L:Ls}{p:Nat}(h:p∈L.map (·.1)):zdy (kvD L) (Sum.inl (p:Int))=some (.int (val L p:Nat)):=by
 rw [yh1]
 unfold val
 cases e:L.find? fun q=>decide (q.1=p) with
 | some q=>rfl
 | none =>
  obtain ⟨q,hq,rfl⟩:=List.mem_map.mp h
  have:=List.find?_eq_none.mp e q hq
  simp at this
theorem zuq {L:Ls}{p:Nat}(h:p∈L.map (·.1)):(p,val L p)∈L:=by
 unfold val
 cases e:L.find? fun q=>decide (q.1=p) with
 | some q =>
  have h1:=List.mem_of_find?_eq_some e
  have h2:=List.find?_some e
  simp at h2
  subst h2
  exact h1
 | none =>
  obtain ⟨q,hq,rfl⟩:=List.mem_map.mp h
  have:=List.find?_eq_none.mp e q hq
  simp at this
noncomputable def onL (L:Ls) (k x:Nat):List Nat:=(ks L).filter fun p=>decide (bt (val L p) k=x)
theorem yh6 (L:Ls):zha ((kvD L).map (·.1))=some (L.map fun q=>(q.1:Int)):=by
 have:(kvD L).map (·.1)=(L.map fun q=>(q.1:Int)).map Sum.inl:=by
  unfold kvD;rw [List.map_map,List.map_map];rfl
 rw [this]
 exact zr4 _
noncomputable def zn4 (L:Ls) (k x:Nat):D->Option D
 | .int p=>if bt (val L p.toNat) k=x then some (.int p) else none
 | _=>none
theorem yh7 (L:Ls) (k x:Nat):(zae (ks L)).filterMap (zn4 L k x)=zae (onL L k x):=by
 unfold onL
 generalize ks L=ps
 induction ps with
 | nil=>rfl
 | cons p ps ih =>
  unfold zae at ih ⊢
  rw [List.map_cons,List.filterMap_cons]
  simp only [zn4,Int.toNat_natCast]
  by_cases e:bt (val L p) k=x
  ·rw [if_pos e];simp only [List.filter_cons,e,decide_true,if_true,List.map_cons];rw [ih]
  ·rw [if_neg e];simp only [List.filter_cons,e,decide_false,Bool.false_eq_true,if_false];exact ih
theorem yh8 {S:Sto}{n p:Nat}{L:Ls}(h:S[n]? = some (.dct (kvD L))) (hp:p∈L.map (·.1)):dRd S (.ref n) (.int (p:Int))=some (some (.int (val L p:Nat))):=by
 unfold dRd
 dsimp only
 rw [h]
 show (some (zdy (kvD L) (Sum.inl (p:Int))))=_
 rw [yh5 hp]
theorem yh9 (n:Nat) (L:Ls) (S:Sto) (k:Nat) (h:S[n]? = some (.dct (kvD L))) (hl:L.length<64) (hk:k<=20):Wo (zhi [.ref n,.int k] S) fun d S'=>d=.tup [.tup (zae (onL L k 1)),.tup (zae (onL L k 0))]/\Gr S S':=by
 have sz2:2<=sizeLine:=by decide
 have big:1000<=sizeLine:=by decide
 unfold zhi zs3
 simp only [zb5,List.map_cons,List.map_nil,List.length_cons,List.length_nil,Nat.reduceAdd,Nat.reduceSub,List.replicate,List.cons_append,List.nil_append]
 refine zau (fun l S'=>S' = S++[.lst (zae (ks L))]/\l=[some (.ref n),some (.int k),some (.ref S.length),none,none]) ?_ ?_
 ·simp only [za8,zat,zar,zaq,zal,qg0,qg1,zan]
  have e:zjk [.ref n] S=some (.ref S.length,S++[.lst (zae (ks L))]):=by
   show (dctR S n).bind _=_
   have:dctR S n=some (kvD L):=by unfold dctR;rw [h]
   rw [this]
   simp only [Option.bind_some]
   rw [yh6]
   simp only [Option.bind_some,qlm]
   rw [if_pos hl,yh3]
  rw [e,zbh]
  simp only [zav,qs0,qs1,and_self]
 rintro l S1 ⟨rfl,rfl⟩
 have g1:Gr S (S++[.lst (zae (ks L))]):=⟨_,rfl⟩
 have pick:∀(x:Nat) (l:Lo) (S1:Sto) (Q:D->Sto->Prop),Gr (S++[.lst (zae (ks L))]) S1->zcc [none,some 0,some 1] l=[none,some (.ref n),some (.int k)]->zaa 2 l S1=some (.ref S.length,S1)->(∀S',Gr S1 S'->Q (.ref S'.length) (S'++[.lst (zae (onL L k x))])) ->
   We (zch (zdn (zaa 2)) [none,some 0,some 1] (zai 0) (tE (eOp dEq (zag zf6 (zac (eOp zg8 (zaa 1) (zaa 0)) (zac (zaa 2) (zaf)))) (eC (.int (x:Int))))) (zaa 0)) l S1 Q:=fun x l S1 Q gs hsrc hv fin=>by
  have hs1:lstOf S1 S.length=some (zae (ks L)):=gs.lst zdp
  have hn1:S1[n]? = some (.dct (kvD L)):=gs.get (g1.get h)
  refine zsf (zae (ks L)) (zn4 L k x) (Gr S1) (fun l=>∃y0,l=[y0,some (.ref n),some (.int k)]) (znv hv hs1) (Gr.refl _) ⟨_,hsrc⟩ (fun i S' g=>zjm (g.lst hs1)) (by rw [zck,yh4];omega) ?_ ?_
  ·rintro y l S2 hy ⟨y0,rfl⟩ g2
   obtain ⟨p,hp,rfl⟩:=zln hy
   simp only [zav,qs0]
   refine ⟨⟨_,rfl⟩,?_⟩
   simp only [zbe,zax,zat,zar,zaq,zal,zas,qg0,qg1,zan,yff,yh8 (g2.get hn1) ((zup L p).mp hp),Option.some.injEq,exists_eq_left',zt2,zdb,zbb]
   refine ⟨g2,fun e=>?_,fun e=>?_⟩
   ·have e:¬((bt (val L p) k:Nat):Int)=(x:Int):=of_decide_eq_false e
    show (if bt (val L ((p:Int).toNat)) k=x then some (D.int p) else none)=none
    rw [Int.toNat_natCast,if_neg (by omega)]
   ·have e:((bt (val L p) k:Nat):Int)=(x:Int):=of_decide_eq_true e
    refine ⟨?_,g2⟩
    show (if bt (val L ((p:Int).toNat)) k=x then some (D.int p) else none)=some (.int p)
    rw [Int.toNat_natCast,if_pos (by omega)]
  ·intro S2 g2
   rw [yh7]
   exact fin S2 g2
 refine zau (fun l S'=>Gr (S++[.lst (zae (ks L))]) S'/\∃a,S'[a]? = some (.lst (zae (onL L k 1)))/\l=[some (.ref n),some (.int k),some (.ref S.length),some (.ref a),none]) ?_ ?_
 ·rw [za8]
  refine pick 1 _ _ _ (Gr.refl _) rfl rfl fun S' g=>?_
  simp only [zav,qs0,qs1]
  exact ⟨(by first|rfl|trivial),g.push _,_,zbx _ _,rfl⟩
 rintro l S2 ⟨g2,a,ha,rfl⟩
 refine zau (fun l S'=>Gr S2 S'/\∃c,S'[c]? = some (.lst (zae (onL L k 0)))/\l=[some (.ref n),some (.int k),some (.ref S.length),some (.ref a),some (.ref c)]) ?_ ?_
 ·rw [za8]
  refine pick 0 _ _ _ g2 rfl rfl fun S' g=>?_
  simp only [zav,qs0,qs1]
  exact ⟨(by first|rfl|trivial),g.push _,_,zbx _ _,rfl⟩
 rintro l S3 ⟨g3,c,hc,rfl⟩
 simp! only [zbk hc,zbk (g3.get ha),sz2,true_and]
 first|exact ⟨(by first|rfl|trivial),(g1.trans g2).trans g3⟩|exact (g1.trans g2).trans g3
noncomputable def bOf:Nat->Nat
 | 0=>1
 | 1=>1
 | 2=>1
 | 3=>2
 | 4=>2
 | _=>3
noncomputable def cOf:Nat->Nat
 | 0=>0
 | 1=>0
 | 2=>1
 | _=>2
theorem zed {r:Nat}(h:r<=8):r<=2 ^ bOf r/\1<=bOf r/\bOf r<=3:=by
 have:r=0∨r=1∨r=2∨r=3∨r=4∨r=5∨r=6∨r=7∨r=8:=by omega
 rcases this with rfl|rfl|rfl|rfl|rfl|rfl|rfl|rfl|rfl <;> decide
theorem zhn {a:Nat}(h:a<=4):a<=2 ^ cOf a/\cOf a<=2:=by
 have:a=0∨a=1∨a=2∨a=3∨a=4:=by omega
 rcases this with rfl|rfl|rfl|rfl|rfl <;> decide
theorem yia {r:Nat}(h1:1<=r) (h8:r<=8):(if (Builtin.Int.intBits ((r:Int)-1):Int) > 1 then (Builtin.Int.intBits ((r:Int)-1):Int) else 1)=(bOf r:Nat):=by
 have:r=1∨r=2∨r=3∨r=4∨r=5∨r=6∨r=7∨r=8:=by omega
 rcases this with rfl|rfl|rfl|rfl|rfl|rfl|rfl|rfl <;> decide +kernel
theorem yib {a:Nat}(h1:1<=a) (h4:a<=4):(Builtin.Int.intBits ((a:Int)-1):Int)=(cOf a:Nat):=by
 have:a=1∨a=2∨a=3∨a=4:=by omega
 rcases this with rfl|rfl|rfl|rfl <;> decide +kernel
theorem yic {i:Int}{S:Sto}{Q:D->Sto->Prop}:Wo (zlf (.int i) S) Q=Q (.int (Builtin.Int.intBits i)) S:=zbh
theorem yid {i j:Int}{S:Sto}{Q:D->Sto->Prop}:Wo (zi0 [.int i,.int j] S) Q=Q (.int (if j > i then j else i)) S:=zbh
noncomputable def bcD (asks:Nat) (rs:List (List Cl)):D:=.tup [.int (bOf rs.length:Nat),.int (cOf asks:Nat)]
theorem yie {asks:Nat}{rs:List (List Cl)}(h:OkM asks rs) (S:Sto):ze8 [mD asks rs] S=some (bcD asks rs,S):=by
 have sz2:2<=sizeLine:=by decide
 have h8:=h.r8
 have ng:¬((8:Int)<(rs.length:Int)):=by omega
 have:Wo (ze8 [mD asks rs] S) fun v S'=>v=bcD asks rs/\S' = S:=by
  unfold ze8 zs4 mD bcD
  simp only [zb5,List.map_cons,List.map_nil,List.length_cons,List.length_nil,Nat.reduceAdd,Nat.reduceSub,List.replicate,List.cons_append,List.nil_append]
  refine zau (fun l S'=>S' = S/\l=[some (.tup [.int asks,.tup (rs.map rD)]),some (.int asks),some (.tup (rs.map rD))]) (by simp! only [true_and,and_self]) ?_
  rintro l S1 ⟨rfl,rfl⟩
  refine zau (fun l S'=>S' = S1/\l=[some (.tup [.int asks,.tup (rs.map rD)]),some (.int asks),some (.tup (rs.map rD))]) ?_ ?_
  ·simp! only [qlm,ng,decide_false,Bool.false_eq_true,if_false,and_self]
  rintro l S2 ⟨rfl,rfl⟩
  simp! only [yic,yid,qlm,sz2,true_and,yia h.r1 h.r8,yib h.a1 h.a4]
  all_goals first|exact ⟨(by first|rfl|trivial),(by first|rfl|trivial)⟩|trivial
 obtain ⟨v,S',e,rfl,rfl⟩:=this
 exact e
theorem yif {f g:D->D->Sto->Option (D × Sto)}{a b c:EM}{l:Lo}{S:Sto}{Q:D->Sto->Prop}:We (zhu f g a b c) l S Q=We a l S fun x S1=>We b l S1 fun y S2=>Wo (f x y S2) fun r S3=>∃k,r=.bl k/\if k=true then We c l S3 fun z S4=>Wo (g y z S4) Q else Q (.bl false) S3:=by
 apply propext
 constructor
 ·rintro ⟨v,S',h,q⟩
  obtain ⟨⟨x,S1⟩,h1,h⟩:=bnd h
  obtain ⟨⟨y,S2⟩,h2,h⟩:=bnd h
  obtain ⟨⟨r,S3⟩,h3,h⟩:=bnd h
  refine ⟨x,S1,h1,y,S2,h2,r,S3,h3,?_⟩
  cases r with
  | bl k =>
   cases k with
   | true =>
    obtain ⟨⟨z,S4⟩,h4,h⟩:=bnd h
    exact ⟨true,rfl,z,S4,h4,v,S',h,q⟩
   | false=>cases h;exact ⟨false,rfl,q⟩
  | _=>cases h
 ·rintro ⟨x,S1,h1,y,S2,h2,r,S3,h3,k,rfl,h⟩
  cases k with
  | true =>
   obtain ⟨z,S4,h4,v,S',h,q⟩:=h
   refine ⟨v,S',?_,q⟩
   unfold zhu;rw [h1];show (b l S1).bind _=_;rw [h2];show (f x y S2).bind _=_;rw [h3];show (c l S3).bind _=_;rw [h4];exact h
  | false =>
   refine ⟨_,_,?_,h⟩
   unfold zhu;rw [h1];show (b l S1).bind _=_;rw [h2];show (f x y S2).bind _=_;rw [h3];rfl
theorem yig:isI "int" "bool" = false:=by decide
theorem yih {d n:Nat}(h:d<n) (S:Sto):zid [.int (d:Int),.int (n:Int)] S=some (.bl true,S):=by
 have:Wo (zid [.int (d:Int),.int (n:Int)] S) fun v S'=>v=.bl true/\S' = S:=by
  unfold zid zs5
  have h0:(0:Int)<=(d:Int):=by omega
  have h1:(d:Int)<(n:Int):=by omega
  simp! only [zsd,zse,yig,yif,h0,h1,decide_true,if_true,Bool.not_false]
  all_goals first|trivial|exact ⟨(by first|rfl|trivial),(by first|rfl|trivial)⟩
 obtain ⟨v,S',e,rfl,rfl⟩:=this
 exact e
theorem zur (ps:List Nat):zd7 (zae ps)=some (ps.map fun (p:Nat)=>(p:Int)):=by
 have:zae ps=(ps.map fun (p:Nat)=>(p:Int)).map D.int:=by unfold zae;rw [List.map_map];rfl
 rw [this];exact yc9 _
structure OkW (r:Nat) (ws:List Nat):Prop where
 len:ws.length=r
 nd:ws.Nodup
 lt:∀w∈ws,w<2 ^ bOf r
theorem yii {r:Nat}{ws:List Nat}(h:OkW r ws) (hr:r<=8) (S:Sto):Wo (zjw [.tup (zae ws),.int (r:Int),.int ((2 ^ bOf r:Nat):Int)] S) fun v S'=>v=.bl true/\Gr S S':=by
 have big:1000<=sizeLine:=by decide
 have hlen:=h.len
 have sb:scanBound=4096:=rfl
 unfold zjw zs6
 simp only [zb5,List.map_cons,List.map_nil,List.length_cons,List.length_nil,Nat.reduceAdd,Nat.reduceSub,List.replicate,List.cons_append,List.nil_append]
 have e1:isI "tuple" "tuple" = true:=by decide
 have el:((zae ws).length:Int)=(r:Int):=by rw [zck,hlen]
 refine zau (fun l S'=>S' = S/\l=[some (.tup (zae ws)),some (.int (r:Int)),some (.int ((2 ^ bOf r:Nat):Int))]) ?_ ?_
 ·simp! only [tyD,e1,zck,hlen,decide_true,Bool.not_true,Bool.false_eq_true,if_false,and_self]
 rintro l S1 ⟨rfl,rfl⟩
 simp only [zb4,zql,zat,zar,zaq]
 refine zhd (zae ws) (fun _=>.bl true) (Gr S1) (fun l=>∃y0,l=[y0,some (.int ((2 ^ bOf r:Nat):Int))]) (zjl rfl) (Gr.refl _) ⟨_,rfl⟩ (fun i S _=>rfl) (by rw [zck];omega) ?_ ?_
 ·rintro x l S2 hx ⟨y0,rfl⟩ g2
  obtain ⟨w,hw,rfl⟩:=zln hx
  simp only [zav,qs0]
  refine ⟨g2,⟨_,rfl⟩,?_⟩
  simp only [zat,zar,zaq,zal,qg0,qg1,zan]
  rw [yih (h.lt w hw),zbh]
  exact ⟨rfl,g2⟩
 ·intro S2 g2
  have ea:((zae ws).map fun _=>D.bl true).all zep=true:=by rw [List.all_map];exact List.all_eq_true.mpr fun _ _=>rfl
  have eb:((zae ws).map fun _=>D.bl true).all isT=true:=by rw [List.all_map];exact List.all_eq_true.mpr fun _ _=>rfl
  simp only [zns,zdp,zbl,ea,eb,true_and,zbb,if_true,zax,zat,zar,zaq,zal,qg0,qg1,zan]
  have g3:=g2.push (.lst ((zae ws).map fun _=>D.bl true))
  revert g3
  generalize S2++[Ob.lst ((zae ws).map fun _=>D.bl true)]=S3
  intro g3
  have nd:(ws.map fun (p:Nat)=>(p:Int)).Nodup:=List.pairwise_map.mpr (h.nd.imp fun h e=>h (by omega))
  have hd:=(yep _).mpr nd
  rw [qlm,hlen] at hd
  have es:zji [.tup (zae ws)] S3=some (.ref S3.length,S3++[.iset (fun k=>(dis (ws.map fun (p:Nat)=>(p:Int)) r).any (· == k)) r]):=by
   show (zd7 (zae ws)).bind _=_
   rw [zur]
   simp only [Option.bind_some,qlm,hlen,hd]
   rw [if_pos (by omega)]
  rw [es,zbh]
  have el:zjj [.ref S3.length] (S3++[.iset (fun k=>(dis (ws.map fun (p:Nat)=>(p:Int)) r).any (· == k)) r])=some (.int (r:Int),S3++[.iset (fun k=>(dis (ws.map fun (p:Nat)=>(p:Int)) r).any (· == k)) r]):=by
   show (match (S3++[Ob.iset (fun k=>(dis (ws.map fun (p:Nat)=>(p:Int)) r).any (· == k)) r])[S3.length]? with|some (.iset _ k)=>if k<scanBound then some (D.int k,_) else none|_=>none)=_
   rw [zbx]
   show (if r<scanBound then _ else _)=_
   rw [if_pos (by omega)]
  rw [el,zbh]
  simp only [zdb,decide_true]
  exact ⟨(by first|rfl|trivial),g3.push _⟩
theorem zn5 {asks:Nat}{rs:List (List Cl)}(h:OkM asks rs) {S:Sto}{Q:D->Sto->Prop}:Wo (ze8 [mD asks rs] S) Q=Q (bcD asks rs) S:=by rw [yie h,zbh]
theorem zke {asks:Nat}{rs:List (List Cl)}{S:Sto}{Q:D->Sto->Prop}:Wo (za4 (mD asks rs) (.int 1) S) Q=Q (.tup (rs.map rD)) S:=zbh
theorem zlr {asks:Nat}{rs:List (List Cl)}{S:Sto}{Q:D->Sto->Prop}:Wo (za4 (mD asks rs) (.int 0) S) Q=Q (.int (asks:Int)) S:=zbh
theorem zus {asks:Nat}{rs:List (List Cl)}{S:Sto}{Q:D->Sto->Prop}:Wo (za4 (bcD asks rs) (.int 0) S) Q=Q (.int (bOf rs.length:Nat)) S:=zbh
theorem zut {asks:Nat}{rs:List (List Cl)}{ws:List Nat}(h:OkM asks rs) (hw:OkW rs.length ws) (S:Sto):Wo (zhj [mD asks rs,.tup (zae ws)] S) fun v S'=>Gr S S':=by
 have hb:=(zed h.r8).2.2
 unfold zhj zs8
 simp only [zb5,List.map_cons,List.map_nil,List.length_cons,List.length_nil,Nat.reduceAdd,Nat.reduceSub,List.replicate,List.cons_append,List.nil_append,zbj,zi4,zbe,zat,zar,zaq,zal,qg0,qg1,zan]
 have:Wo (zjx [mD asks rs,.tup (zae ws)] S) fun v S'=>v=.bl true/\Gr S S':=by
  unfold zjx zs7
  simp only [zb5,List.map_cons,List.map_nil,List.length_cons,List.length_nil,Nat.reduceAdd,Nat.reduceSub,List.replicate,List.cons_append,List.nil_append,zb4,zat,zax,zar,zaq,zal,zas,qg0,qg1,zan]
  simp only [zke,ze6,qlm,zn5 h,zus,zhl (show bOf rs.length<=1000000 by omega)]
  exact yii hw h.r8 S
 refine this.mono ?_
 rintro v S' ⟨rfl,g⟩
 simp only [zbb,Bool.not_true,Bool.false_eq_true,if_false,zby]
 exact g
noncomputable def zl (xs ys:List D):List D:=List.zipWith (fun x y=>D.tup [x,y]) xs ys
theorem zuu (xs ys:List D):(zl xs ys).length=min xs.length ys.length:=by simp [zl]
theorem zuv (xs ys:List D) (i:Nat):(zl xs ys)[i]? = (xs[i]?).bind fun x=>(ys[i]?).map fun y=>D.tup [x,y]:=by
 unfold zl
 rw [List.getElem?_zipWith]
 cases xs[i]? <;> cases ys[i]? <;> rfl
theorem yij {i1 i2:ItM}{i:Nat}{S:Sto}{xs ys:List D}(h1:i1 i S=some xs[i]?) (h2:i2 i S=some ys[i]?):itZ i1 i2 i S=some (zl xs ys)[i]?:=by
 unfold itZ
 rw [h1,zuv]
 cases hx:xs[i]? with
 | none=>rfl
 | some x =>
  show (i2 i S).bind _=_
  rw [h2]
  cases hy:ys[i]? <;> rfl
theorem yik {as:AM}{l:Lo}{S S1:Sto}{xs ys:List D}(h:as l S=some ([.tup xs,.tup ys],S1)):zle as l S=some (itZ (itX xs) (itX ys),(zl xs ys).length+1,S1):=by
 unfold zle
 rw [h]
 show some _=_
 rw [zuu]
noncomputable def zcy (b:Nat) (ws:List Nat) (rs:List (List Cl)) (dn:Nat->Nat->Prop) (p v:Nat):Prop :=
 ∃i a w cs c g,dn i a/\ws[i]? = some w/\rs[i]? = some cs/\cs[a]? = some c/\p=w+a*2 ^ b/\c.1=some g/\ws[g]? = some v
noncomputable def zc1 (b:Nat) (ws:List Nat) (rs:List (List Cl)) (dn:Nat->Nat->Prop) (p v:Nat):Prop :=
 ∃i a w cs c,dn i a/\ws[i]? = some w/\rs[i]? = some cs/\cs[a]? = some c/\p=w+a*2 ^ b/\c.2=some v
noncomputable def zbr:Nat->Nat->Prop:=fun _ _=>True
noncomputable def Dn (i0 a0:Nat):Nat->Nat->Prop:=fun i a=>i<i0∨(i=i0/\a<a0)
structure DictR (R E:Nat->Nat->Prop) (L:Ls):Prop where
 nd:(L.map (·.1)).Nodup
 sound:∀q∈L,R q.1 q.2
 full:∀p v,E p v->p∈L.map (·.1)
theorem DictR.put {R E E':Nat->Nat->Prop}{L:Ls}{p v:Nat}(h:DictR R E L) (hR:R p v) (hE:∀p' v',E' p' v'->E p' v'∨p' = p):DictR R E' (zkd L p v):=by
 unfold zkd
 by_cases e:(L.any fun q=>decide (q.1=p))=true
 ·rw [if_pos e]
  have ek:(L.map fun q=>if q.1=p then (q.1,v) else q).map (·.1)=L.map (·.1):=by
   rw [List.map_map]
   refine List.map_congr_left fun q _=>?_
   by_cases z:q.1=p <;> simp [z]
  obtain ⟨q0,hq0,e0⟩:=List.any_eq_true.mp e
  have e0:q0.1=p:=of_decide_eq_true e0
  refine ⟨by rw [ek];exact h.nd,fun q hq=>?_,fun p' v' he=>?_⟩
  ·obtain ⟨q1,hq1,rfl⟩:=List.mem_map.mp hq
   by_cases z:q1.1=p
   ·rw [if_pos z];subst z;exact hR
   ·rw [if_neg z];exact h.sound q1 hq1
  ·rw [ek]
   rcases hE p' v' he with z|z
   ·exact h.full p' v' z
   ·rw [z,←e0];exact List.mem_map.mpr ⟨q0,hq0,rfl⟩
 ·rw [if_neg e]
  have ne:∀q∈L,q.1≠p:=fun q hq z=>e (List.any_eq_true.mpr ⟨q,hq,decide_eq_true z⟩)
  refine ⟨?_,fun q hq=>?_,fun p' v' he=>?_⟩
  ·rw [List.map_append,List.nodup_append]
   refine ⟨h.nd,by simp,fun a ha b hb=>?_⟩
   obtain ⟨q,hq,rfl⟩:=List.mem_map.mp ha
   have:b=p:=by simpa using hb
   rw [this];exact ne q hq
  ·rcases List.mem_append.mp hq with z|z
   ·exact h.sound q z
   ·rw [List.mem_singleton.mp z];exact hR
  ·rw [List.map_append]
   rcases hE p' v' he with z|z
   ·exact List.mem_append_left _ (h.full p' v' z)
   ·rw [z];exact List.mem_append_right _ (by simp)
theorem DictR.weak {R E E':Nat->Nat->Prop}{L:Ls}(h:DictR R E L) (hE:∀p v,E' p v->E p v):DictR R E' L:=⟨h.nd,h.sound,fun p v z=>h.full p v (hE p v z)⟩
theorem zuw:∀(ps R:List Nat),ps.Nodup->(∀p∈ps,p∈R)->ps.length<=R.length
 | [],R,_,_=>Nat.zero_le _
 | p :: ps,R,nd,h=>by
  obtain ⟨R1,R2,rfl⟩:=List.append_of_mem (h p List.mem_cons_self)
  have nd2:=List.nodup_cons.mp nd
  have:=zuw ps (R1++R2) nd2.2 fun q hq=>by
   have:=h q (List.mem_cons_of_mem _ hq)
   rcases List.mem_append.mp this with z|z
   ·exact List.mem_append.mpr (.inl z)
   ·rcases List.mem_cons.mp z with rfl|z
    ·exact absurd hq nd2.1
    ·exact List.mem_append.mpr (.inr z)
  rw [qla] at this
  rw [List.length_cons,qla,List.length_cons]
  omega
theorem zux {asks:Nat}{rs:List (List Cl)}{ws:List Nat}(h:OkM asks rs) (hw:OkW rs.length ws) {i a w:Nat}{cs:List Cl}{c:Cl}(h1:ws[i]? = some w) (h2:rs[i]? = some cs) (h3:cs[a]? = some c):w+a*2 ^ bOf rs.length<2 ^ (bOf rs.length+cOf asks):=by
 have l1:=hw.lt w (qmg h1)
 have l2:=(qme h3).1
 rw [h.len cs (qmg h2)] at l2
 have l3:=(zhn h.a4).1
 have:(a+1)*2 ^ bOf rs.length<=2 ^ cOf asks*2 ^ bOf rs.length:=Nat.mul_le_mul (by omega) (qlr _)
 rw [Nat.pow_add,Nat.mul_comm (2 ^ bOf rs.length) (2 ^ cOf asks)]
 rw [Nat.add_mul,Nat.one_mul] at this
 omega
theorem zn6 {asks:Nat}{rs:List (List Cl)}(h:OkM asks rs):2 ^ (bOf rs.length+cOf asks)<=32:=by
 have h1:=(zed h.r8).2.2
 have h2:=(zhn h.a4).2
 exact Nat.le_trans (Nat.pow_le_pow_right (by decide) (show bOf rs.length+cOf asks<=5 by omega)) (by decide)
theorem zls {R E:Nat->Nat->Prop}{L:Ls}{m:Nat}(h:DictR R E L) (hm:∀p v,R p v->p<m):L.length<=m:=by
 have:=zuw (L.map (·.1)) (List.range m) h.nd fun p hp=>by
  obtain ⟨q,hq,rfl⟩:=List.mem_map.mp hp
  exact List.mem_range.mpr (hm _ _ (h.sound q hq))
 simpa using this
theorem zuy {S:Sto}{n p v:Nat}{L:Ls}(h:S[n]? = some (.dct (kvD L))) (hl:L.length<64):zg9 (.ref n) (.int (p:Int)) (.int (v:Int)) S=some (S.set n (.dct (kvD (zkd L p v)))):=by
 have big:1000<=sizeLine:=by decide
 have e:(kvD L).length=L.length:=by unfold kvD;rw [qlm]
 unfold zg9
 dsimp only
 rw [h]
 show (if (kvD L).length<sizeLine then some (S.set n (.dct (zf1 (kvD L) (Sum.inl (p:Int)) (.int (v:Int))))) else none)=_
 rw [if_pos (by omega),yh2]
noncomputable def ze9 (t:List Nat × List Nat):D:=.tup [.tup (zae t.1),.tup (zae t.2)]
noncomputable def zdg (b:Nat) (L3 L4:Ls):List (List Nat × List Nat):=((List.range b).map fun k=>(onL L3 k 1,onL L3 k 0))++((List.range 3).map fun k=>(onL L4 k 1,onL L4 k 0))
theorem zuz (b:Nat) (L3 L4:Ls):(zdg b L3 L4).length=b+3:=by simp [zdg]
theorem zu0 {l:Lo}{S:Sto}{Q:D->Sto->Prop}:We zk2 l S Q=Q (.ref S.length) (S++[.dct []]):=propext ⟨fun hx1_=>by obtain ⟨v,S',e,q⟩:=hx1_;cases e;exact q,fun q=>⟨_,_,rfl,q⟩⟩
structure Two (b:Nat) (ws:List Nat) (rs:List (List Cl)) (S0:Sto) (n3 n4 i a:Nat) (S:Sto):Prop where
 gr:Gr S0 S
 d3:∃L,S[n3]? = some (.dct (kvD L))/\DictR (zcy b ws rs zbr) (zcy b ws rs (Dn i a)) L
 d4:∃L,S[n4]? = some (.dct (kvD L))/\DictR (zc1 b ws rs zbr) (zc1 b ws rs (Dn i a)) L
theorem zn7 {asks:Nat}{rs:List (List Cl)}{ws:List Nat}(h:OkM asks rs) (hw:OkW rs.length ws) {dn:Nat->Nat->Prop}{p v:Nat}(z:zcy (bOf rs.length) ws rs dn p v):p<2 ^ (bOf rs.length+cOf asks):=by
 obtain ⟨i,a,w,cs,c,g,_,h1,h2,h3,rfl,_,_⟩:=z
 exact zux h hw h1 h2 h3
theorem zn8 {asks:Nat}{rs:List (List Cl)}{ws:List Nat}(h:OkM asks rs) (hw:OkW rs.length ws) {dn:Nat->Nat->Prop}{p v:Nat}(z:zc1 (bOf rs.length) ws rs dn p v):p<2 ^ (bOf rs.length+cOf asks):=by
 obtain ⟨i,a,w,cs,c,_,h1,h2,h3,rfl,_⟩:=z
 exact zux h hw h1 h2 h3
theorem zu1 {asks:Nat}{rs:List (List Cl)}{ws:List Nat}(h:OkM asks rs) (hw:OkW rs.length ws) (S:Sto):Wo (zie [mD asks rs,.tup (zae ws)] S) fun d S'=>∃n L3 L4,d=.ref n/\S'[n]? = some (.lst ((zdg (bOf rs.length) L3 L4).map ze9))/\DictR (zcy (bOf rs.length) ws rs zbr) (zcy (bOf rs.length) ws rs zbr) L3/\DictR (zc1 (bOf rs.length) ws rs zbr) (zc1 (bOf rs.length) ws rs zbr) L4/\Gr S S':=by
 have big:1000<=sizeLine:=by decide
 obtain ⟨hb1,hb2,hb3⟩:=zed h.r8
 have h32:=zn6 h
 generalize hb:bOf rs.length=b at *
 unfold zie zs9
 simp only [zb5,List.map_cons,List.map_nil,List.length_cons,List.length_nil,Nat.reduceAdd,Nat.reduceSub,List.replicate,List.cons_append,List.nil_append]
 refine zau (fun l S'=>Gr S S'/\l=[some (mD asks rs),some (.tup (zae ws)),none,none,none,none,none,none,none,none,none]) ?_ ?_
 ·simp only [zd4,zat,zar,zaq,zal,qg0,qg1,zan]
  refine (zut h hw S).mono ?_
  intro v S1 g
  exact ⟨(by first|rfl|trivial),g,(by first|rfl|trivial)⟩
 rintro l S1 ⟨g1,rfl⟩
 refine zau (fun l S'=>S' = S1/\l=[some (mD asks rs),some (.tup (zae ws)),some (.int (b:Int)),none,none,none,none,none,none,none,none]) ?_ ?_
 ·simp only [za8,zax,zat,zar,zaq,zal,zas,qg0,qg1,zan,zn5 h,zus,hb,zav,qs0,qs1,and_self]
 rintro l S2 ⟨rfl,rfl⟩
 refine zau (fun l S'=>S' = S2++[.dct []]/\l=[some (mD asks rs),some (.tup (zae ws)),some (.int (b:Int)),some (.ref S2.length),none,none,none,none,none,none,none]) (by simp only [za8,zu0,zav,qs0,qs1,and_self]) ?_
 rintro l S3 ⟨rfl,rfl⟩
 refine zau (fun l S'=>S' = S2++[.dct []]++[.dct []]/\l=[some (mD asks rs),some (.tup (zae ws)),some (.int (b:Int)),some (.ref S2.length),some (.ref (S2.length+1)),none,none,none,none,none,none]) (by simp only [za8,zu0,zav,qs0,qs1,qla,List.length_singleton,and_self]) ?_
 rintro l S3 ⟨rfl,rfl⟩
 have t0:Two b ws rs S2 S2.length (S2.length+1) 0 0 (S2++[.dct []]++[.dct []]):=by
  refine ⟨(Gr.push ⟨_,rfl⟩ _),⟨[],zjp (zbx _ _),List.nodup_nil,(fun q hq=>by cases hq),fun p v z=>?_⟩,⟨[],?_,List.nodup_nil,(fun q hq=>by cases hq),fun p v z=>?_⟩⟩
  ·obtain ⟨i,a,_,_,_,_,z|z,_⟩:=z
   ·omega
   ·omega
  ·have:=zbx (S2++[Ob.dct []]) (Ob.dct [])
   rw [qla,List.length_singleton] at this
   exact this
  ·obtain ⟨i,a,_,_,_,z|z,_⟩:=z
   ·omega
   ·omega
 rw [zci]
 refine zjn (zl (zae ws) (rs.map rD)) (fun i l S'=>Two b ws rs S2 S2.length (S2.length+1) i 0 S'/\∃y5 y6 y7 y8 y9 y10,l=[some (mD asks rs),some (.tup (zae ws)),some (.int (b:Int)),some (.ref S2.length),some (.ref (S2.length+1)),y5,y6,y7,y8,y9,y10]) (fun _ _=>False) (it:=itZ (itX (zae ws)) (itX (rs.map rD))) (yik rfl) ⟨t0,_,_,_,_,_,_,rfl⟩ (fun i l S _=>yij rfl rfl) ?_ ?_ (fun d l S h=>h.elim)
 ·rintro i x l S4 hx ⟨t4,y5,y6,y7,y8,y9,y10,rfl⟩
  rw [zuv] at hx
  obtain ⟨xw,hxw,hx⟩:=bnd hx
  obtain ⟨xr,hxr,hx⟩:=Option.map_eq_some_iff.mp hx
  subst hx
  obtain ⟨w,rfl,hwi⟩:=zgo hxw
  rw [qgm] at hxr
  obtain ⟨cs,hcs,rfl⟩:=Option.map_eq_some_iff.mp hxr
  have hcl:=h.len cs (qmg hcs)
  have hok:=h.ok cs (qmg hcs)
  simp only [zc7,zc9,zav,zc8,List.length_cons,List.length_nil,Nat.reduceAdd,qs0,qs1,true_and]
  refine zjn (enl (cs.map cD)) (fun a l S'=>Two b ws rs S2 S2.length (S2.length+1) i a S'/\∃y7 y8 y9 y10,l=[some (mD asks rs),some (.tup (zae ws)),some (.int (b:Int)),some (.ref S2.length),some (.ref (S2.length+1)),some (.int (w:Int)),some (rD cs),y7,y8,y9,y10]) (fun _ _=>False) (it:=itN (itX (cs.map cD))) (zsi rfl) ⟨t4,_,_,_,_,rfl⟩ (fun i l S _=>zli) ?_ ?_ (fun d l S h=>h.elim)
  ·rintro a x l S5 hx ⟨t5,y7,y8,y9,y10,rfl⟩
   rw [zfn] at hx
   obtain ⟨xc,hxc,rfl⟩:=Option.map_eq_some_iff.mp hx
   rw [qgm] at hxc
   obtain ⟨c,hc,rfl⟩:=Option.map_eq_some_iff.mp hxc
   have hokc:=hok c (qmg hc)
   have ha:a<asks:=by have:=(qme hc).1;omega
   have ha4:=h.a4
   have c1:(0:Int)<=(b:Int)/\(b:Int)<=1000000/\((a:Nat):Int).natAbs<2 ^ 64:=⟨by omega,by omega,by omega⟩
   simp only [cD,zc7,zc9,zav,zc8,List.length_cons,List.length_nil,Nat.reduceAdd,qs0,qs1,true_and]
   refine zau (fun l S'=>S' = S5/\l=[some (mD asks rs),some (.tup (zae ws)),some (.int (b:Int)),some (.ref S2.length),some (.ref (S2.length+1)),some (.int (w:Int)),some (rD cs),some (.int a),some (oD c.1),some (oD c.2),some (.int ((w+a*2 ^ b:Nat):Int))]) ?_ ?_
   ·simp only [za8,zax,zal,qg0,qg1,zan,zhy,decide_eq_true_eq,c1,true_and,and_self,zc6,zav,qs0,qs1,Int.toNat_natCast]
    push_cast
    first|exact ⟨(by first|rfl|trivial),(by first|rfl|trivial)⟩|trivial
   rintro l S6 ⟨rfl,rfl⟩
   obtain ⟨g5,⟨L3,q3,r3⟩,⟨L4,q4,r4⟩⟩:=t5
   have f3:L3.length<=32:=Nat.le_trans (zls r3 fun p v z=>by subst hb;exact zn7 h hw z) h32
   have f4:L4.length<=32:=Nat.le_trans (zls r4 fun p v z=>by subst hb;exact zn8 h hw z) h32
   refine zau (fun l S'=>(Gr S2 S'/\(∃L,S'[S2.length]? = some (.dct (kvD L))/\DictR (zcy b ws rs zbr) (zcy b ws rs (Dn i (a+1))) L)/\S'[S2.length+1]? = some (.dct (kvD L4)))/\l=[some (mD asks rs),some (.tup (zae ws)),some (.int (b:Int)),some (.ref S2.length),some (.ref (S2.length+1)),some (.int (w:Int)),some (rD cs),some (.int a),some (oD c.1),some (oD c.2),some (.int ((w+a*2 ^ b:Nat):Int))]) ?_ ?_
   ·cases hc1:c.1 with
    | none =>
     simp only [zbj,zbe,zax,zal,zas,qg0,qg1,zan,zdx,oD,zb7,Bool.not_true,zbb,Bool.false_eq_true,if_false,zby]
     refine ⟨(by first|rfl|trivial),⟨g5,⟨L3,q3,r3.weak ?_⟩,q4⟩,(by first|rfl|trivial)⟩
     rintro p v ⟨i',a',w',cs',c',g',dn,e1,e2,e3,e4,e5,e6⟩
     refine ⟨i',a',w',cs',c',g',?_,e1,e2,e3,e4,e5,e6⟩
     rcases dn with z|⟨z1,z2⟩
     ·exact .inl z
     ·subst z1
      rw [hcs] at e2;cases e2
      by_cases hz:a' = a
      ·subst hz;rw [hc] at e3;cases e3;rw [hc1] at e5;cases e5
      ·exact .inr ⟨rfl,by omega⟩
    | some g =>
     have hg:=hokc.go g hc1
     obtain ⟨v,hv⟩:∃v,ws[g]? = some v:=⟨_,qge (by rw [hw.len];exact hg)⟩
     have hat:L2.atI (zae ws) (g:Int)=some (.int (v:Int)):=atI_get (by unfold zae;rw [qgm,hv];rfl)
     simp only [zbj,zbe,zax,zal,zas,qg0,qg1,zan,zdx,oD,zb7,Bool.not_false,zbb,if_true,za8,zd0,hat,zbl,znx,zuy q3 (show L3.length<64 by omega),Option.some.injEq,exists_eq_left']
     refine ⟨(by first|rfl|trivial),⟨g5.set (qlr _) _,⟨_,zd1 q3,r3.put ⟨i,a,w,cs,c,g,trivial,hwi,hcs,hc,rfl,hc1,hv⟩ ?_⟩,zhe q4 (by omega)⟩,(by first|rfl|trivial)⟩
     rintro p v ⟨i',a',w',cs',c',g',dn,e1,e2,e3,e4,e5,e6⟩
     rcases dn with z|⟨z1,z2⟩
     ·exact .inl ⟨i',a',w',cs',c',g',.inl z,e1,e2,e3,e4,e5,e6⟩
     ·subst z1
      by_cases hz:a' = a
      ·subst hz;rw [hwi] at e1;cases e1;exact .inr e4
      ·exact .inl ⟨i',a',w',cs',c',g',.inr ⟨rfl,by omega⟩,e1,e2,e3,e4,e5,e6⟩
   rintro l S7 ⟨⟨g7,d7,q7⟩,rfl⟩
   cases hc2:c.2 with
   | none =>
    simp only [zbj,zbe,zax,zal,zas,qg0,qg1,zan,zdx,oD,zb7,Bool.not_true,zbb,Bool.false_eq_true,if_false,zby]
    refine .inl ⟨(by first|exact .inl rfl|exact .inl trivial|trivial),⟨g7,d7,⟨L4,q7,r4.weak ?_⟩⟩,_,_,_,_,rfl⟩
    rintro p v ⟨i',a',w',cs',c',dn,e1,e2,e3,e4,e5⟩
    refine ⟨i',a',w',cs',c',?_,e1,e2,e3,e4,e5⟩
    rcases dn with z|⟨z1,z2⟩
    ·exact .inl z
    ·subst z1
     rw [hcs] at e2;cases e2
     by_cases hz:a' = a
     ·subst hz;rw [hc] at e3;cases e3;rw [hc2] at e5;cases e5
     ·exact .inr ⟨rfl,by omega⟩
   | some v =>
    simp only [zbj,zbe,zax,zal,zas,qg0,qg1,zan,zdx,oD,zb7,Bool.not_false,zbb,if_true,za8,znx,zuy q7 (show L4.length<64 by omega),Option.some.injEq,exists_eq_left']
    obtain ⟨L,d7a,d7b⟩:=d7
    refine .inl ⟨(by first|exact .inl rfl|exact .inl trivial|trivial),⟨g7.set (by omega) _,⟨L,zhe d7a (by omega),d7b⟩,⟨_,zd1 q7,r4.put ⟨i,a,w,cs,c,trivial,hwi,hcs,hc,rfl,hc2⟩ ?_⟩⟩,_,_,_,_,rfl⟩
    rintro p v ⟨i',a',w',cs',c',dn,e1,e2,e3,e4,e5⟩
    rcases dn with z|⟨z1,z2⟩
    ·exact .inl ⟨i',a',w',cs',c',.inl z,e1,e2,e3,e4,e5⟩
    ·subst z1
     by_cases hz:a' = a
     ·subst hz;rw [hwi] at e1;cases e1;exact .inr e4
     ·exact .inl ⟨i',a',w',cs',c',.inr ⟨rfl,by omega⟩,e1,e2,e3,e4,e5⟩
  ·rintro l S5 ⟨⟨g5,⟨L3,q3,r3⟩,⟨L4,q4,r4⟩⟩,y7,y8,y9,y10,rfl⟩
   rw [zf4,qlm] at r3 r4
   refine .inl ⟨(by first|exact .inl rfl|exact .inl trivial|trivial),⟨g5,⟨L3,q3,r3.weak ?_⟩,⟨L4,q4,r4.weak ?_⟩⟩,_,_,_,_,_,_,rfl⟩
   ·rintro p v ⟨i',a',w',cs',c',g',dn,e1,e2,e3,e4,e5,e6⟩
    refine ⟨i',a',w',cs',c',g',?_,e1,e2,e3,e4,e5,e6⟩
    rcases dn with z|⟨z1,z2⟩
    ·by_cases hz:i' = i
     ·subst hz;rw [hcs] at e2;cases e2;exact .inr ⟨rfl,(qme e3).1⟩
     ·exact .inl (by omega)
    ·omega
   ·rintro p v ⟨i',a',w',cs',c',dn,e1,e2,e3,e4,e5⟩
    refine ⟨i',a',w',cs',c',?_,e1,e2,e3,e4,e5⟩
    rcases dn with z|⟨z1,z2⟩
    ·by_cases hz:i' = i
     ·subst hz;rw [hcs] at e2;cases e2;exact .inr ⟨rfl,(qme e3).1⟩
     ·exact .inl (by omega)
    ·omega
 ·rintro l S4 ⟨⟨g4,⟨L3,q3,r3⟩,⟨L4,q4,r4⟩⟩,y5,y6,y7,y8,y9,y10,rfl⟩
  have hlen:(zl (zae ws) (rs.map rD)).length=rs.length:=by rw [zuu,zck,qlm,hw.len];omega
  rw [hlen] at r3 r4
  have r3':=r3.weak (E':=zcy b ws rs zbr) (by
   rintro p v ⟨i',a',w',cs',c',g',dn,e1,e2,e3,e4,e5,e6⟩
   exact ⟨i',a',w',cs',c',g',.inl (qme e2).1,e1,e2,e3,e4,e5,e6⟩)
  have r4':=r4.weak (E':=zc1 b ws rs zbr) (by
   rintro p v ⟨i',a',w',cs',c',dn,e1,e2,e3,e4,e5⟩
   exact ⟨i',a',w',cs',c',.inl (qme e2).1,e1,e2,e3,e4,e5⟩)
  have f3:L3.length<=32:=Nat.le_trans (zls r3 fun p v z=>by subst hb;exact zn7 h hw z) h32
  have f4:L4.length<=32:=Nat.le_trans (zls r4 fun p v z=>by subst hb;exact zn8 h hw z) h32
  have comp:∀(j n:Nat) (L:Ls) (as:AM) (m:Nat) (l:Lo) (S5:Sto) (Q:D->Sto->Prop),Gr S4 S5->S4[n]? = some (.dct (kvD L))->L.length<64->m<=3->zcc [none,some j] l=[none,some (.ref n)]->as l S5=some ([.int (m:Int)],S5)->(∀S',Gr S5 S'->Q (.ref S'.length) (S'++[.lst (((List.range m).map fun k=>(onL L k 1,onL L k 0)).map ze9)])) ->
    We (zch (zfj (zcg as)) [none,some j] (zai 0) zcm (zag zhi (zac (zaa 1) (zac (zaa 0) (zaf))))) l S5 Q:=fun j n L as m l S5 Q gs hn hl hm hsrc has fin=>by
   refine zhd (zbz 0 m) (fun x=>match x with | .int k=>ze9 (onL L k.toNat 1,onL L k.toNat 0)|_=>.non) (Gr S5) (fun l=>∃y0,l=[y0,some (.ref n)]) (zlh has (by omega)) (Gr.refl _) ⟨_,hsrc⟩ (fun i S _=>rfl) (by rw [zfy];omega) ?_ ?_
   ·rintro x l S6 hx ⟨y0,rfl⟩ g6
    obtain ⟨i,hi,rfl⟩:=List.mem_map.mp hx
    have hi:=List.mem_range.mp hi
    simp only [zav,qs0,Int.zero_add]
    refine ⟨g6,⟨_,rfl⟩,?_⟩
    simp only [zat,zar,zaq,zal,qg0,qg1,zan,Int.toNat_natCast]
    refine (yh9 n L S6 i (g6.get (gs.get hn)) hl (by omega)).mono ?_
    rintro d S7 ⟨rfl,g7⟩
    exact ⟨rfl,g6.trans g7⟩
   ·intro S6 g6
    have e:((zbz 0 m).map fun x=>match x with | .int k=>ze9 (onL L k.toNat 1,onL L k.toNat 0)|_=>.non)=((List.range m).map fun k=>(onL L k 1,onL L k 0)).map ze9:=by
     unfold zbz;rw [List.map_map,List.map_map];refine List.map_congr_left fun k _=>?_;simp
    rw [e]
    exact fin S6 g6
  rw [zb4,zax]
  refine comp 3 S2.length L3 _ b _ S4 _ (Gr.refl _) q3 (by omega) hb3 rfl (as1 rfl) fun S5 g5=>?_
  refine comp 4 (S2.length+1) L4 _ 3 _ _ _ (g5.push _) q4 (by omega) (by decide) rfl (as1 rfl) fun S6 g6=>?_
  rw [zsj (Gr.get (g6.push _) (zbx _ _)) (zbx _ _)]
  refine ⟨by simp only [qlm,List.length_range];omega,_,L3,L4,rfl,?_,r3',r4',(g1.trans (g4.trans ((g5.push _).trans ((g6.push _).push _))))⟩
  rw [zbx]
  unfold zdg
  rw [List.map_append]
theorem yil {g:GM}{e:EM}{S:Sto}{L:Lo->Prop}(f:D->D) (ys:List D) (step:∀y∈ys,∀l,L l->∃l1,g y l S=some (l1,S)/\L l1/\e l1 S=some (f y,S)) :
  ∀(m i:Nat) (l:Lo),ys.length=i+m->L l->∃l',zfl ys g zcm e (m+1) i l S=some ((ys.drop i).map f,l',S)/\L l':=by
 intro m
 induction m with
 | zero =>
  intro i l hm hl
  refine ⟨l,?_,hl⟩
  unfold zfl
  rw [List.getElem?_eq_none (by omega),List.drop_eq_nil_of_le (by omega)];rfl
 | succ m ih =>
  intro i l hm hl
  have hi:i<ys.length:=by omega
  obtain ⟨l1,h1,h2,h3⟩:=step ys[i] (List.getElem_mem hi) l hl
  obtain ⟨l',h4,h5⟩:=ih (i+1) l1 (by omega) h2
  refine ⟨l',?_,h5⟩
  unfold zfl
  rw [qge hi]
  dsimp only
  rw [h1]
  simp only [Option.bind_some,zcm,if_true]
  rw [h3]
  simp only [Option.bind_some]
  rw [h4,List.drop_eq_getElem_cons hi];rfl
theorem yim {g g2:GM}{r e:EM}{S:Sto}{L:Lo->Prop}(F:D->List D) (f:D->D) (xs:List D)
  (step:∀x∈xs,∀l,L l->∃l1,g x l S=some (l1,S)/\L l1/\r l1 S=some (.tup (F x),S)) (step2:∀x∈xs,∀y∈F x,∀l,L l->∃l1,g2 y l S=some (l1,S)/\L l1/\e l1 S=some (f y,S)) :
  ∀(m i:Nat) (l:Lo),xs.length=i+m->L l->zfm (itX xs) g zcm r g2 zcm e (m+1) i l S=some ((xs.drop i).flatMap fun x=>(F x).map f,S):=by
 intro m
 induction m with
 | zero =>
  intro i l hm hl
  unfold zfm itX
  rw [List.getElem?_eq_none (by omega),List.drop_eq_nil_of_le (by omega)];rfl
 | succ m ih =>
  intro i l hm hl
  have hi:i<xs.length:=by omega
  obtain ⟨l1,h1,h2,h3⟩:=step xs[i] (List.getElem_mem hi) l hl
  obtain ⟨l',h4,h5⟩:=yil f (F xs[i]) (step2 xs[i] (List.getElem_mem hi)) (F xs[i]).length 0 l1 (by omega) h2
  have h6:=ih (i+1) l' (by omega) h5
  have hx:itX xs i S=some (some xs[i]):=by unfold itX;rw [qge hi]
  unfold zfm
  rw [hx]
  simp only [Option.bind_some]
  rw [h1]
  simp only [Option.bind_some,zcm,if_true]
  rw [h3]
  simp only [Option.bind_some]
  rw [h4]
  simp only [Option.bind_some]
  rw [h6,List.drop_eq_getElem_cons hi,List.flatMap_cons,List.drop_zero];rfl
noncomputable def zfa (b c:Int) (nets:List (List Str)):D:=.tup [.int b,.int c,.tup (za2 nets)]
theorem zu2 {S:Sto}{a b:Int}(ha:a.natAbs<1000) (hb:b.natAbs<1000):zcb S 60 (.tup [.int a,.int b])=some (.tuple [.int a,.int b]):=by
 have l1:a.natAbs.log2<1920:=Nat.lt_of_le_of_lt (Nat.log2_le_self _) (by omega)
 have l2:b.natAbs.log2<1920:=Nat.lt_of_le_of_lt (Nat.log2_le_self _) (by omega)
 have e1:zcb S 59 (.int a)=some (.int a):=by unfold zcb;rw [if_pos l1]
 have e2:zcb S 59 (.int b)=some (.int b):=by unfold zcb;rw [if_pos l2]
 unfold zcb
 unfold zde
 rw [e1]
 show ((zde S 59 [.int b]).bind _).bind _=_
 unfold zde
 rw [e2]
 show (((zde S 59 []).bind _).bind _).bind _=_
 unfold zde
 rfl
theorem zu3 {S:Sto}{x y:D}{p q:PyData}{Q:D->Sto->Prop}(h1:zcb S 60 x=some p) (h2:zcb S 60 y=some q) (c1:p.canLay0=true) (c2:q.canLay0=true):Wo (zfz x y S) Q=Q (.bl (!p.eqv q)) S:=by
 have:zfz x y S=some (.bl (!p.eqv q),S):=by unfold zfz;rw [h1];show (zcb S 60 y).bind _=_;rw [h2];show (if _ then _ else _)=_;rw [if_pos ⟨c1,c2⟩]
 rw [this];exact zbh
theorem yin {S:Sto}{a b c d:Int}{Q:D->Sto->Prop}(ha:a.natAbs<1000) (hb:b.natAbs<1000) (hc:c.natAbs<1000) (hd:d.natAbs<1000):Wo (zfz (.tup [.int a,.int b]) (.tup [.int c,.int d]) S) Q=Q (.bl (!(decide (a=c) && decide (b=d)))) S:=by
 rw [zu3 (zu2 ha hb) (zu2 hc hd) (by simp [PyData.canLay0,PyData.canLayAll0]) (by simp [PyData.canLay0,PyData.canLayAll0])]
 have:PyData.eqv (.tuple [.int a,.int b]) (.tuple [.int c,.int d])=(decide (a=c) && decide (b=d)):=by
  simp only [PyData.eqv,PyData.eqvAll,Bool.and_true]
  rfl
 rw [this]
noncomputable def zkf:D->List D
 | .tup zs=>zs
 | _=>[]
noncomputable def szF (v:Nat):D->D
 | .str t=>.bl (decide (t.cps.size=v))
 | _=>.non
noncomputable def szB (v:Nat) (nets:List (List Str)):Bool:=nets.all fun zs=>zs.all fun z=>decide (z.cps.size=v)
theorem yio (b c:Nat) (b' c':Int) (nets:List (List Str)) (S:Sto) (hb:b<=3) (hc:c<=2) (hb':b'.natAbs<100) (hc':c'.natAbs<100) (ok:OkNs nets) (hl:nets.length<=20) :
  Wo (zjy [.tup [.int (b:Int),.int (c:Int)],zfa b' c' nets] S) fun v S'=>v=.bl (decide (b' = b) && decide (c' = c) && decide (nets.length=b+3) && szB (b+c) nets)/\Gr S S':=by
 have sz2:2<=sizeLine:=by decide
 have big:10000<=sizeLine:=by decide
 unfold zjy zta zfa
 simp only [zb5,List.map_cons,List.map_nil,List.length_cons,List.length_nil,Nat.reduceAdd,Nat.reduceSub,List.replicate,List.cons_append,List.nil_append]
 refine zau (fun l S'=>S' = S/\l=[some (.tup [.int (b:Int),.int (c:Int)]),some (.tup [.int b',.int c',.tup (za2 nets)]),some (.int b'),some (.int c'),some (.tup (za2 nets))]) (by simp! only [true_and,and_self]) ?_
 rintro l S1 ⟨rfl,rfl⟩
 rw [zci,zbj]
 simp only [zg2,zbe,zax,zat,zar,zaq,zal,zas,qg0,qg1,zan,zda,List.length_cons,List.length_nil,Nat.reduceAdd,sz2,true_and]
 rw [yin (by omega) (by omega) (by omega) (by omega)]
 simp only [zbb]
 by_cases e1:b' = (b:Int)
 ·by_cases e2:c' = (c:Int)
  ·subst e1;subst e2
   simp only [decide_true,Bool.and_self,Bool.not_true,Bool.false_eq_true,if_false,ze6,zes,zc6,zh9,zbb]
   by_cases e3:nets.length=b+3
   ·have e3':((nets.length:Nat):Int)=(b:Int)+3:=by omega
    rw [decide_eq_true e3']
    simp only [Bool.not_true,Bool.false_eq_true,if_false,zby,zb4,zat,zar,zaq]
    have key:zjf (zdn (zaa 4)) [none,none,some 2,some 3] (zai 0) zcm (zaa 0) (zai 1) zcm (eOp dEq (zag zbw (zac (zaa 1) (zaf))) (eOp za3 (zaa 2) (zaa 3))) [some (.tup [.int (b:Int),.int (c:Int)]),some (.tup [.int (b:Int),.int (c:Int),.tup (za2 nets)]),some (.int (b:Int)),some (.int (c:Int)),some (.tup (za2 nets))] S1 =
      some (.ref S1.length,S1++[.lst ((za2 nets).flatMap fun x=>(zkf x).map (szF (b+c)))]):=by
     unfold zjf
     rw [zjl (xs:=za2 nets) (S1:=S1) rfl]
     simp only [Option.bind_some]
     change ((zfm _ _ _ _ _ _ _ _ _ [none,none,some (.int (b:Int)),some (.int (c:Int))] S1).bind _)=_
     rw [yim (L:=fun l=>∃y0 y1,l=[y0,y1,some (.int (b:Int)),some (.int (c:Int))]) zkf (szF (b+c)) (za2 nets) ?_ ?_ (za2 nets).length 0 _ (by omega) ⟨_,_,rfl⟩]
     ·simp only [Option.bind_some,List.drop_zero]
      rw [if_pos]
      have hlen:∀us:List (List Str),(∀zs∈us,zs.length<=100)->((za2 us).flatMap fun x=>(zkf x).map (szF (b+c))).length<=100*us.length:=by
       intro us
       induction us with
       | nil=>intro _;simp [za2]
       | cons zs us ih =>
        intro hz
        have h1:=ih fun z hz'=>hz z (List.mem_cons_of_mem _ hz')
        have h2:=hz zs List.mem_cons_self
        unfold za2 at h1 ⊢
        rw [List.map_cons,List.flatMap_cons,qla,qlm,List.length_cons]
        have e0:(zkf (D.tup (zay zs))).length=zs.length:=zcj zs
        rw [e0]
        omega
      have:=hlen nets fun zs hz=>(ok zs hz).2
      omega
     ·rintro x hx l ⟨y0,y1,rfl⟩
      obtain ⟨zs,hzs,rfl⟩:=List.mem_map.mp hx
      exact ⟨_,rfl,⟨_,_,rfl⟩,rfl⟩
     ·rintro x hx y hy l ⟨y0,y1,rfl⟩
      obtain ⟨zs,hzs,rfl⟩:=List.mem_map.mp hx
      obtain ⟨z,hz,rfl⟩:=zt6 hy
      have hzl:=(ok zs hzs).1 z hz
      refine ⟨_,rfl,⟨_,_,rfl⟩,?_⟩
      have:We (eOp dEq (zag zbw (zac (zaa 1) (zaf))) (eOp za3 (zaa 2) (zaa 3))) [y0,some (.str z),some (.int (b:Int)),some (.int (c:Int))] S1 fun v S'=>v=.bl (decide (z.cps.size=b+c))/\S' = S1:=by
       have hzs:z.length<=sizeLine:=by show z.cps.size<=_;omega
       simp only [zax,zat,zar,zaq,zal,qg0,qg1,zan,zsb,hzs,true_and,zc6,zdb,and_true]
       congr 1
       have:z.length=z.cps.size:=rfl
       rw [this]
       exact decide_eq_decide.mpr (by omega)
      obtain ⟨v,S',e,rfl,rfl⟩:=this
      exact e
    have e4:∀us:List (List Str),((za2 us).flatMap fun x=>(zkf x).map (szF (b+c)))=(us.flatMap fun zs=>zs.map fun z=>D.bl (decide (z.cps.size=b+c))):=by
     intro us
     induction us with
     | nil=>rfl
     | cons zs us ih =>
      unfold za2 at ih ⊢
      rw [List.map_cons,List.flatMap_cons,ih,List.flatMap_cons]
      congr 1
      show List.map (szF (b+c)) (List.map D.str zs)=_
      rw [List.map_map];rfl
    rw [e4] at key
    refine ⟨_,_,key,?_⟩
    have a1:(nets.flatMap fun zs=>zs.map fun z=>D.bl (decide (z.cps.size=b+c))).all zep=true:=by
     rw [List.all_flatMap]
     refine List.all_eq_true.mpr fun zs _=>?_
     rw [List.all_map]
     exact List.all_eq_true.mpr fun z _=>rfl
    have a2:(nets.flatMap fun zs=>zs.map fun z=>D.bl (decide (z.cps.size=b+c))).all isT=szB (b+c) nets:=by
     rw [List.all_flatMap]
     unfold szB
     congr 1;funext zs
     rw [List.all_map];rfl
    simp only [zns,zdp,zbl,a1,a2,true_and,e3,decide_true,Bool.and_self,Bool.true_and]
    first|exact ⟨(by first|rfl|trivial),Gr.push (Gr.refl _) _⟩|exact Gr.push (Gr.refl _) _
   ·have e3':¬(((nets.length:Nat):Int)=(b:Int)+3):=by omega
    rw [decide_eq_false e3',decide_eq_false e3]
    simp only [Bool.not_false,if_true,zb4,zas,Bool.and_false,Bool.false_and]
    exact ⟨(by first|rfl|trivial),Gr.refl _⟩
  ·simp only [e2,decide_false,Bool.and_false,Bool.not_false,if_true,zb4,zas,Bool.false_and]
   exact ⟨(by first|rfl|trivial),Gr.refl _⟩
 ·simp only [e1,decide_false,Bool.false_and,Bool.not_false,if_true,zb4,zas]
  exact ⟨(by first|rfl|trivial),Gr.refl _⟩
noncomputable def zho (ts:List (List Nat × List Nat)) (nets:List (List Str)):Prop:=∀(j:Nat) t zs,ts[j]? = some t->nets[j]? = some zs->fault t.1 t.2 zs=.non
theorem zu4 (on off:List Nat) (zs:List Str):zb7 (fault on off zs)=true↔fault on off zs=.non:=by
 cases h:fault on off zs <;> simp [zb7]
theorem zu5 {asks:Nat}{rs:List (List Cl)}{ws:List Nat}(h:OkM asks rs) (hw:OkW rs.length ws) (b' c':Int) (nets:List (List Str)) (hb':b'.natAbs<100) (hc':c'.natAbs<100) (ok:OkNs nets) (hl:nets.length<=20) (S:Sto) :
  Wo (zhk [mD asks rs,.tup (zae ws),zfa b' c' nets] S) fun d S'=>Gr S S'/\∃L3 L4,DictR (zcy (bOf rs.length) ws rs zbr) (zcy (bOf rs.length) ws rs zbr) L3/\DictR (zc1 (bOf rs.length) ws rs zbr) (zc1 (bOf rs.length) ws rs zbr) L4 /\
   (zb7 d=true↔(b' = bOf rs.length/\c' = cOf asks/\nets.length=bOf rs.length+3/\szB (bOf rs.length+cOf asks) nets=true)/\zho (zdg (bOf rs.length) L3 L4) nets):=by
 have sz1:1<=sizeLine:=by decide
 have sz2:2<=sizeLine:=by decide
 obtain ⟨hb1,hb2,hb3⟩:=zed h.r8
 have hc2:=(zhn h.a4).2
 unfold zhk ztb
 simp only [zb5,List.map_cons,List.map_nil,List.length_cons,List.length_nil,Nat.reduceAdd,Nat.reduceSub,List.replicate,List.cons_append,List.nil_append]
 refine zau (fun l S'=>Gr S S'/\l=[some (mD asks rs),some (.tup (zae ws)),some (zfa b' c' nets),none,none,none,none]) ?_ ?_
 ·simp only [zd4,zat,zar,zaq,zal,qg0,qg1,zan]
  refine (zut h hw S).mono ?_
  intro v S1 g
  exact ⟨(by first|rfl|trivial),g,(by first|rfl|trivial)⟩
 rintro l S1 ⟨g1,rfl⟩
 rw [zci,zbj]
 simp only [zi4,zbe,zat,zar,zaq,zal,qg0,qg1,zan,zn5 h]
 refine (yio (bOf rs.length) (cOf asks) b' c' nets S1 hb3 hc2 hb' hc' ok hl).mono ?_
 rintro v S2 ⟨rfl,g2⟩
 simp only [zbb]
 generalize hcnt:(decide (b' = (bOf rs.length:Nat)) && decide (c' = (cOf asks:Nat)) && decide (nets.length=bOf rs.length+3) && szB (bOf rs.length+cOf asks) nets)=cnt
 have hcnt2:cnt=true↔(b' = bOf rs.length/\c' = cOf asks/\nets.length=bOf rs.length+3/\szB (bOf rs.length+cOf asks) nets=true):=by
  rw [←hcnt];simp only [Bool.and_eq_true,decide_eq_true_eq,and_assoc]
 cases cnt with
 | false =>
  simp only [Bool.not_false,if_true,zb4,zat,zar,zaq,zas,zda,List.length_cons,List.length_nil,Nat.reduceAdd,sz1,true_and]
  refine (zu1 h hw S2).elim ?_
  rintro v ⟨S3,_,n,L3,L4,_,_,r3,r4,_⟩
  refine ⟨g1.trans g2,L3,L4,r3,r4,?_⟩
  rw [←hcnt2]
  simp [zb7]
 | true =>
  have hc3:=hcnt2.mp rfl
  simp only [Bool.not_true,Bool.false_eq_true,if_false,zby]
  rw [zci]
  obtain ⟨v,S3,et,n,L3,L4,rfl,q3,r3,r4,g3⟩:=zu1 h hw S2
  have hts:(zdg (bOf rs.length) L3 L4).length=nets.length:=by rw [zuz,hc3.2.2.1]
  refine zjn (enl ((zdg (bOf rs.length) L3 L4).map ze9)) (fun i l S'=>(Gr S3 S'/\∀(j:Nat) t zs,j<i->(zdg (bOf rs.length) L3 L4)[j]? = some t->nets[j]? = some zs->fault t.1 t.2 zs=.non)/\∃y3 y4 y5 y6,l=[some (mD asks rs),some (.tup (zae ws)),some (zfa b' c' nets),y3,y4,y5,y6])
   (fun d S'=>Gr S3 S'/\zb7 d=false/\∃(j:Nat) (t:List Nat × List Nat) (zs:List Str),(zdg (bOf rs.length) L3 L4)[j]? = some t/\nets[j]? = some zs/\fault t.1 t.2 zs≠.non) (it:=itN (itL n)) (S1:=S3) ?_ ⟨⟨Gr.refl _,fun j t zs z=>by omega⟩,_,_,_,_,rfl⟩ ?_ ?_ ?_ ?_
  ·unfold zd6
   have ea:zac (zag zie (zac (zaa 0) (zac (zaa 1) zaf))) zaf [some (mD asks rs),some (.tup (zae ws)),some (zfa b' c' nets),none,none,none,none] S2=some ([.ref n],S3):=as1 et
   rw [ea]
   simp only [Option.bind_some]
   rw [zbk q3,zf4];rfl
  ·rintro i l S' ⟨⟨g,_⟩,_⟩
   unfold itN
   rw [zjm (g.lst (zbk q3)),zfn];rfl
  ·rintro i x l S4 hx ⟨⟨g4,all4⟩,y3,y4,y5,y6,rfl⟩
   rw [zfn] at hx
   obtain ⟨xt,hxt,rfl⟩:=Option.map_eq_some_iff.mp hx
   rw [qgm] at hxt
   obtain ⟨t,ht,rfl⟩:=Option.map_eq_some_iff.mp hxt
   have hi:i<nets.length:=by rw [←hts];exact (qme ht).1
   obtain ⟨zs,hzs⟩:∃zs,nets[i]? = some zs:=⟨_,qge hi⟩
   have okz:=ok zs (qmg hzs)
   have hat:L2.atI (za2 nets) (i:Int)=some (.tup (zay zs)):=atI_get (by unfold za2;rw [qgm,hzs];rfl)
   have hat2:L2.atI [D.int b',.int c',.tup (za2 nets)] 2=some (.tup (za2 nets)):=rfl
   simp only [ze9,zc7,zc9,zav,zc8,List.length_cons,List.length_nil,Nat.reduceAdd,qs0,qs1,true_and]
   refine zau (fun l S'=>Gr S3 S'/\l=[some (mD asks rs),some (.tup (zae ws)),some (zfa b' c' nets),some (.int i),some (.tup (zae t.1)),some (.tup (zae t.2)),some (fault t.1 t.2 zs)]) ?_ ?_
   ·simp only [za8,zat,zax,zar,zaq,zal,zas,qg0,qg1,zan,zfa,zd0,hat2,hat,zbl]
    refine (yhj t.1 t.2 zs S4 (fun z hz=>by have:=okz.1 z hz;omega) (by omega)).mono ?_
    rintro d S5 ⟨rfl,g5⟩
    simp only [zav,qs0,qs1]
    exact ⟨(by first|rfl|trivial),g4.trans g5,(by first|rfl|trivial)⟩
   rintro l S5 ⟨g5,rfl⟩
   simp only [zbj,zbe,zax,zal,zas,qg0,qg1,zan,zdx,zbb]
   cases hf:zb7 (fault t.1 t.2 zs) with
   | true =>
    have hf:=(zu4 _ _ _).mp hf
    simp only [Bool.not_true,Bool.false_eq_true,if_false,zby]
    refine .inl ⟨(by first|exact .inl rfl|exact .inl trivial|trivial),⟨g5,fun j t' zs' hj e1 e2=>?_⟩,_,_,_,_,rfl⟩
    by_cases hji:j=i
    ·subst hji;rw [ht] at e1;cases e1;rw [hzs] at e2;cases e2;exact hf
    ·exact all4 j t' zs' (by omega) e1 e2
   | false =>
    simp only [Bool.not_false,if_true,zb4,zat,zar,zaq,zal,qg0,qg1,zan,zda,List.length_cons,List.length_nil,Nat.reduceAdd,sz2,true_and]
    refine .inr ⟨_,rfl,g5,rfl,i,t,zs,ht,hzs,fun z=>?_⟩
    rw [(zu4 _ _ _).mpr z] at hf;cases hf
  ·rintro l S4 ⟨⟨g4,all4⟩,y3,y4,y5,y6,rfl⟩
   simp only [zb4,zas]
   refine ⟨((g1.trans g2).trans g3).trans g4,L3,L4,r3,r4,fun _=>⟨hc3,fun j t zs e1 e2=>all4 j t zs ?_ e1 e2⟩,fun _=>rfl⟩
   rw [zf4,qlm]
   exact (qme e1).1
  ·rintro d l S4 ⟨g4,hd,j,t,zs,e1,e2,e3⟩
   refine ⟨((g1.trans g2).trans g3).trans g4,L3,L4,r3,r4,fun z=>?_,fun z=>absurd (z.2 j t zs e1 e2) e3⟩
   rw [hd] at z;cases z
theorem zlt {off:List Nat}:∀(zs:List Str) (k:Nat),zfp off k zs=none↔∀z∈zs,∀o∈off,zbg z o=false
 | [],k=>⟨fun _ z hz=>(by cases hz),fun _=>rfl⟩
 | z :: zs,k=>by
  show (match off.find? (fun p=>zbg z p) with|some p=>some (k,p)|none=>zfp off (k+1) zs)=none↔_
  cases e:off.find? (fun p=>zbg z p) with
  | some p =>
   have h1:=List.mem_of_find?_eq_some e
   have h2:zbg z p=true:=List.find?_some (p:=fun p=>zbg z p) e
   constructor
   ·intro h;cases h
   ·intro h;rw [h z List.mem_cons_self p h1] at h2;cases h2
  | none =>
   have h3:=List.find?_eq_none.mp e
   constructor
   ·intro h u hu o ho
    rcases List.mem_cons.mp hu with rfl|hu
    ·cases hh:zbg u o with
     | false=>rfl
     | true=>exact absurd hh (h3 o ho)
    ·exact (zlt zs (k+1)).mp h u hu o ho
   ·intro h
    exact (zlt zs (k+1)).mpr fun u hu=>h u (List.mem_cons_of_mem _ hu)
theorem fault_none {on off:List Nat}{zs:List Str}:fault on off zs=.non↔(∀p∈on,lacks zs p=false)/\∀z∈zs,∀o∈off,zbg z o=false:=by
 unfold fault
 cases e:on.find? (lacks zs) with
 | some p =>
  have h1:=List.mem_of_find?_eq_some e
  have h2:lacks zs p=true:=List.find?_some (p:=lacks zs) e
  constructor
  ·intro h;cases h
  ·intro h;rw [h.1 p h1] at h2;cases h2
 | none =>
  have h3:=List.find?_eq_none.mp e
  have h4:∀p∈on,lacks zs p=false:=fun p hp=>by
   cases hh:lacks zs p with
   | false=>rfl
   | true=>exact absurd hh (h3 p hp)
  dsimp only
  cases e2:zfp off 0 zs with
  | some q =>
   constructor
   ·intro h;cases h
   ·intro h;rw [(zlt zs 0).mpr h.2] at e2;cases e2
  | none=>exact ⟨fun _=>⟨h4,(zlt zs 0).mp e2⟩,fun _=>rfl⟩
theorem yip {zs:List Str}{p:Nat}(h:∀z∈zs,zbg z p=false):lacks zs p=true:=by
 unfold lacks
 rw [Bool.not_eq_true',Bool.eq_false_iff]
 intro z
 obtain ⟨u,hu,hh⟩:=List.any_eq_true.mp z
 rw [h u hu] at hh;cases hh
theorem yiq {b w a w' a':Nat}(hw:w<2 ^ b) (hw':w' < 2 ^ b) (e:w+a*2 ^ b=w' + a' * 2 ^ b):w=w'/\a=a':=by
 have p0:0<2 ^ b:=Nat.pow_pos (by decide)
 have e1:(w+a*2 ^ b) % 2 ^ b=w:=by rw [Nat.add_mul_mod_self_right,Nat.mod_eq_of_lt hw]
 have e2:(w' + a' * 2 ^ b) % 2 ^ b=w':=by rw [Nat.add_mul_mod_self_right,Nat.mod_eq_of_lt hw']
 have e3:(w+a*2 ^ b) / 2 ^ b=a:=by rw [Nat.add_mul_div_right _ _ p0,Nat.div_eq_of_lt hw,Nat.zero_add]
 have e4:(w' + a' * 2 ^ b) / 2 ^ b=a':=by rw [Nat.add_mul_div_right _ _ p0,Nat.div_eq_of_lt hw',Nat.zero_add]
 rw [e] at e1 e3
 exact ⟨e1.symm.trans e2,e3.symm.trans e4⟩
section
variable {asks:Nat}{rs:List (List Cl)}{ws:List Nat}
theorem zu6 (hw:OkW rs.length ws) {i i' a a' w w':Nat}(h1:ws[i]? = some w) (h1':ws[i']? = some w') (e:w+a*2 ^ bOf rs.length=w' + a' * 2 ^ bOf rs.length):i=i'/\a=a':=by
 obtain ⟨e1,e2⟩:=yiq (hw.lt w (qmg h1)) (hw.lt w' (qmg h1')) e
 subst e1
 obtain ⟨l1,q1⟩:=qme h1
 obtain ⟨l2,q2⟩:=qme h1'
 exact ⟨(List.getElem_inj hw.nd).mp (q1.trans q2.symm),e2⟩
theorem zu7 (hw:OkW rs.length ws) {d1 d2:Nat->Nat->Prop}{p v v':Nat}(z:zcy (bOf rs.length) ws rs d1 p v) (z':zcy (bOf rs.length) ws rs d2 p v'):v=v':=by
 obtain ⟨i,a,w,cs,c,g,_,h1,h2,h3,e,h4,h5⟩:=z
 obtain ⟨i',a',w',cs',c',g',_,h1',h2',h3',e',h4',h5'⟩:=z'
 obtain ⟨rfl,rfl⟩:=zu6 hw h1 h1' (e.symm.trans e')
 rw [h2] at h2';cases h2'
 rw [h3] at h3';cases h3'
 rw [h4] at h4';cases h4'
 rw [h5] at h5';cases h5'
 rfl
theorem zu8 (hw:OkW rs.length ws) {d1 d2:Nat->Nat->Prop}{p v v':Nat}(z:zc1 (bOf rs.length) ws rs d1 p v) (z':zc1 (bOf rs.length) ws rs d2 p v'):v=v':=by
 obtain ⟨i,a,w,cs,c,_,h1,h2,h3,e,h4⟩:=z
 obtain ⟨i',a',w',cs',c',_,h1',h2',h3',e',h4'⟩:=z'
 obtain ⟨rfl,rfl⟩:=zu6 hw h1 h1' (e.symm.trans e')
 rw [h2] at h2';cases h2'
 rw [h3] at h3';cases h3'
 rw [h4] at h4';cases h4'
 rfl
end
theorem zlu {R:Nat->Nat->Prop}{L:Ls}(h:DictR R R L) (fn:∀p v v',R p v->R p v'->v=v') (k x p:Nat):p∈onL L k x↔∃v,R p v/\bt v k=x:=by
 unfold onL
 rw [List.mem_filter,zup,decide_eq_true_eq]
 constructor
 ·rintro ⟨h1,h2⟩
  exact ⟨_,h.sound _ (zuq h1),h2⟩
 ·rintro ⟨v,h1,h2⟩
  have hk:=h.full p v h1
  have:=fn p _ _ (h.sound _ (zuq hk)) h1
  exact ⟨hk,by rw [show val L p=v from this];exact h2⟩
theorem zu9 {R:Nat->Nat->Prop}{L:Ls}(h:DictR R R L) (fn:∀p v v',R p v->R p v'->v=v') {k p v:Nat}{zs:List Str}(hf:fault (onL L k 1) (onL L k 0) zs=.non) (hR:R p v):zcd p zs=bt v k:=by
 obtain ⟨h1,h2⟩:=fault_none.mp hf
 unfold zcd
 rcases zf8 v k with e|e
 ·have hp:p∈onL L k 0:=(zlu h fn k 0 p).mpr ⟨v,hR,e⟩
  rw [yip fun z hz=>h2 z hz p hp,e];rfl
 ·have hp:p∈onL L k 1:=(zlu h fn k 1 p).mpr ⟨v,hR,e⟩
  rw [h1 p hp,e];rfl
theorem zva:∀b:Fin 4,∀v:Fin 8,v.val<2 ^ b.val->num ((List.range b.val).map (bt v.val))=v.val:=by decide +kernel
theorem yir {b:Nat}{L3 L4:Ls}{nets:List (List Str)}(hf:zho (zdg b L3 L4) nets) (hl:nets.length=b+3) :
  (∀k,k<b->∃zs,nets[k]? = some zs/\fault (onL L3 k 1) (onL L3 k 0) zs=.non)/\∀k,k<3->∃zs,nets[b+k]? = some zs/\fault (onL L4 k 1) (onL L4 k 0) zs=.non:=by
 refine ⟨fun k hk=>?_,fun k hk=>?_⟩
 ·have hn:nets[k]? = some nets[k]:=qge (by omega)
  refine ⟨_,hn,hf k (onL L3 k 1,onL L3 k 0) _ ?_ hn⟩
  unfold zdg
  rw [List.getElem?_append_left (by simpa using hk),qgm,List.getElem?_range hk];rfl
 ·have hn:nets[b+k]? = some nets[b+k]:=qge (by omega)
  refine ⟨_,hn,hf (b+k) (onL L4 k 1,onL L4 k 0) _ ?_ hn⟩
  unfold zdg
  rw [List.getElem?_append_right (by simp),qgm]
  simp only [qlm,List.length_range]
  rw [show b+k-b=k by omega,List.getElem?_range hk];rfl
theorem yis {b p v:Nat}{nets:List (List Str)}(hl:nets.length=b+3) (h:∀k,k<b->∃zs,nets[k]? = some zs/\zcd p zs=bt v k):(nets.map (zcd p)).take b=(List.range b).map (bt v):=by
 apply List.ext_getElem?
 intro k
 rw [List.getElem?_take]
 by_cases hk:k<b
 ·obtain ⟨zs,h1,h2⟩:=h k hk
  rw [if_pos hk,qgm,h1,qgm,List.getElem?_range hk]
  simp [h2]
 ·rw [if_neg hk,List.getElem?_eq_none (by simpa using hk)]
theorem yit {b p v:Nat}{nets:List (List Str)}(hl:nets.length=b+3) (h:∀k,k<3->∃zs,nets[b+k]? = some zs/\zcd p zs=bt v k):(nets.map (zcd p)).drop b=(List.range 3).map (bt v):=by
 apply List.ext_getElem?
 intro k
 rw [List.getElem?_drop]
 by_cases hk:k<3
 ·obtain ⟨zs,h1,h2⟩:=h k hk
  rw [qgm,h1,qgm,List.getElem?_range hk]
  simp [h2]
 ·rw [List.getElem?_eq_none (by simp;omega),List.getElem?_eq_none (by simpa using hk)]
theorem yiu {asks:Nat}{rs:List (List Cl)}{ws:List Nat}{L3 L4:Ls}{nets:List (List Str)}(h:OkM asks rs) (hw:OkW rs.length ws) (r3:DictR (zcy (bOf rs.length) ws rs zbr) (zcy (bOf rs.length) ws rs zbr) L3) (r4:DictR (zc1 (bOf rs.length) ws rs zbr) (zc1 (bOf rs.length) ws rs zbr) L4)
  (hf:zho (zdg (bOf rs.length) L3 L4) nets) (hl:nets.length=bOf rs.length+3) {i a w:Nat} {cs:List Cl} {c:Cl} (h1:ws[i]? = some w) (h2:rs[i]? = some cs) (h3:cs[a]? = some c) :
  (∀g v,c.1=some g->ws[g]? = some v->(zcl (bOf rs.length) nets w a).1=v)/\∀s,c.2=some s->(zcl (bOf rs.length) nets w a).2=s:=by
 obtain ⟨hb1,hb2,hb3⟩:=zed h.r8
 obtain ⟨s3,s4⟩:=yir hf hl
 refine ⟨fun g v e1 e2=>?_,fun s e1=>?_⟩
 ·have hR:zcy (bOf rs.length) ws rs zbr (w+a*2 ^ bOf rs.length) v:=⟨i,a,w,cs,c,g,trivial,h1,h2,h3,rfl,e1,e2⟩
  unfold zcl
  dsimp only
  rw [yis (v:=v) hl fun k hk=>by
   obtain ⟨zs,q1,q2⟩:=s3 k hk
   exact ⟨zs,q1,zu9 r3 (fun p v v' z z'=>zu7 hw z z') q2 hR⟩]
  have hv:=hw.lt v (qmg e2)
  have h8:2 ^ bOf rs.length<=2 ^ 3:=Nat.pow_le_pow_right (by decide) hb3
  exact zva ⟨bOf rs.length,by omega⟩ ⟨v,by omega⟩ hv
 ·have hR:zc1 (bOf rs.length) ws rs zbr (w+a*2 ^ bOf rs.length) s:=⟨i,a,w,cs,c,trivial,h1,h2,h3,rfl,e1⟩
  unfold zcl
  dsimp only
  rw [yit (v:=s) hl fun k hk=>by
   obtain ⟨zs,q1,q2⟩:=s4 k hk
   exact ⟨zs,q1,zu9 r4 (fun p v v' z z'=>zu8 hw z z') q2 hR⟩]
  have hs:=(h.ok cs (qmg h2) c (qmg h3)).sa s e1
  exact zva ⟨3,by decide⟩ ⟨s,hs⟩ (by show s<2 ^ 3;omega)
noncomputable def cl (rs:List (List Cl)) (r a:Nat):Cl:=((rs[r]?).bind fun cs=>cs[a]?).getD (none,none)
noncomputable def zb1 (rs:List (List Cl)):Option Nat->List Nat->List (Option Nat) × Option Nat
 | o,[]=>([],o)
 | none,_ :: _=>([],none)
 | some r,a :: row=>((cl rs r a).2 :: (zb1 rs (cl rs r a).1 row).1,(zb1 rs (cl rs r a).1 row).2)
noncomputable def zee (rs:List (List Cl)) (asks:Nat):Option Nat->List Nat->Prop
 | _,[]=>True
 | none,_ :: _=>False
 | some r,a :: row=>a<asks/\zee rs asks (cl rs r a).1 row
theorem zvb {rs:List (List Cl)}{asks:Nat}:∀(row:List Nat) (o:Option Nat) (r a:Nat),zee rs asks o row->(zb1 rs o row).2=some r->a<asks->zee rs asks o (row++[a])/\(zb1 rs o (row++[a])).2=(cl rs r a).1
 | [],o,r,a,_,e,ha=>by
  have e:o=some r:=e
  subst e
  exact ⟨⟨ha,by cases (cl rs r a).1 <;> trivial⟩,by show (zb1 rs (cl rs r a).1 []).2=_;cases (cl rs r a).1 <;> rfl⟩
 | x :: row,none,r,a,hf,e,ha=>hf.elim
 | x :: row,some q,r,a,hf,e,ha=>by
  obtain ⟨h1,h2⟩:=zvb row (cl rs q x).1 r a hf.2 e ha
  exact ⟨⟨hf.1,h1⟩,h2⟩
theorem zil {asks:Nat}{rs:List (List Cl)}(h:OkM asks rs) {r a:Nat}(hr:r<rs.length) (ha:a<asks):∃cs,rs[r]? = some cs/\cs[a]? = some (cl rs r a):=by
 have h1:rs[r]? = some rs[r]:=qge hr
 have hla:a<rs[r].length:=by rw [h.len _ (List.getElem_mem hr)];exact ha
 have h2:rs[r][a]? = some rs[r][a]:=qge hla
 refine ⟨_,h1,?_⟩
 unfold cl
 rw [h1]
 show _=some ((rs[r][a]?).getD (none,none))
 rw [h2];rfl
theorem zlv {asks:Nat}{rs:List (List Cl)}(h:OkM asks rs) {r a g:Nat}(hr:r<rs.length) (ha:a<asks) (e:(cl rs r a).1=some g):g<rs.length:=by
 obtain ⟨cs,h1,h2⟩:=zil h hr ha
 exact (h.ok cs (qmg h1) _ (qmg h2)).go g e
noncomputable def zlw (b:Nat) (ws:List Nat) (rs:List (List Cl)) (nets:List (List Str)):Prop:=∀{i a w:Nat}{cs:List Cl}{c:Cl},ws[i]? = some w->rs[i]? = some cs->cs[a]? = some c ->
  (∀g v,c.1=some g->ws[g]? = some v->(zcl b nets w a).1=v)/\∀s,c.2=some s->(zcl b nets w a).2=s
theorem zvc {asks:Nat}{rs:List (List Cl)}{ws:List Nat}{nets:List (List Str)}(h:OkM asks rs) (hw:OkW rs.length ws) (st:zlw (bOf rs.length) ws rs nets):∀(row:List Nat) (r w:Nat),zee rs asks (some r) row->r<rs.length->ws[r]? = some w ->
  (zb1 rs (some r) row).1.length=row.length/\(∀(k s:Nat),(zb1 rs (some r) row).1[k]? = some (some s)->(zbq (bOf rs.length) nets w row).1[k]? = some s)/\∀g,(zb1 rs (some r) row).2=some g->g<rs.length/\ws[g]? = some (zbq (bOf rs.length) nets w row).2
 | [],r,w,hf,hr,e=>⟨rfl,(fun k s z=>by cases z),fun g z=>by cases z;exact ⟨hr,e⟩⟩
 | a :: row,r,w,hf,hr,e=>by
  obtain ⟨ha,hf⟩:=hf
  obtain ⟨cs,h1,h2⟩:=zil h hr ha
  obtain ⟨s1,s2⟩:=st e h1 h2
  have hgo:=fun g=>zlv h (g:=g) hr ha
  have head:∀(as:List (Option Nat)) (bs:List Nat),(∀(k s:Nat),as[k]? = some (some s)->bs[k]? = some s)->∀(k s:Nat),((cl rs r a).2 :: as)[k]? = some (some s)->((zcl (bOf rs.length) nets w a).2 :: bs)[k]? = some s:=fun as bs hk k s z=>by
   cases k with
   | zero=>have z:(cl rs r a).2=some s:=qoi z;show some _=some _;rw [s2 s z]
   | succ k=>exact hk k s z
  show ((cl rs r a).2 :: (zb1 rs (cl rs r a).1 row).1).length=row.length+1/\_
  cases hc:(cl rs r a).1 with
  | some g =>
   have hg:=hgo g hc
   obtain ⟨v,hv⟩:∃v,ws[g]? = some v:=⟨_,qge (by rw [hw.len];exact hg)⟩
   rw [hc] at hf
   obtain ⟨i1,i2,i3⟩:=zvc h hw st row g v hf hg hv
   have ev:=s1 g v hc hv
   refine ⟨by rw [List.length_cons,i1],?_,?_⟩
   ·show ∀(k s:Nat),((cl rs r a).2 :: (zb1 rs (cl rs r a).1 row).1)[k]? = some (some s)->((zcl (bOf rs.length) nets w a).2 :: (zbq (bOf rs.length) nets (zcl (bOf rs.length) nets w a).1 row).1)[k]? = some s
    rw [hc,ev]
    exact head _ _ i2
   ·show ∀q,(zb1 rs (cl rs r a).1 row).2=some q->q<rs.length/\ws[q]? = some (zbq (bOf rs.length) nets (zcl (bOf rs.length) nets w a).1 row).2
    rw [hc,ev]
    exact i3
  | none =>
   rw [hc] at hf
   cases row with
   | cons x row=>exact hf.elim
   | nil =>
    refine ⟨rfl,?_,?_⟩
    ·show ∀(k s:Nat),((cl rs r a).2 :: (zb1 rs (cl rs r a).1 []).1)[k]? = some (some s)->((zcl (bOf rs.length) nets w a).2 :: [])[k]? = some s
     rw [hc]
     exact head _ _ fun k s z=>by cases z
    ·show ∀q,(zb1 rs (cl rs r a).1 []).2=some q->_
     rw [hc]
     intro q z;cases z
theorem yiv {asks:Nat}{rs:List (List Cl)}(h:OkM asks rs) (row:List Nat) (S:Sto) (hf:zee rs asks (some 0) row) (hl:row.length<=100) :
  Wo (zjt [mD asks rs,.int 0,.tup (zae row)] S) fun d S'=>∃n,d=.tup [.ref n,oD (zb1 rs (some 0) row).2]/\S.length<=n/\S'[n]? = some (.lst ((zb1 rs (some 0) row).1.map oD))/\Gr S S':=by
 have sz0:0<=sizeLine:=by decide
 have sz2:2<=sizeLine:=by decide
 have big:1000<=sizeLine:=by decide
 have hr1:=h.r1
 unfold zjt zsz
 simp only [zb5,List.map_cons,List.map_nil,List.length_cons,List.length_nil,Nat.reduceAdd,Nat.reduceSub,List.replicate,List.cons_append,List.nil_append]
 refine zau (fun l S'=>S' = S/\l=[some (mD asks rs),some (.int 0),some (.tup (zae row)),some (.tup (rs.map rD)),none,none,none,none]) ?_ ?_
 ·simp only [za8,zax,zal,zas,qg0,qg1,zan,zke,zav,qs0,qs1,and_self]
 rintro l S1 ⟨rfl,rfl⟩
 refine zau (fun l S'=>S' = S1++[.lst []]/\l=[some (mD asks rs),some (.int 0),some (.tup (zae row)),some (.tup (rs.map rD)),some (.ref S1.length),none,none,none]) (by simp! only [sz0,true_and,and_self]) ?_
 rintro l S2 ⟨rfl,rfl⟩
 refine zau (fun l S'=>S' = S1++[.lst []]/\l=[some (mD asks rs),some (.int 0),some (.tup (zae row)),some (.tup (rs.map rD)),some (.ref S1.length),some (oD (some 0)),none,none]) (by simp! only [oD];exact ⟨(by first|rfl|trivial),(by first|rfl|trivial),(by first|rfl|trivial)⟩) ?_
 rintro l S2 ⟨rfl,rfl⟩
 rw [zci]
 refine zjo (zae row) (fun i l S'=>Gr S1 S'/\∃(o:Option Nat) (as:List (Option Nat)),(∀r,o=some r->r<rs.length)/\as.length=i/\zee rs asks o (row.drop i)/\S'[S1.length]? = some (.lst (as.map oD))/\as++(zb1 rs o (row.drop i)).1=(zb1 rs (some 0) row).1/\(zb1 rs o (row.drop i)).2=(zb1 rs (some 0) row).2/\∃y6 y7,l=[some (mD asks rs),some (.int 0),some (.tup (zae row)),some (.tup (rs.map rD)),some (.ref S1.length),some (oD o),y6,y7]) (fun _ _=>False) rfl
  ⟨⟨_,rfl⟩,some 0,[],(fun r z=>by cases z;omega),rfl,hf,zbx _ _,rfl,rfl,_,_,rfl⟩ ?_ ?_ (fun d l S h=>h.elim)
 ·rintro i x l S2 hx ⟨g2,o,as,ho,hla,hf2,q2,e1,e2,y6,y7,rfl⟩
  obtain ⟨a,rfl,ha⟩:=zgo hx
  have hi:i<row.length:=(qme ha).1
  rw [zj8 ha] at hf2 e1 e2
  rw [zav]
  simp only [qs0,qs1]
  cases o with
  | none=>exact hf2.elim
  | some r =>
   obtain ⟨haa,hf3⟩:=hf2
   have hr:=ho r rfl
   obtain ⟨cs,c1,c2⟩:=zil h hr haa
   have at1:L2.atI (rs.map rD) (r:Int)=some (.tup (cs.map cD)):=atI_get (by rw [qgm,c1];rfl)
   have at2:L2.atI (cs.map cD) (a:Int)=some (.tup [oD (cl rs r a).1,oD (cl rs r a).2]):=atI_get (by rw [qgm,c2];rfl)
   refine zau (fun l S'=>S' = S2/\l=[some (mD asks rs),some (.int 0),some (.tup (zae row)),some (.tup (rs.map rD)),some (.ref S1.length),some (oD (some r)),some (.int a),y7]) ?_ ?_
   ·simp only [zbj,zbe,zax,zal,zas,qg0,qg1,zan,zkw,oD,zb7,zbb,Bool.false_eq_true,if_false,zby]
    exact ⟨(by first|rfl|trivial),(by first|rfl|trivial),(by first|rfl|trivial)⟩
   rintro l S3 ⟨rfl,rfl⟩
   refine zau (fun l S'=>S' = S3/\l=[some (mD asks rs),some (.int 0),some (.tup (zae row)),some (.tup (rs.map rD)),some (.ref S1.length),some (oD (cl rs r a).1),some (.int a),some (oD (cl rs r a).2)]) ?_ ?_
   ·simp only [za8,zax,zal,qg0,qg1,zan,show oD (some r)=.int (r:Int) from rfl,zd0,at1,at2,zbl,zc7,zc9,zav,zc8,List.length_cons,List.length_nil,Nat.reduceAdd,qs0,qs1,true_and,and_self]
   rintro l S4 ⟨rfl,rfl⟩
   simp only [zd4,zen,zal,zar,zaq,qg0,qg1,zan,zhz]
   refine ⟨⟨_,show zdh (.ref S1.length) S4=some _ from zbk q2⟩,_,q2,by rw [qlm];omega,.inl ⟨(by first|exact .inl rfl|exact .inl trivial|trivial),g2.set (qlr _) _,(cl rs r a).1,as++[(cl rs r a).2],fun g z=>zlv h hr haa z,by simp [hla],hf3,?_,?_,?_,_,_,rfl⟩⟩
   ·rw [zd1 q2,List.map_append];rfl
   ·rw [←e1,List.append_assoc];rfl
   ·rw [←e2];rfl
 ·rintro l S2 ⟨g2,o,as,ho,hla,hf2,q2,e1,e2,y6,y7,rfl⟩
  rw [zck] at e1 e2
  rw [List.drop_length] at e1 e2
  have r0:zb1 rs o []=([],o):=by cases o <;> rfl
  rw [r0] at e1 e2
  rw [List.append_nil] at e1
  simp! only [sz2,true_and]
  refine ⟨S1.length,?_,qlr _,by rw [←e1];exact q2,g2⟩
  rw [←e2]
theorem zvd {asks:Nat}{rs:List (List Cl)}{ws:List Nat}{nets:List (List Str)}(h:OkM asks rs) (hw:OkW rs.length ws) (hb:OkB (bOf rs.length) (cOf asks) nets) (st:zlw (bOf rs.length) ws rs nets) (row:List Nat) (S:Sto) (hf:zee rs asks (some 0) row) (hra:∀a∈row,a<100) (hl:row.length<=100) :
  Wo (zhh [mD asks rs,.tup (zae ws),zbm (bOf rs.length) (cOf asks) nets,.tup (zae row)] S) fun d S'=>d=.bl true/\Gr S S':=by
 have hr1:=h.r1
 have h8:2 ^ bOf rs.length<=2 ^ 3:=Nat.pow_le_pow_right (by decide) (zed h.r8).2.2
 obtain ⟨w0,hw0⟩:∃w,ws[0]? = some w:=⟨_,qge (by rw [hw.len];omega)⟩
 have hw8:w0<8:=by have:=hw.lt w0 (qmg hw0);omega
 have at0:L2.atI (zae ws) 0=some (.int (w0:Int)):=atI_get (i:=0) (by unfold zae;rw [qgm,hw0];rfl)
 obtain ⟨ag1,ag2,ag3⟩:=zvc h hw st row 0 w0 hf (by omega) hw0
 obtain ⟨lt1,lt2,lt3⟩:=zkc hb row w0 hw8
 unfold zhh zs0
 simp only [zb5,List.map_cons,List.map_nil,List.length_cons,List.length_nil,Nat.reduceAdd,Nat.reduceSub,List.replicate,List.cons_append,List.nil_append]
 refine zau (fun l S'=>Gr S S'/\∃n,S'[n]? = some (.lst ((zb1 rs (some 0) row).1.map oD))/\l=[some (mD asks rs),some (.tup (zae ws)),some (zbm (bOf rs.length) (cOf asks) nets),some (.tup (zae row)),some (.ref n),some (oD (zb1 rs (some 0) row).2),none,none,none]) ?_ ?_
 ·simp only [za8,zat,zar,zaq,zal,zas,qg0,qg1,zan]
  refine (yiv h row S hf hl).mono ?_
  rintro d S1 ⟨n,rfl,hn,q,g⟩
  simp only [zc7,zc9,zav,zc8,List.length_cons,List.length_nil,Nat.reduceAdd,qs0,qs1,true_and]
  exact ⟨g,n,q,rfl⟩
 rintro l S1 ⟨g1,n,q1,rfl⟩
 refine zau (fun l S'=>Gr S1 S'/\∃m,S'[m]? = some (.lst (zae (zbq (bOf rs.length) nets w0 row).1))/\l=[some (mD asks rs),some (.tup (zae ws)),some (zbm (bOf rs.length) (cOf asks) nets),some (.tup (zae row)),some (.ref n),some (oD (zb1 rs (some 0) row).2),some (.ref m),some (.int ((zbq (bOf rs.length) nets w0 row).2:Nat)),none]) ?_ ?_
 ·simp only [za8,zat,zax,zar,zaq,zal,zas,qg0,qg1,zan,zd0,at0,zbl]
  refine (zlq hb w0 row S1 hw8 hra hl).mono ?_
  rintro d S2 ⟨m,rfl,hm,q,g⟩
  simp only [zc7,zc9,zav,zc8,List.length_cons,List.length_nil,Nat.reduceAdd,qs0,qs1,true_and]
  exact ⟨g,m,q,rfl⟩
 rintro l S2 ⟨g2,m,q2,rfl⟩
 have q1':=g2.get q1
 have el1:(((zb1 rs (some 0) row).1.map oD).length:Int)=((zae row).length:Int):=by rw [qlm,ag1,zck]
 have el2:((zae (zbq (bOf rs.length) nets w0 row).1).length:Int)=((zae row).length:Int):=by rw [zck,lt3,zck]
 refine zau (fun l S'=>S' = S2/\l=[some (mD asks rs),some (.tup (zae ws)),some (zbm (bOf rs.length) (cOf asks) nets),some (.tup (zae row)),some (.ref n),some (oD (zb1 rs (some 0) row).2),some (.ref m),some (.int ((zbq (bOf rs.length) nets w0 row).2:Nat)),none]) ?_ ?_
 ·simp only [zbj,zg2,zbe,zax,zat,zar,zaq,zal,qg0,qg1,zan,zhc,ze6,zbk q1',zbk q2,zbl,zh9,el1,el2,decide_true,Bool.not_true,zbb,Bool.false_eq_true,if_false,zby,and_self]
 rintro l S3 ⟨rfl,rfl⟩
 rw [zci]
 refine zib (n:=row.length) (fun i l S'=>S' = S3/\∃y8,l=[some (mD asks rs),some (.tup (zae ws)),some (zbm (bOf rs.length) (cOf asks) nets),some (.tup (zae row)),some (.ref n),some (oD (zb1 rs (some 0) row).2),some (.ref m),some (.int ((zbq (bOf rs.length) nets w0 row).2:Nat)),y8]) (fun _ _=>False) (S1:=S3) ?_ (by omega) ⟨rfl,_,rfl⟩ ?_ ?_ (fun d l S h=>h.elim)
 ·refine as1 ?_
  show (zag zbw (zac (zaa 3) zaf)) _ S3=_
  have:We (zag zbw (zac (zaa 3) zaf)) [some (mD asks rs),some (.tup (zae ws)),some (zbm (bOf rs.length) (cOf asks) nets),some (.tup (zae row)),some (.ref n),some (oD (zb1 rs (some 0) row).2),some (.ref m),some (.int ((zbq (bOf rs.length) nets w0 row).2:Nat)),none] S3 fun v S'=>v=.int (row.length:Int)/\S' = S3:=by
   simp only [zat,zar,zaq,zal,qg0,qg1,zan,ze6,zck,and_self]
  obtain ⟨v,S',e,rfl,rfl⟩:=this
  exact e
 ·rintro i l S4 hi ⟨rfl,y8,rfl⟩
  simp only [zav,qs0,qs1]
  obtain ⟨o,ho⟩:∃o,(zb1 rs (some 0) row).1[i]? = some o:=⟨_,qge (by rw [ag1];exact hi)⟩
  have a1:L2.atI ((zb1 rs (some 0) row).1.map oD) (i:Int)=some (oD o):=atI_get (by rw [qgm,ho];rfl)
  cases o with
  | none =>
   simp only [zbj,ze0,zbe,zax,zal,zas,qg0,qg1,zan,zd8,zbk q1',zbl,a1,zdx,oD,zb7,Bool.not_true,zbb,Bool.false_eq_true,if_false,zby]
   exact .inl ⟨(by first|exact .inl rfl|exact .inl trivial|trivial),(by first|rfl|trivial),_,rfl⟩
  | some s =>
   have a2:L2.atI (zae (zbq (bOf rs.length) nets w0 row).1) (i:Int)=some (.int (s:Int)):=atI_get (by unfold zae;rw [qgm,ag2 i s ho];rfl)
   simp only [zbj,ze0,zbe,zax,zal,zas,qg0,qg1,zan,zd8,zbk q1',zbk q2,zbl,a1,a2,zdx,oD,zb7,Bool.not_false,zbb,if_true,zh9,decide_true,Bool.not_true,Bool.false_eq_true,if_false,zby]
   exact .inl ⟨(by first|exact .inl rfl|exact .inl trivial|trivial),(by first|rfl|trivial),_,rfl⟩
 ·rintro l S4 ⟨rfl,y8,rfl⟩
  simp only [zb4,zqm,zax,zal,zas,qg0,qg1,zan,zkw]
  cases he:(zb1 rs (some 0) row).2 with
  | none =>
   simp only [oD,zb7,zbb,if_true]
   exact ⟨(by first|rfl|trivial),g1.trans g2⟩
  | some g =>
   obtain ⟨_,hg⟩:=ag3 g he
   have a3:L2.atI (zae ws) (g:Int)=some (.int ((zbq (bOf rs.length) nets w0 row).2:Nat)):=atI_get (by unfold zae;rw [qgm,hg];rfl)
   simp only [oD,zb7,zbb,Bool.false_eq_true,if_false,zd0,a3,zbl,zdb,decide_true]
   exact ⟨(by first|rfl|trivial),g1.trans g2⟩
theorem zve {asks:Nat}{rs:List (List Cl)}(h:OkM asks rs) (ns:List Int) (S:Sto) (k:Int) (most:Nat) (hp:Pn ns k S) (hk:k<100000) (hm:most<=60) :
  Wo (zif [.ref 1,mD asks rs,.int (most:Int)] S) fun d S'=>∃row,d=.tup (zae row)/\zee rs asks (some 0) row/\(∀a∈row,a<asks)/\row.length<=most/\Pn ns (k+60) S'/\Fr S S':=by
 have sz0:0<=sizeLine:=by decide
 have big:1000<=sizeLine:=by decide
 have hr1:=h.r1
 have ha1:=h.a1
 have ha4:=h.a4
 unfold zif zte
 simp only [zb5,List.map_cons,List.map_nil,List.length_cons,List.length_nil,Nat.reduceAdd,Nat.reduceSub,List.replicate,List.cons_append,List.nil_append]
 refine zau (fun l S'=>Pn ns k S'/\Fr S S'/\∃n,2<=n/\S.length<=n/\S'[n]? = some (.lst (zae []))/\l=[some (.ref 1),some (mD asks rs),some (.int (most:Int)),some (.ref n),none,none]) ?_ ?_
 ·simp! only [sz0,true_and]
  exact ⟨hp.push _,Fr.of ⟨_,rfl⟩,_,hp.two,qlr _,zbx _ _,rfl⟩
 rintro l S1 ⟨p1,f1,n,hn2,hnS,q1,rfl⟩
 refine zau (fun l S'=>S' = S1/\l=[some (.ref 1),some (mD asks rs),some (.int (most:Int)),some (.ref n),some (oD (some 0)),none]) (by simp! only [oD];exact ⟨(by first|rfl|trivial),(by first|rfl|trivial),(by first|rfl|trivial)⟩) ?_
 rintro l S2 ⟨rfl,rfl⟩
 rw [zci]
 refine yfg (fun m l S'=>∃row:List Nat,row.length+m=most/\Pn ns (k+row.length) S'/\Fr S S'/\S'[n]? = some (.lst (zae row))/\zee rs asks (some 0) row/\(∀a∈row,a<asks)/\(∀r,(zb1 rs (some 0) row).2=some r->r<rs.length)/\∃y5,l=[some (.ref 1),some (mD asks rs),some (.int (most:Int)),some (.ref n),some (oD (zb1 rs (some 0) row).2),y5]) (fun _ _=>False)
  (fun l S'=>∃row:List Nat,row.length<=most/\Pn ns (k+row.length) S'/\Fr S S'/\S'[n]? = some (.lst (zae row))/\zee rs asks (some 0) row/\(∀a∈row,a<asks)/\∃y4 y5,l=[some (.ref 1),some (mD asks rs),some (.int (most:Int)),some (.ref n),y4,y5]) most (by omega) ⟨[],by simp,by simpa using p1,f1,q1,trivial,(fun a z=>by cases z),(fun r z=>by cases z;omega),_,rfl⟩ ?_ ?_ (fun d l S h=>h.elim)
 ·rintro m l S3 ⟨row,hm2,p3,f3,q3,hf,hra,hrr,y5,rfl⟩
  cases he:(zb1 rs (some 0) row).2 with
  | none =>
   simp only [ze0,zbe,zax,zal,zas,qg0,qg1,zan,zdx,oD,zb7,Bool.not_true,zbb,Bool.false_eq_true,if_false]
   exact ⟨row,by omega,p3,f3,q3,hf,hra,_,_,rfl⟩
  | some r =>
   have hr:=hrr r he
   simp only [ze0,zbe,zax,zat,zar,zaq,zal,zas,qg0,qg1,zan,zdx,oD,zb7,Bool.not_false,zbb,if_true,zhc,zbk q3,zbl,zck,ze2]
   by_cases hlt:(row.length:Int)<(most:Int)
   ·simp only [hlt,decide_true,if_true]
    refine zau (fun l S'=>Pn ns (k+row.length+1) S'/\Fr S S'/\S'[n]? = some (.lst (zae row))/\∃a:Nat,a<asks/\l=[some (.ref 1),some (mD asks rs),some (.int (most:Int)),some (.ref n),some (.int (r:Int)),some (.int (a:Int))]) ?_ ?_
    ·simp only [za8,zax,zat,zar,zaq,zal,zas,qg0,qg1,zan,zlr]
     refine (zcn ns _ _ (asks:Int) p3 (by omega) (by omega) (by omega)).mono ?_
     rintro u S4 ⟨⟨a,rfl,ha⟩,p4,f4⟩
     simp only [zav,qs0,qs1]
     exact ⟨(by first|rfl|trivial),p4,f3.trans f4,f4 n _ (by omega) q3,a,by omega,rfl⟩
    rintro l S4 ⟨p4,f4,q4,a,ha,rfl⟩
    obtain ⟨fs1,fs2⟩:=zvb row (some 0) r a hf he ha
    obtain ⟨cs,c1,c2⟩:=zil h hr ha
    refine zau (fun l S'=>S' = S4.set n (.lst (zae (row++[a])))/\l=[some (.ref 1),some (mD asks rs),some (.int (most:Int)),some (.ref n),some (.int (r:Int)),some (.int (a:Int))]) ?_ ?_
    ·simp only [zd4,zen,zal,zar,zaq,qg0,qg1,zan]
     refine ⟨⟨_,show zdh (.ref n) S4=some _ from zbk q4⟩,?_⟩
     rw [zjq q4 (by rw [zck];omega),zj9]
     exact ⟨(by first|rfl|trivial),(by first|rfl|trivial),(by first|rfl|trivial)⟩
    rintro l S5 ⟨rfl,rfl⟩
    have at1:L2.atI (rs.map rD) (r:Int)=some (.tup (cs.map cD)):=atI_get (by rw [qgm,c1];rfl)
    have at2:L2.atI (cs.map cD) (a:Int)=some (.tup [oD (cl rs r a).1,oD (cl rs r a).2]):=atI_get (by rw [qgm,c2];rfl)
    have at3:L2.atI [oD (cl rs r a).1,oD (cl rs r a).2] 0=some (oD (cl rs r a).1):=rfl
    simp only [za8,zax,zal,zas,qg0,qg1,zan,zke,zd0,at1,at2,at3,zbl,zav,qs0,qs1]
    refine .inl ⟨(by first|exact .inl rfl|exact .inl trivial|trivial),m-1,by omega,row++[a],by simp;omega,(p4.set hn2).mono (by simp;omega),f4.set hnS,zd1 q4,fs1,fun x hx=>?_,fun g z=>?_,some (.int (a:Int)),by rw [fs2];cases (cl rs r a).1 <;> rfl⟩
    ·rcases List.mem_append.mp hx with z|z
     ·exact hra x z
     ·rw [List.mem_singleton.mp z];exact ha
    ·rw [fs2] at z;exact zlv h hr ha z
   ·simp only [hlt,decide_false,Bool.false_eq_true,if_false]
    exact ⟨row,by omega,p3,f3,q3,hf,hra,_,_,rfl⟩
 ·rintro l S3 ⟨row,hm2,p3,f3,q3,hf,hra,y4,y5,rfl⟩
  simp! only [zbk q3]
  exact ⟨row,(by first|rfl|trivial),hf,hra,hm2,p3.mono (by omega),f3⟩
theorem yiw {r:Nat}(h1:1<=r) (h8:r<=8):L2.atI [D.int 1,.int 1,.int 2,.int 2,.int 3,.int 3,.int 3,.int 3] ((r:Int)-1)=some (.int (bOf r:Nat)):=by
 have:r=1∨r=2∨r=3∨r=4∨r=5∨r=6∨r=7∨r=8:=by omega
 rcases this with rfl|rfl|rfl|rfl|rfl|rfl|rfl|rfl <;> rfl
theorem yix {a:Nat}(h1:1<=a) (h4:a<=4):L2.atI [D.int 0,.int 1,.int 2,.int 2] ((a:Int)-1)=some (.int (cOf a:Nat)):=by
 have:a=1∨a=2∨a=3∨a=4:=by omega
 rcases this with rfl|rfl|rfl|rfl <;> rfl
theorem zn9 {asks:Nat}{rs:List (List Cl)}(h:OkM asks rs) (S:Sto):Wo (zf7 [mD asks rs] S) fun v S'=>v=bcD asks rs/\Gr S S':=by
 have sz2:2<=sizeLine:=by decide
 have sz4:4<=sizeLine:=by decide
 have sz8:8<=sizeLine:=by decide
 unfold zf7 ztf bcD
 simp only [zb5,List.map_cons,List.map_nil,List.length_cons,List.length_nil,Nat.reduceAdd,Nat.reduceSub,List.replicate,List.cons_append,List.nil_append,zb4,zat,zax,zar,zaq,zal,zas,qg0,qg1,zan,ze3,List.length_cons,List.length_nil,Nat.reduceAdd,sz8,sz4,true_and,zke,zlr,ze6,qlm,ze2,zd8,zdp,zbl,yiw h.r1 h.r8,yix h.a1 h.a4,zda,sz2]
 first|exact ⟨(by first|rfl|trivial),Gr.push (Gr.push (Gr.refl _) _) _⟩|exact Gr.push (Gr.push (Gr.refl _) _) _
theorem yiy {n:Nat}{i:Int}{S:Sto}{xs:List D}(h:S[n]? = some (.lst xs)) (h0:0<=i) (h1:i<xs.length) (h2:xs.length<1000000):∃y,xs[i.toNat]? = some y/\∀Q:D->Sto->Prop,Wo (zg4 (.ref n) [.int i] S) Q=Q y (S.set n (.lst (xs.eraseIdx i.toNat))):=by
 have hl:i.toNat<xs.length:=by omega
 refine ⟨xs[i.toNat],qge hl,fun Q=>?_⟩
 have e:PySem.seqIndex? i xs.length=some i.toNat:=by
  unfold PySem.seqIndex?
  first
   | (simp;omega)
   | (rw [if_pos (by omega)];try rw [if_pos (by omega)])
 have:zg4 (.ref n) [.int i] S=some (xs[i.toNat],S.set n (.lst (xs.eraseIdx i.toNat))):=by
  unfold zg4
  dsimp only
  rw [h]
  dsimp only
  rw [e]
  show ((xs[i.toNat]?).bind _)=_
  rw [qge hl]
  show (if _ then _ else _)=_
  rw [if_pos (by omega)]
 rw [this];exact zbh
theorem yiz (n:Nat):zbz 0 n=zae (List.range n):=by
 unfold zbz zae
 apply List.map_congr_left
 intro i _
 show D.int (0+(i:Int))=D.int (i:Int)
 rw [Int.zero_add]
theorem zvf:∀(l:List Nat) (i:Nat) (h:i<l.length),(l[i] :: l.eraseIdx i).Perm l
 | [],i,h=>absurd h (Nat.not_lt_zero _)
 | x :: l,0,_=>.refl _
 | x :: l,i+1,h=>by
  have ih:=zvf l i (by simpa using h)
  show (l[i]'(by simpa using h) :: x :: l.eraseIdx i).Perm (x :: l)
  exact (List.Perm.swap ..).trans (ih.cons x)
theorem zvg {α β:Type}(f:α->β):∀(l:List α) (i:Nat),(l.map f).eraseIdx i=(l.eraseIdx i).map f
 | [],_=>rfl
 | x :: l,0=>rfl
 | x :: l,i+1=>by
  show f x :: (l.map f).eraseIdx i=f x :: (l.eraseIdx i).map f
  rw [zvg f l i]
theorem yi0 {e:EM}{l:Lo}{S S1:Sto}{q:Nat}(h:e l S=some (.int (q:Int),S1)) (hq:q<1000):zcg (zac e zaf) l S=some ((0,q),S1):=by
 have:=zsg (as1 h) ⟨by omega,by omega⟩
 rw [Int.toNat_natCast] at this
 exact this
theorem yi1 (ns:List Int) (S:Sto) (k:Int) (many:Nat) (hp:Pn ns k S) (hk:k<100000) (h8:many<=8):Wo (zj5 [.ref 1,.int (many:Int),.int (bOf many:Nat)] S) fun d S'=>∃ws,d=.tup (zae ws)/\OkW many ws/\Pn ns (k+8) S':=by
 have big:1000<=sizeLine:=by decide
 obtain ⟨hb1,hb2,hb3⟩:=zed h8
 have hp8:2 ^ bOf many<=2 ^ 3:=Nat.pow_le_pow_right (by decide) hb3
 have hr:zcg (zac (eOp zdj (eC (.int 1)) (zaa 2)) zaf) [some (.ref 1),some (.int (many:Int)),some (.int (bOf many:Nat)),none] S=some ((0,2 ^ bOf many),S):=yi0 (zt5 (v:=bOf many) (S1:=S) rfl (by omega)) (by omega)
 have hn2:=hp.two
 unfold zj5 ztl
 simp only [zb5,List.map_cons,List.map_nil,List.length_cons,List.length_nil,Nat.reduceAdd,Nat.reduceSub,List.replicate,List.cons_append,List.nil_append]
 refine yfh (l':=[some (.ref 1),some (.int (many:Int)),some (.int (bOf many:Nat)),some (.ref S.length)]) (S':=S++[.lst (zae (List.range (2 ^ bOf many)))]) ?_ ?_
 ·rw [za8]
  refine ⟨.ref S.length,S++[.lst (zbz 0 (2 ^ bOf many))],?_,?_⟩
  ·unfold zm8
   rw [hr]
   show (if 2 ^ bOf many<=sizeLine then _ else _)=_
   rw [if_pos (by omega)]
  ·rw [yiz]
   simp only [zav,qs0,qs1]
   exact ⟨(by first|rfl|trivial),(by first|rfl|trivial),(by first|rfl|trivial)⟩
 rw [zb4,zat,zar]
 refine zia (zbz 0 many) (fun i acc l S'=>∃(os left:List Nat) (x0:Option D),acc=zae os/\os.length=i/\(os++left).Perm (List.range (2 ^ bOf many))/\S'[S.length]? = some (.lst (zae left))/\Pn ns (k+i) S'/\l=[x0,some (.ref S.length),some (.ref 1)]) (zlh (n:=many) (as1 rfl) (by omega)) ⟨[],List.range (2 ^ bOf many),none,rfl,rfl,.refl _,zbx _ _,by simpa using hp.push _,rfl⟩ (fun _ _ _ _ _=>rfl) ?_ ?_
 ·rintro i x acc l S1 hx ⟨os,left,x0,rfl,hl,pm,hs1,p1,rfl⟩
  have hi:=(zkx hx).1
  have hll:os.length+left.length=2 ^ bOf many:=by
   have:=pm.length_eq
   rw [qla,List.length_range] at this;exact this
  simp only [zav,qs0]
  refine ⟨true,S1,rfl,?_⟩
  dsimp only
  rw [if_pos rfl,zen]
  simp only [zal,qg0,qg1,zan]
  refine ⟨⟨_,show zdh (.ref S.length) S1=some _ from zbk hs1⟩,?_⟩
  simp only [zar,zaq,zat,zal,qg0,qg1,zan,zhc,zbk hs1,zbl,zck]
  refine (zcn ns _ _ (left.length:Int) p1 (by omega) (by omega) (by omega)).mono ?_
  rintro v S2 ⟨⟨d,rfl,hd⟩,p2,f2⟩
  have hs2:=f2 _ _ (by omega) hs1
  have hdl:d<left.length:=by omega
  obtain ⟨y,hy,hq⟩:=yiy (i:=(d:Int)) hs2 (by omega) (by rw [zck];omega) (by rw [zck];omega)
  rw [hq]
  have hy2:(zae left)[d]? = some (.int (left[d]:Nat)):=by unfold zae;rw [qgm,qge hdl];rfl
  rw [Int.toNat_natCast,hy2] at hy
  cases hy
  refine ⟨os++[left[d]],left.eraseIdx d,_,by rw [zj9],by simp [hl],?_,?_,(p2.set hn2).mono (by push_cast;omega),rfl⟩
  ·rw [List.append_assoc]
   refine List.Perm.trans (List.Perm.append_left os ?_) pm
   exact zvf left d hdl
  ·rw [zd1 hs2,Int.toNat_natCast]
   unfold zae
   rw [zvg]
 ·rintro acc l' S1 ⟨os,left,x0,rfl,hl,pm,hs1,p1,rfl⟩
  rw [zfy] at hl p1
  refine ⟨by rw [zck];omega,?_⟩
  simp only [zaq,zi5,zdp,zbl]
  have nd:(os++left).Nodup:=pm.nodup_iff.mpr List.nodup_range
  exact ⟨os,rfl,⟨hl,(List.nodup_append.mp nd).1,fun w hw=>List.mem_range.mp (pm.mem_iff.mp (List.mem_append_left _ hw))⟩,(p1.push _).mono (by omega)⟩
theorem zvh (w:Nat):∀ws:List Nat,((zae ws).any fun y=>zh0 y (.int (w:Int)))=decide (w∈ws)
 | []=>by simp [zae]
 | x :: ws=>by
  have ih:=zvh w ws
  unfold zae at ih ⊢
  rw [List.map_cons,List.any_cons,ih]
  have e:zh0 (.int (x:Int)) (.int (w:Int))=decide (x=w):=by
   show decide ((x:Int)=(w:Int))=_
   exact decide_eq_decide.mpr (by omega)
  rw [e]
  by_cases h:x=w
  ·subst h;simp
  ·simp [h,Ne.symm h]
theorem zoa {w:Nat}{ws:List Nat}{S:Sto}{Q:D->Sto->Prop}:Wo (dIn false (.int (w:Int)) (.tup (zae ws)) S) Q=Q (.bl (decide (w∈ws))) S:=by
 have hf:(zae ws).all zg3=true:=List.all_eq_true.mpr fun x hx=>by obtain ⟨p,_,rfl⟩:=zln hx;rfl
 have:dIn false (.int (w:Int)) (.tup (zae ws)) S=some (.bl (decide (w∈ws)),S):=by
  show zm6 false (.int (w:Int)) (.tup (zae ws)) S=_
  show (if zg3 (.int (w:Int))=true/\(zae ws).all zg3=true then _ else _)=_
  rw [if_pos ⟨rfl,hf⟩,zvh];rfl
 rw [this];exact zbh
theorem yi2 {ws:List Nat}{i w:Nat}(nd:ws.Nodup) (h:ws[i]? = some w):(ws.map fun (p:Nat)=>(p:Int)).idxOf? (w:Int)=some i:=by
 obtain ⟨hi,e⟩:=qme h
 unfold List.idxOf?
 rw [List.findIdx?_eq_some_iff_getElem]
 refine ⟨by simpa using hi,by simp [e],fun j hj=>?_⟩
 have hj':j<ws.length:=by omega
 simp only [List.getElem_map,beq_iff_eq,Bool.not_eq_true]
 intro z
 have:ws[j]=ws[i]:=by rw [e];omega
 have:=(List.getElem_inj nd).mp this
 omega
theorem yi3 {l:Lo}{S:Sto}{Q:D->Sto->Prop}{a b i w:Nat}{ws:List Nat}(h1:l[a]? = some (some (.tup (zae ws)))) (h2:l[b]? = some (some (.int (w:Int)))) (nd:ws.Nodup) (hi:ws[i]? = some w) (q:Q (.int (i:Int)) S):We (zlg zjh (zaa a) (zac (zaa b) zaf)) l S Q:=by
 refine ⟨.int (i:Int),S,?_,q⟩
 have e1:zaa a l S=some (.tup (zae ws),S):=by unfold zaa;rw [h1]
 have e2:zaa b l S=some (.int (w:Int),S):=by unfold zaa;rw [h2]
 unfold zlg
 rw [e1]
 show (zac (zaa b) zaf l S).bind _=_
 rw [as1 e2]
 show (zd7 (zae ws)).bind _=_
 rw [zur]
 show ((ws.map fun (p:Nat)=>(p:Int)).idxOf? (w:Int)).bind _=_
 rw [yi2 nd hi];rfl
noncomputable def zdc (b:Nat) (ws:List Nat) (rs:List (List Cl)) (asks j p:Nat):Option Nat :=
 (ws.idxOf? (p % 2 ^ b)).bind fun i=>if p / 2 ^ b<asks then (if j<b then ((cl rs i (p / 2 ^ b)).1.bind fun g=>ws[g]?) else (cl rs i (p / 2 ^ b)).2) else none
noncomputable def plc (b j:Nat):Nat:=if j<b then j else j-b
structure TabP (N:Nat->Option Nat) (pl n:Nat) (on off:List Nat):Prop where
 on_:∀p,p∈on↔p<n/\∃v,N p=some v/\bt v pl=1
 off_:∀p,p∈off↔p<n/\∃v,N p=some v/\bt v pl=0
 l1:on.length<=n
 l0:off.length<=n
theorem TabP.skip {N:Nat->Option Nat}{pl n:Nat}{on off:List Nat}(h:TabP N pl n on off) (e:N n=none):TabP N pl (n+1) on off:=by
 refine ⟨fun p=>?_,fun p=>?_,by have:=h.l1;omega,by have:=h.l0;omega⟩
 ·rw [h.on_]
  refine ⟨fun z=>⟨by omega,z.2⟩,fun z=>⟨?_,z.2⟩⟩
  obtain ⟨z1,v,z2,_⟩:=z
  by_cases hp:p=n
  ·subst hp;rw [e] at z2;cases z2
  ·omega
 ·rw [h.off_]
  refine ⟨fun z=>⟨by omega,z.2⟩,fun z=>⟨?_,z.2⟩⟩
  obtain ⟨z1,v,z2,_⟩:=z
  by_cases hp:p=n
  ·subst hp;rw [e] at z2;cases z2
  ·omega
theorem TabP.put1 {N:Nat->Option Nat}{pl n v:Nat}{on off:List Nat}(h:TabP N pl n on off) (e:N n=some v) (hb:bt v pl=1):TabP N pl (n+1) (on++[n]) off:=by
 refine ⟨fun p=>?_,fun p=>?_,by have:=h.l1;simp;omega,by have:=h.l0;omega⟩
 ·rw [List.mem_append,h.on_,List.mem_singleton]
  constructor
  ·rintro (z|rfl)
   ·exact ⟨by omega,z.2⟩
   ·exact ⟨by omega,v,e,hb⟩
  ·rintro ⟨z1,z2⟩
   by_cases hp:p=n
   ·exact .inr hp
   ·exact .inl ⟨by omega,z2⟩
 ·rw [h.off_]
  refine ⟨fun z=>⟨by omega,z.2⟩,fun z=>⟨?_,z.2⟩⟩
  obtain ⟨z1,v',z2,z3⟩:=z
  by_cases hp:p=n
  ·subst hp;rw [e] at z2;cases z2;omega
  ·omega
theorem TabP.put0 {N:Nat->Option Nat}{pl n v:Nat}{on off:List Nat}(h:TabP N pl n on off) (e:N n=some v) (hb:bt v pl=0):TabP N pl (n+1) on (off++[n]):=by
 refine ⟨fun p=>?_,fun p=>?_,by have:=h.l1;omega,by have:=h.l0;simp;omega⟩
 ·rw [h.on_]
  refine ⟨fun z=>⟨by omega,z.2⟩,fun z=>⟨?_,z.2⟩⟩
  obtain ⟨z1,v',z2,z3⟩:=z
  by_cases hp:p=n
  ·subst hp;rw [e] at z2;cases z2;omega
  ·omega
 ·rw [List.mem_append,h.off_,List.mem_singleton]
  constructor
  ·rintro (z|rfl)
   ·exact ⟨by omega,z.2⟩
   ·exact ⟨by omega,v,e,hb⟩
  ·rintro ⟨z1,z2⟩
   by_cases hp:p=n
   ·exact .inr hp
   ·exact .inl ⟨by omega,z2⟩
theorem TabP.nil {N:Nat->Option Nat}{pl:Nat}:TabP N pl 0 [] []:=⟨fun p=>by simp,fun p=>by simp,qlr _,qlr _⟩
theorem zob {ws:List Nat}{i w:Nat}(nd:ws.Nodup) (h:ws[i]? = some w):ws.idxOf? w=some i:=by
 obtain ⟨hi,e⟩:=qme h
 unfold List.idxOf?
 rw [List.findIdx?_eq_some_iff_getElem]
 refine ⟨hi,by simp [e],fun j hj=>?_⟩
 simp only [beq_iff_eq,Bool.not_eq_true]
 intro z
 have:=(List.getElem_inj (h₀:=by omega) (h₁:=hi) nd).mp (z.trans e.symm)
 omega
theorem yi4 {ws:List Nat}{w:Nat}(h:w ∉ ws):ws.idxOf? w=none:=by
 unfold List.idxOf?
 rw [List.findIdx?_eq_none_iff]
 intro x hx
 simp only [beq_eq_false_iff_ne,ne_eq]
 intro z
 subst z
 exact h hx
theorem yi5 {asks:Nat}{rs:List (List Cl)}{ws:List Nat}(h:OkM asks rs) (hw:OkW rs.length ws) (S:Sto):Wo (zig [mD asks rs,.tup (zae ws)] S) fun d S'=>∃n,∃ts:List (List Nat × List Nat),d=.ref n/\S'[n]? = some (.lst (ts.map ze9))/\ts.length=bOf rs.length+3/\(∀(j:Nat) t,ts[j]? = some t->TabP (zdc (bOf rs.length) ws rs asks j) (plc (bOf rs.length) j) (2 ^ (bOf rs.length+cOf asks)) t.1 t.2)/\S.length<=n/\Gr S S':=by
 have sz0:0<=sizeLine:=by decide
 have sz2:2<=sizeLine:=by decide
 have big:1000<=sizeLine:=by decide
 obtain ⟨hb1,hb2,hb3⟩:=zed h.r8
 have hc2:=(zhn h.a4).2
 have h32:=zn6 h
 have hlt:=hw.lt
 have hnd:=hw.nd
 have hwl:=hw.len
 unfold zig ztg
 simp only [zb5,List.map_cons,List.map_nil,List.length_cons,List.length_nil,Nat.reduceAdd,Nat.reduceSub,List.replicate,List.cons_append,List.nil_append]
 refine zau (fun l S'=>Gr S S'/\l=[some (mD asks rs),some (.tup (zae ws)),some (.int (bOf rs.length:Nat)),some (.int (cOf asks:Nat)),none,none,none,none,none,none,none,none,none]) ?_ ?_
 ·simp only [za8,zat,zar,zaq,zal,qg0,qg1,zan]
  refine (zn9 h S).mono ?_
  rintro v S1 ⟨rfl,g⟩
  simp only [bcD,zc7,zc9,zav,zc8,List.length_cons,List.length_nil,Nat.reduceAdd,qs0,qs1,true_and]
  exact ⟨g,(by first|rfl|trivial)⟩
 generalize hb:bOf rs.length=b at *
 generalize hcc:cOf asks=c at *
 rintro l S1 ⟨g1,rfl⟩
 refine zau (fun l S'=>S' = S1++[.lst []]/\l=[some (mD asks rs),some (.tup (zae ws)),some (.int (b:Int)),some (.int (c:Int)),some (.ref S1.length),none,none,none,none,none,none,none,none]) (by simp! only [sz0,true_and,and_self]) ?_
 rintro l S2 ⟨rfl,rfl⟩
 rw [zci]
 refine zib (n:=b+3) (fun j l S'=>Gr S1 S'/\∃ts:List (List Nat × List Nat),ts.length=j/\(∀(j':Nat) t,ts[j']? = some t->TabP (zdc b ws rs asks j') (plc b j') (2 ^ (b+c)) t.1 t.2)/\S'[S1.length]? = some (.lst (ts.map ze9))/\∃y5 y6 y7 y8 y9 y10 y11 y12,l=[some (mD asks rs),some (.tup (zae ws)),some (.int (b:Int)),some (.int (c:Int)),some (.ref S1.length),y5,y6,y7,y8,y9,y10,y11,y12]) (fun _ _=>False) (S1:=S1++[.lst []]) ?_ (by omega) ⟨⟨_,rfl⟩,[],rfl,(fun j t z=>by cases z),zbx _ _,_,_,_,_,_,_,_,_,rfl⟩ ?_ ?_ (fun d l S h=>h.elim)
 ·refine as1 ?_
  have:We (eOp za3 (zaa 2) (eC (.int 3))) [some (mD asks rs),some (.tup (zae ws)),some (.int (b:Int)),some (.int (c:Int)),some (.ref S1.length),none,none,none,none,none,none,none,none] (S1++[.lst []]) fun v S'=>v=.int ((b+3:Nat):Int)/\S' = S1++[.lst []]:=by
   simp only [zax,zal,zas,qg0,qg1,zan,zc6]
   exact ⟨by push_cast;rfl,(by first|rfl|trivial)⟩
  obtain ⟨v,S',e,rfl,rfl⟩:=this
  exact e
 ·rintro j l S3 hj ⟨g3,ts,hl3,ok3,q3,y5,y6,y7,y8,y9,y10,y11,y12,rfl⟩
  simp only [zav,qs0,qs1]
  have hS1:S1.length<S3.length:=(qme q3).1
  refine zau (fun l S'=>S' = S3++[.lst []]++[.lst []]++[.lst [.ref S3.length,.ref (S3.length+1)]]/\l=[some (mD asks rs),some (.tup (zae ws)),some (.int (b:Int)),some (.int (c:Int)),some (.ref S1.length),some (.int (j:Int)),some (.ref (S3.length+2)),y7,y8,y9,y10,y11,y12]) ?_ ?_
  ·simp only [za8,zat,zar,zaq,ze3,List.length_cons,List.length_nil,qla,Nat.reduceAdd,sz0,sz2,true_and,zav,qs0,qs1,and_self]
  rintro l S4 ⟨rfl,rfl⟩
  rw [zci]
  have z0:(S3++[Ob.lst []]++[.lst []]++[.lst [.ref S3.length,.ref (S3.length+1)]])[S3.length]? = some (.lst (zae [])):=zjp (zjp (zbx _ _))
  have z1:(S3++[Ob.lst []]++[.lst []]++[.lst [.ref S3.length,.ref (S3.length+1)]])[S3.length+1]? = some (.lst (zae [])):=by
   have:=zbx (S3++[Ob.lst []]) (Ob.lst [])
   rw [qla,List.length_singleton] at this
   exact zjp this
  have z2:(S3++[Ob.lst []]++[.lst []]++[.lst [.ref S3.length,.ref (S3.length+1)]])[S3.length+2]? = some (.lst [.ref S3.length,.ref (S3.length+1)]):=by
   have:=zbx (S3++[Ob.lst []]++[.lst []]) (Ob.lst [.ref S3.length,.ref (S3.length+1)])
   rw [qla,qla,List.length_singleton] at this
   exact this
  refine zib (n:=2 ^ (b+c)) (fun p l S'=>Gr S3 S'/\∃on off:List Nat,TabP (zdc b ws rs asks j) (plc b j) p on off/\S'[S3.length]? = some (.lst (zae off))/\S'[S3.length+1]? = some (.lst (zae on))/\S'[S3.length+2]? = some (.lst [.ref S3.length,.ref (S3.length+1)])/\∃y7 y8 y9 y10 y11 y12,l=[some (mD asks rs),some (.tup (zae ws)),some (.int (b:Int)),some (.int (c:Int)),some (.ref S1.length),some (.int (j:Int)),some (.ref (S3.length+2)),y7,y8,y9,y10,y11,y12]) (fun _ _=>False) (S1:=S3++[.lst []]++[.lst []]++[.lst [.ref S3.length,.ref (S3.length+1)]]) ?_ (by omega) ⟨Gr.push (Gr.push (Gr.push (Gr.refl _) _) _) _,[],[],TabP.nil,z0,z1,z2,_,_,_,_,_,_,rfl⟩ ?_ ?_ (fun d l S h=>h.elim)
  ·refine as1 (zt5 (v:=b+c) ?_ (by omega))
   have:∀S0:Sto,We (eOp za3 (zaa 2) (zaa 3)) [some (mD asks rs),some (.tup (zae ws)),some (.int (b:Int)),some (.int (c:Int)),some (.ref S1.length),some (.int (j:Int)),some (.ref (S3.length+2)),y7,y8,y9,y10,y11,y12] S0 fun v S'=>v=.int ((b+c:Nat):Int)/\S' = S0:=fun S0=>by
    simp only [zax,zal,qg0,qg1,zan,zc6]
    exact ⟨by push_cast;rfl,(by first|rfl|trivial)⟩
   obtain ⟨v,S',e,rfl,rfl⟩:=this _
   exact e
  ·rintro p l S5 hp ⟨g5,on,off,tp,qf,qn,qb,y7,y8,y9,y10,y11,y12,rfl⟩
   simp only [zav,qs0,qs1]
   have pow0:(0:Int)<((2 ^ b:Nat):Int):=by have:0<2 ^ b:=Nat.pow_pos (by decide);omega
   have powL:((2 ^ b:Nat):Int)<1073741824:=by have:2 ^ b<=2 ^ 3:=Nat.pow_le_pow_right (by decide) hb3;omega
   refine zau (fun l S'=>S' = S5/\l=[some (mD asks rs),some (.tup (zae ws)),some (.int (b:Int)),some (.int (c:Int)),some (.ref S1.length),some (.int (j:Int)),some (.ref (S3.length+2)),some (.int (p:Int)),some (.int ((p % 2 ^ b:Nat):Int)),y9,y10,y11,y12]) ?_ ?_
   ·simp only [za8,zax,zal,zas,qg0,qg1,zan,zhl (show b<=1000000 by omega)]
    simp! only [pow0,powL,true_and,and_self]
    all_goals first|exact ⟨(by first|rfl|trivial),(by first|rfl|trivial),(by first|rfl|trivial)⟩|(push_cast;rfl)|rfl
   rintro l S6 ⟨rfl,rfl⟩
   refine zau (fun l S'=>S' = S6/\l=[some (mD asks rs),some (.tup (zae ws)),some (.int (b:Int)),some (.int (c:Int)),some (.ref S1.length),some (.int (j:Int)),some (.ref (S3.length+2)),some (.int (p:Int)),some (.int ((p % 2 ^ b:Nat):Int)),some (.int ((p / 2 ^ b:Nat):Int)),y10,y11,y12]) ?_ ?_
   ·simp only [za8,zax,zal,zas,qg0,qg1,zan,zhl (show b<=1000000 by omega)]
    simp! only [pow0,powL,true_and,and_self]
    all_goals first|exact ⟨(by first|rfl|trivial),(by first|rfl|trivial),(by first|rfl|trivial)⟩|(push_cast;rfl)|rfl
   rintro l S7 ⟨rfl,rfl⟩
   have skip:zdc b ws rs asks j p=none->((Fl.nx=.nx∨Fl.nx=.ct)/\Gr S3 S7/\∃on off:List Nat,TabP (zdc b ws rs asks j) (plc b j) (p+1) on off/\S7[S3.length]? = some (.lst (zae off))/\S7[S3.length+1]? = some (.lst (zae on))/\S7[S3.length+2]? = some (.lst [.ref S3.length,.ref (S3.length+1)])):=fun e=>⟨.inl rfl,g5,on,off,tp.skip e,qf,qn,qb⟩
   by_cases hin:p % 2 ^ b∈ws
   ·obtain ⟨i,hi⟩:=List.getElem?_of_mem hin
    have hir:i<rs.length:=by rw [←hwl];exact (qme hi).1
    by_cases ha:p / 2 ^ b<asks
    ·obtain ⟨cs,c1,c2⟩:=zil h hir ha
     have ha':((p / 2 ^ b:Nat):Int)<(asks:Int):=by omega
     have at1:L2.atI (rs.map rD) (i:Int)=some (.tup (cs.map cD)):=atI_get (by rw [qgm,c1];rfl)
     have at2:L2.atI (cs.map cD) ((p / 2 ^ b:Nat):Int)=some (.tup [oD (cl rs i (p / 2 ^ b)).1,oD (cl rs i (p / 2 ^ b)).2]):=atI_get (by rw [qgm,c2];rfl)
     have hN:zdc b ws rs asks j p=if j<b then ((cl rs i (p / 2 ^ b)).1.bind fun g=>ws[g]?) else (cl rs i (p / 2 ^ b)).2:=by
      unfold zdc
      rw [zob hnd hi]
      show (if p / 2 ^ b<asks then _ else _)=_
      rw [if_pos ha]
     have hgo:=fun g=>zlv h (g:=g) hir ha
     rw [zbj]
     simp only [ze0,zbe,zax,zal,zas,qg0,qg1,zan,zoa,hin,decide_true,zbb,if_true,zlr,ze2,ha']
     generalize cl rs i (p / 2 ^ b)=cc at *
     refine zau (fun l S'=>S' = S7/\l=[some (mD asks rs),some (.tup (zae ws)),some (.int (b:Int)),some (.int (c:Int)),some (.ref S1.length),some (.int (j:Int)),some (.ref (S3.length+2)),some (.int (p:Int)),some (.int ((p % 2 ^ b:Nat):Int)),some (.int ((p / 2 ^ b:Nat):Int)),some (oD cc.1),some (oD cc.2),y12]) ?_ ?_
     ·simp only [za8,zax,zal,zas,qg0,qg1,zan,zke]
      refine yi3 (i:=i) rfl rfl hnd hi ?_
      simp only [zd0,at1,at2,zbl,zc7,zc9,zav,zc8,List.length_cons,List.length_nil,Nat.reduceAdd,qs0,qs1,true_and,and_self]
     rintro l S8 ⟨rfl,rfl⟩
     refine zau (fun l S'=>S' = S8/\l=[some (mD asks rs),some (.tup (zae ws)),some (.int (b:Int)),some (.int (c:Int)),some (.ref S1.length),some (.int (j:Int)),some (.ref (S3.length+2)),some (.int (p:Int)),some (.int ((p % 2 ^ b:Nat):Int)),some (.int ((p / 2 ^ b:Nat):Int)),some (oD cc.1),some (oD cc.2),some (.int ((j:Int)-(b:Int)))]) (by simp! only [and_self]) ?_
     rintro l S9 ⟨rfl,rfl⟩
     refine zau (fun l S'=>S' = S9/\l=[some (mD asks rs),some (.tup (zae ws)),some (.int (b:Int)),some (.int (c:Int)),some (.ref S1.length),some (.int (j:Int)),some (.ref (S3.length+2)),some (.int (p:Int)),some (.int ((p % 2 ^ b:Nat):Int)),some (.int ((p / 2 ^ b:Nat):Int)),some (oD cc.1),some (oD (zdc b ws rs asks j p)),some (.int ((plc b j:Nat):Int))]) ?_ ?_
     ·rw [hN]
      unfold plc
      by_cases hjb:j<b
      ·have hjb':(j:Int)<(b:Int):=by omega
       rw [if_pos hjb,if_pos hjb]
       cases hg:cc.1 with
       | none =>
        simp! only [hjb',decide_true,if_true,oD,zb7,Bool.not_true,Bool.false_eq_true,if_false,Option.bind_none]
        all_goals first|exact ⟨(by first|rfl|trivial),(by first|rfl|trivial),(by first|rfl|trivial)⟩|trivial
       | some g =>
        obtain ⟨v,hv⟩:∃v,ws[g]? = some v:=⟨_,qge (by rw [hwl];exact hgo g hg)⟩
        have atg:L2.atI (zae ws) (g:Int)=some (.int (v:Int)):=atI_get (by unfold zae;rw [qgm,hv];rfl)
        simp! only [hjb',decide_true,if_true,oD,zb7,Bool.not_false,Option.bind_some,hv,atg]
        all_goals first|exact ⟨(by first|rfl|trivial),(by first|rfl|trivial),(by first|rfl|trivial)⟩|trivial
      ·have hjb':¬((j:Int)<(b:Int)):=by omega
       have e0:((j-b:Nat):Int)=(j:Int)-(b:Int):=by omega
       rw [if_neg hjb,if_neg hjb,e0]
       simp! only [hjb',decide_false,Bool.false_eq_true,if_false]
       all_goals first|exact ⟨(by first|rfl|trivial),(by first|rfl|trivial),(by first|rfl|trivial)⟩|trivial
     rintro l S10 ⟨rfl,rfl⟩
     have hpl:plc b j<=20:=by unfold plc;split <;> omega
     cases hNv:zdc b ws rs asks j p with
     | none =>
      simp only [zbj,zbe,zax,zal,zas,qg0,qg1,zan,zdx,oD,zb7,Bool.not_true,zbb,Bool.false_eq_true,if_false,zby]
      obtain ⟨k0,k1,on',off',k2,k3,k4,k5⟩:=skip hNv
      exact .inl ⟨(by first|exact .inl rfl|exact .inl trivial|trivial),k1,on',off',k2,k3,k4,k5,_,_,_,_,_,_,rfl⟩
     | some v =>
      simp only [zbj,zbe,zax,zal,zas,qg0,qg1,zan,zdx,oD,zb7,Bool.not_false,zbb,if_true,zd4]
      rw [zen]
      simp only [zax,zal,zas,qg0,qg1,zan,zhl (show plc b j<=1000000 by omega),zlo hpl,zd8,zbk qb,zbl]
      rcases zf8 v (plc b j) with hbt|hbt
      ·have ab0:L2.atI [D.ref S3.length,.ref (S3.length+1)] ((0:Nat):Int)=some (.ref S3.length):=rfl
       simp only [hbt,ab0,zbl]
       refine ⟨⟨_,show zdh (.ref S3.length) S10=some _ from zbk qf⟩,?_⟩
       simp only [zar,zaq,zal,qg0,qg1,zan]
       have:=tp.l0
       rw [zjq qf (by rw [zck];omega),zj9]
       exact .inl ⟨(by first|exact .inl rfl|exact .inl trivial|trivial),g5.set (qlr _) _,on,off++[p],tp.put0 hNv hbt,zd1 qf,zhe qn (by omega),zhe qb (by omega),_,_,_,_,_,_,rfl⟩
      ·have ab1:L2.atI [D.ref S3.length,.ref (S3.length+1)] ((1:Nat):Int)=some (.ref (S3.length+1)):=rfl
       simp only [hbt,ab1,zbl]
       refine ⟨⟨_,show zdh (.ref (S3.length+1)) S10=some _ from zbk qn⟩,?_⟩
       simp only [zar,zaq,zal,qg0,qg1,zan]
       have:=tp.l1
       rw [zjq qn (by rw [zck];omega),zj9]
       exact .inl ⟨(by first|exact .inl rfl|exact .inl trivial|trivial),g5.set (by omega) _,on++[p],off,tp.put1 hNv hbt,zhe qf (by omega),zd1 qn,zhe qb (by omega),_,_,_,_,_,_,rfl⟩
    ·have ha':¬(((p / 2 ^ b:Nat):Int)<(asks:Int)):=by omega
     rw [zbj]
     simp only [ze0,zbe,zax,zal,zas,qg0,qg1,zan,zoa,hin,decide_true,zbb,if_true,zlr,ze2,ha',decide_false,Bool.false_eq_true,if_false,zby]
     obtain ⟨k0,k1,on',off',k2,k3,k4,k5⟩:=skip (by unfold zdc;rw [zob hnd hi];show (if p / 2 ^ b<asks then _ else _)=_;rw [if_neg ha])
     exact .inl ⟨(by first|exact .inl rfl|exact .inl trivial|trivial),k1,on',off',k2,k3,k4,k5,_,_,_,_,_,_,rfl⟩
   ·rw [zbj]
    simp only [ze0,zbe,zax,zal,zas,qg0,qg1,zan,zoa,hin,decide_false,zbb,Bool.false_eq_true,if_false,zby]
    obtain ⟨k0,k1,on',off',k2,k3,k4,k5⟩:=skip (by unfold zdc;rw [yi4 hin];rfl)
    exact .inl ⟨(by first|exact .inl rfl|exact .inl trivial|trivial),k1,on',off',k2,k3,k4,k5,_,_,_,_,_,_,rfl⟩
  ·rintro l S5 ⟨g5,on,off,tp,qf,qn,qb,y7,y8,y9,y10,y11,y12,rfl⟩
   have q5:=g5.get q3
   have ab1:L2.atI [D.ref S3.length,.ref (S3.length+1)] 1=some (.ref (S3.length+1)):=rfl
   have ab0:L2.atI [D.ref S3.length,.ref (S3.length+1)] 0=some (.ref S3.length):=rfl
   simp only [zd4,zen,zat,zax,zal,zas,zar,zaq,qg0,qg1,zan,zd8,zbk qb,zbl,ab1,ab0,zi5,zbk qn,zbk qf,zda,List.length_cons,List.length_nil,Nat.reduceAdd,sz2,true_and]
   refine ⟨⟨_,show zdh (.ref S1.length) S5=some _ from zbk q5⟩,?_⟩
   rw [zjq q5 (by rw [qlm];omega)]
   refine .inl ⟨(by first|exact .inl rfl|exact .inl trivial|trivial),(g3.trans g5).set (qlr _) _,ts++[(on,off)],by simp [hl3],fun j' t e=>?_,?_,_,_,_,_,_,_,_,_,rfl⟩
   ·by_cases hj':j' < ts.length
    ·rw [List.getElem?_append_left hj'] at e;exact ok3 j' t e
    ·have hl':=(qme e).1
     rw [qla,List.length_singleton] at hl'
     have:j' = ts.length:=by omega
     subst this
     rw [List.getElem?_append_right (qlr _),Nat.sub_self] at e
     cases e
     rw [hl3];exact tp
   ·rw [zd1 q5,List.map_append];rfl
 ·rintro l S3 ⟨g3,ts,hl3,ok3,q3,y5,y6,y7,y8,y9,y10,y11,y12,rfl⟩
  simp only [zb4,zal,qg0,qg1,zan]
  exact ⟨_,ts,rfl,q3,hl3,ok3,g1.len,g1.trans g3⟩
section
variable {asks:Nat}{rs:List (List Cl)}{ws:List Nat}
theorem yi6 {i w:Nat}(h:ws.idxOf? w=some i):ws[i]? = some w:=by
 unfold List.idxOf? at h
 rw [List.findIdx?_eq_some_iff_getElem] at h
 obtain ⟨h1,h2,_⟩:=h
 rw [qge h1]
 have:ws[i]=w:=by simpa using h2
 rw [this]
theorem zvi (h:OkM asks rs) (hw:OkW rs.length ws) (p:Nat) {i w a:Nat}{cs:List Cl}{c:Cl}(h1:ws[i]? = some w) (h2:rs[i]? = some cs) (h3:cs[a]? = some c) (e:p=w+a*2 ^ bOf rs.length) (j:Nat) :
  zdc (bOf rs.length) ws rs asks j p=if j<bOf rs.length then (c.1.bind fun g=>ws[g]?) else c.2:=by
 have hl:=hw.lt w (qmg h1)
 have p0:0<2 ^ bOf rs.length:=Nat.pow_pos (by decide)
 have e1:p % 2 ^ bOf rs.length=w:=by rw [e,Nat.add_mul_mod_self_right,Nat.mod_eq_of_lt hl]
 have e3:p / 2 ^ bOf rs.length=a:=by rw [e,Nat.add_mul_div_right _ _ p0,Nat.div_eq_of_lt hl,Nat.zero_add]
 have ha:a<asks:=by rw [←h.len cs (qmg h2)];exact (qme h3).1
 have ec:cl rs i a=c:=by unfold cl;rw [h2];show (cs[a]?).getD _=c;rw [h3];rfl
 unfold zdc
 rw [e1,e3,zob hw.nd h1]
 show (if a<asks then _ else _)=_
 rw [if_pos ha,ec]
theorem zvj (h:OkM asks rs) (hw:OkW rs.length ws) {j p v:Nat}(e:zdc (bOf rs.length) ws rs asks j p=some v):∃(i w a:Nat) (cs:List Cl) (c:Cl),ws[i]? = some w/\rs[i]? = some cs/\cs[a]? = some c/\p=w+a*2 ^ bOf rs.length/\(if j<bOf rs.length then (c.1.bind fun g=>ws[g]?) else c.2)=some v:=by
 unfold zdc at e
 obtain ⟨i,h1,e⟩:=bnd e
 by_cases ha:p / 2 ^ bOf rs.length<asks
 ·rw [if_pos ha] at e
  have h2:=yi6 h1
  have hi:i<rs.length:=by rw [←hw.len];exact (qme h2).1
  obtain ⟨cs,c1,c2⟩:=zil h hi ha
  refine ⟨i,_,_,cs,_,h2,c1,c2,?_,e⟩
  rw [Nat.mul_comm];exact (Nat.mod_add_div _ _).symm
 ·rw [if_neg ha] at e;cases e
theorem yi7 (h:OkM asks rs) (hw:OkW rs.length ws) {j:Nat}(hj:j<bOf rs.length) (p v:Nat):zdc (bOf rs.length) ws rs asks j p=some v↔zcy (bOf rs.length) ws rs zbr p v:=by
 constructor
 ·intro e
  obtain ⟨i,w,a,cs,c,h1,h2,h3,h4,h5⟩:=zvj h hw e
  rw [if_pos hj] at h5
  obtain ⟨g,h6,h7⟩:=bnd h5
  exact ⟨i,a,w,cs,c,g,trivial,h1,h2,h3,h4,h6,h7⟩
 ·rintro ⟨i,a,w,cs,c,g,_,h1,h2,h3,h4,h6,h7⟩
  rw [zvi h hw p h1 h2 h3 h4,if_pos hj,h6];exact h7
theorem yi8 (h:OkM asks rs) (hw:OkW rs.length ws) {j:Nat}(hj:¬j<bOf rs.length) (p v:Nat):zdc (bOf rs.length) ws rs asks j p=some v↔zc1 (bOf rs.length) ws rs zbr p v:=by
 constructor
 ·intro e
  obtain ⟨i,w,a,cs,c,h1,h2,h3,h4,h5⟩:=zvj h hw e
  rw [if_neg hj] at h5
  exact ⟨i,a,w,cs,c,trivial,h1,h2,h3,h4,h5⟩
 ·rintro ⟨i,a,w,cs,c,_,h1,h2,h3,h4,h6⟩
  rw [zvi h hw p h1 h2 h3 h4,if_neg hj,h6]
theorem yi9 (h:OkM asks rs) (hw:OkW rs.length ws) {ts:List (List Nat × List Nat)}{nets:List (List Str)}{vv:Nat}(hl:ts.length=bOf rs.length+3) (ht:∀(j:Nat) t,ts[j]? = some t->TabP (zdc (bOf rs.length) ws rs asks j) (plc (bOf rs.length) j) (2 ^ (bOf rs.length+cOf asks)) t.1 t.2)
  (hn:∀(j:Nat) t zs,ts[j]? = some t->nets[j]? = some zs->NetR vv t.2 t.1 t.1.length zs) {L3 L4:Ls} (r3:DictR (zcy (bOf rs.length) ws rs zbr) (zcy (bOf rs.length) ws rs zbr) L3) (r4:DictR (zc1 (bOf rs.length) ws rs zbr) (zc1 (bOf rs.length) ws rs zbr) L4):zho (zdg (bOf rs.length) L3 L4) nets:=by
 intro j t zs e1 e2
 have hj:j<ts.length:=by rw [hl,←zuz (bOf rs.length) L3 L4];exact (qme e1).1
 have e3:ts[j]? = some ts[j]:=qge hj
 have tp:=ht j _ e3
 have nr:=hn j _ zs e3 e2
 have key:∀p x,p∈(if x=1 then t.1 else t.2)->x<=1->p<2 ^ (bOf rs.length+cOf asks)/\∃v,zdc (bOf rs.length) ws rs asks j p=some v/\bt v (plc (bOf rs.length) j)=x:=fun p x hp hx=>by
  unfold zdg at e1
  by_cases hjb:j<bOf rs.length
  ·rw [List.getElem?_append_left (by simpa using hjb),qgm,List.getElem?_range hjb] at e1
   cases e1
   have hp:p∈onL L3 j x:=by
    have:x=0∨x=1:=by omega
    rcases this with rfl|rfl <;> simpa using hp
   obtain ⟨v,hv,hb⟩:=(zlu r3 (fun p v v' z z'=>zu7 hw z z') j x p).mp hp
   exact ⟨zn7 h hw hv,v,(yi7 h hw hjb p v).mpr hv,by unfold plc;rw [if_pos hjb];exact hb⟩
  ·rw [List.getElem?_append_right (by simpa using hjb),qgm] at e1
   simp only [qlm,List.length_range] at e1
   rw [List.getElem?_range (by omega)] at e1
   cases e1
   have hp:p∈onL L4 (j-bOf rs.length) x:=by
    have:x=0∨x=1:=by omega
    rcases this with rfl|rfl <;> simpa using hp
   obtain ⟨v,hv,hb⟩:=(zlu r4 (fun p v v' z z'=>zu8 hw z z') (j-bOf rs.length) x p).mp hp
   exact ⟨zn8 h hw hv,v,(yi8 h hw hjb p v).mpr hv,by unfold plc;rw [if_neg hjb];exact hb⟩
 refine fault_none.mpr ⟨fun p hp=>?_,fun z hz o ho=>?_⟩
 ·have hin:=(tp.on_ p).mpr (key p 1 (by simpa using hp) (qlr _))
  obtain ⟨z,hz,hh⟩:=nr.has p (by rw [List.take_length];exact hin)
  unfold lacks
  rw [Bool.not_eq_false']
  exact List.any_eq_true.mpr ⟨z,hz,hh⟩
 ·have hin:=(tp.off_ o).mpr (key o 0 (by simpa using ho) (Nat.zero_le _))
  exact (nr.good z hz).no o hin
end
theorem yja {asks:Nat}{rs:List (List Cl)}{ws:List Nat}(h:OkM asks rs) (hw:OkW rs.length ws) (ns:List Int) (S:Sto) (k:Int) (hp:Pn ns k S) (hk:k<5000) :
  Wo (zj4 [.ref 1,mD asks rs,.tup (zae ws)] S) fun d S'=>∃nets,d=zbm (bOf rs.length) (cOf asks) nets/\nets.length=bOf rs.length+3/\(∀zs∈nets,OkN (bOf rs.length+cOf asks) zs/\zs.length<=64) /\
   (∀L3 L4,DictR (zcy (bOf rs.length) ws rs zbr) (zcy (bOf rs.length) ws rs zbr) L3->DictR (zc1 (bOf rs.length) ws rs zbr) (zc1 (bOf rs.length) ws rs zbr) L4->zho (zdg (bOf rs.length) L3 L4) nets)/\Pn ns (k+2400) S':=by
 have sz3:3<=sizeLine:=by decide
 have big:1000<=sizeLine:=by decide
 obtain ⟨hb1,hb2,hb3⟩:=zed h.r8
 have hc2:=(zhn h.a4).2
 have h32:=zn6 h
 have hn2:=hp.two
 unfold zj4 ztk
 simp only [zb5,List.map_cons,List.map_nil,List.length_cons,List.length_nil,Nat.reduceAdd,Nat.reduceSub,List.replicate,List.cons_append,List.nil_append]
 refine zau (fun l S'=>Gr S S'/\l=[some (.ref 1),some (mD asks rs),some (.tup (zae ws)),some (.int (bOf rs.length:Nat)),some (.int (cOf asks:Nat))]) ?_ ?_
 ·simp only [za8,zat,zar,zaq,zal,qg0,qg1,zan]
  refine (zn9 h S).mono ?_
  rintro v S1 ⟨rfl,g⟩
  simp only [bcD,zc7,zc9,zav,zc8,List.length_cons,List.length_nil,Nat.reduceAdd,qs0,qs1,true_and]
  exact ⟨g,(by first|rfl|trivial)⟩
 rintro l S1 ⟨g1,rfl⟩
 obtain ⟨v,S2,et,n,ts,rfl,q2,hl,ht,hn,g2⟩:=yi5 h hw S1
 have hn1:n≠1:=by have:=g1.len;omega
 simp only [zb4,zat,zar,zaq,zal,qg0,qg1,zan]
 refine zia (ts.map ze9) (fun i acc l S'=>∃nets:List (List Str),acc=za2 nets/\nets.length=i/\(∀(j:Nat) t zs,ts[j]? = some t->nets[j]? = some zs->NetR (bOf rs.length+cOf asks) t.2 t.1 t.1.length zs)/\(∀zs∈nets,OkN (bOf rs.length+cOf asks) zs/\zs.length<=64)/\Pn ns (k+400*i) S'/\Fr S2 S'/\∃y0 y1,l=[y0,y1,some (.ref 1),some (.int (bOf rs.length:Nat)),some (.int (cOf asks:Nat))]) (it:=itL n) (S1:=S2) ?_ ⟨[],rfl,rfl,(fun j t zs _ z=>by cases z),(fun zs z=>by cases z),by simpa using (hp.gr g1).gr g2,Fr.refl _,_,_,rfl⟩ ?_ ?_ ?_
 ·have e1:zag zig (zac (zaa 1) (zac (zaa 2) zaf)) [some (.ref 1),some (mD asks rs),some (.tup (zae ws)),some (.int (bOf rs.length:Nat)),some (.int (cOf asks:Nat))] S1=some (.ref n,S2):=et
  rw [znv e1 (zbk q2)]
 ·rintro i acc l S' ⟨nets,_,_,_,_,_,f,_⟩
  exact zjm (f.lst hn1 (zbk q2))
 ·rintro i x acc l S3 hx ⟨nets,rfl,hl3,hn3,ok3,p3,f3,y0,y1,rfl⟩
  rw [qgm] at hx
  obtain ⟨t,htt,rfl⟩:=Option.map_eq_some_iff.mp hx
  have hi:i<bOf rs.length+3:=by rw [←hl];exact (qme htt).1
  have tp:=ht i t htt
  have hl1:=tp.l1
  have hl0:=tp.l0
  simp only [ze9,zc7,zc9,zav,zc8,List.length_cons,List.length_nil,Nat.reduceAdd,qs0,qs1,true_and]
  refine ⟨true,S3,rfl,?_⟩
  dsimp only
  rw [if_pos rfl]
  have ev:((bOf rs.length:Nat):Int)+((cOf asks:Nat):Int)=((bOf rs.length+cOf asks:Nat):Int):=by push_cast;rfl
  simp only [zat,zax,zar,zaq,zal,qg0,qg1,zan,zc6,ev]
  refine (yhv ns S3 _ (bOf rs.length+cOf asks) t.1 t.2 p3 (by omega) (by omega) (by omega) (fun p hp=>?_) (fun p hp=>((tp.off_ p).mp hp).1) (by omega) (by omega)).mono ?_
  ·obtain ⟨a1,v,a2,a3⟩:=(tp.on_ p).mp hp
   refine ⟨a1,fun z=>?_⟩
   obtain ⟨_,v',b2,b3⟩:=(tp.off_ p).mp z
   rw [a2] at b2;cases b2;omega
  ·rintro d S4 ⟨zs,rfl,nr,p4,f4⟩
   have hzl:=nr.len
   refine ⟨nets++[zs],by unfold za2;rw [List.map_append];rfl,by simp [hl3],fun j t' zs' e1 e2=>?_,fun us hus=>?_,p4.mono (by push_cast;omega),f3.trans f4,_,_,rfl⟩
   ·by_cases hj:j<nets.length
    ·rw [List.getElem?_append_left hj] at e2;exact hn3 j t' zs' e1 e2
    ·have hj2:=(qme e2).1
     rw [qla,List.length_singleton] at hj2
     have:j=nets.length:=by omega
     subst this
     rw [List.getElem?_append_right (qlr _),Nat.sub_self] at e2
     cases e2
     rw [hl3,htt] at e1;cases e1
     exact nr
   ·rcases List.mem_append.mp hus with z|z
    ·exact ok3 us z
    ·rw [List.mem_singleton.mp z]
     exact ⟨fun u hu=>⟨(nr.good u hu).sg,(nr.good u hu).len⟩,by omega⟩
 ·rintro acc l' S3 ⟨nets,rfl,hl3,hn3,ok3,p3,f3,y0,y1,rfl⟩
  rw [qlm,hl] at hl3 p3
  refine ⟨by rw [zes];omega,?_⟩
  simp only [zi5,zdp,zbl,zda,List.length_cons,List.length_nil,Nat.reduceAdd,sz3,true_and]
  exact ⟨nets,rfl,hl3,ok3,fun L3 L4 r3 r4=>yi9 h hw hl ht hn3 r3 r4,(p3.push _).mono (by omega)⟩
theorem yjb (ns:List Int) (S:Sto) (k:Int) (v:Nat) (zs:List Str) (h:Pn ns k S) (hk:k<90000) (h1:1<=v) (hv:v<=5) (hz:OkN v zs) (hl:zs.length<=80) :
  Wo (zjz [.ref 1,.int v,.tup (zay zs)] S) fun d S'=>∃us,d=.tup (zay us)/\OkN v us/\us.length<=81/\Pn ns (k+20) S'/\Fr S S':=by
 have sz1:1<=sizeLine:=by decide
 have big:1000<=sizeLine:=by decide
 have s3:("01-":Str).length<=sizeLine:=by decide +kernel
 unfold zjz ztc
 simp only [zb5,List.map_cons,List.map_nil,List.length_cons,List.length_nil,Nat.reduceAdd,Nat.reduceSub,List.replicate,List.cons_append,List.nil_append]
 refine zau (fun l S'=>Pn ns (k+1) S'/\Fr S S'/\∃w:Nat,l=[some (.ref 1),some (.int v),some (.tup (zay zs)),some (.int w),none,none,none,none,none,none]) ?_ ?_
 ·simp only [za8,zat,zar,zaq,zal,zas,qg0,qg1,zan]
  refine (zcn ns _ _ 4 h (by omega) (by decide) (by decide)).mono ?_
  rintro x S2 ⟨⟨d,rfl,hd⟩,p2,f2⟩
  simp only [zav,qs0,qs1]
  exact ⟨(by first|rfl|trivial),p2,f2,d,rfl⟩
 rintro l S1 ⟨p1,f1,w,rfl⟩
 refine zau (fun l S'=>Pn ns (k+2) S'/\Fr S S'/\∃a:Nat,a<=zs.length/\l=[some (.ref 1),some (.int v),some (.tup (zay zs)),some (.int w),some (.int a),none,none,none,none,none]) ?_ ?_
 ·simp only [za8,zat,zar,zaq,zax,zal,zas,qg0,qg1,zan,ze6,zc6,zcj]
  refine (zcn ns _ _ ((zs.length:Int)+1) p1 (by omega) (by omega) (by omega)).mono ?_
  rintro x S2 ⟨⟨d,rfl,hd⟩,p2,f2⟩
  simp only [zav,qs0,qs1]
  exact ⟨(by first|rfl|trivial),p2.mono (by omega),f1.trans f2,d,by omega,rfl⟩
 rintro l S2 ⟨p2,f2,a,ha,rfl⟩
 refine zau (fun l S'=>Pn ns (k+3) S'/\Fr S S'/\∃j:Nat,j<v/\l=[some (.ref 1),some (.int v),some (.tup (zay zs)),some (.int w),some (.int a),some (.int j),none,none,none,none]) ?_ ?_
 ·simp only [za8,zat,zar,zaq,zal,zas,qg0,qg1,zan]
  refine (zcn ns _ _ (v:Int) p2 (by omega) (by omega) (by omega)).mono ?_
  rintro x S3 ⟨⟨d,rfl,hd⟩,p3,f3⟩
  simp only [zav,qs0,qs1]
  exact ⟨(by first|rfl|trivial),p3.mono (by omega),f2.trans f3,d,by omega,rfl⟩
 rintro l S3 ⟨p3,f3,j,hj,rfl⟩
 refine zau (fun l S'=>Pn ns (k+4) S'/\Fr S S'/\∃c,SgC c/\l=[some (.ref 1),some (.int v),some (.tup (zay zs)),some (.int w),some (.int a),some (.int j),some (.str ⟨#[c]⟩),none,none,none]) ?_ ?_
 ·simp only [za8,zax,zat,zar,zaq,zal,zas,qg0,qg1,zan]
  refine (zcn ns _ _ 3 p3 (by omega) (by decide) (by decide)).mono ?_
  rintro x S4 ⟨⟨d,rfl,hd⟩,p4,f4⟩
  have e3:("01-":Str).cps.size=3:=by decide +kernel
  have hc:("01-":Str).cps.toList[d]? = some (("01-":Str).cps[d]'(by omega)):=by simp [show d<("01-":Str).cps.size by omega]
  simp only [znr,s3,true_and,atI_get hc,zbl,zav,qs0,qs1]
  exact ⟨p4.mono (by omega),f3.trans f4,_,zue _ (qmg hc),rfl⟩
 rintro l S4 ⟨p4,f4,c,hc,rfl⟩
 refine zau (fun l S'=>Pn ns (k+10) S'/\Fr S S'/\∃s,SgT s/\s.cps.size=v/\l=[some (.ref 1),some (.int v),some (.tup (zay zs)),some (.int w),some (.int a),some (.int j),some (.str ⟨#[c]⟩),some (.str s),none,none]) ?_ ?_
 ·rw [za8]
  refine yhk ns "01-" 3 (by decide +kernel) zue (by decide) (by decide) _ S4 _ v p4 (by omega) hv rfl rfl ?_
  intro z S5 z1 z2 p5 f5
  simp only [zav,qs0,qs1]
  exact ⟨(by first|rfl|trivial),p5.mono (by omega),f4.trans f5,z,z1,z2,rfl⟩
 rintro l S5 ⟨p5,f5,s,s1,s2,rfl⟩
 have e4:((a:Int)+1)=((a+1:Nat):Int):=by push_cast;rfl
 have p6:Pn ns (k+20) S5:=p5.mono (by omega)
 have one:∀z:Str,[D.str z]=zay [z]:=fun z=>rfl
 have lt:(zay (zs.take a)).length<=80:=by rw [zcj];simp;omega
 have ld:∀x,(zay (zs.drop x)).length<=80:=fun x=>by rw [zcj];simp;omega
 by_cases hcase:(w:Int)=0∨(a:Int)=(zs.length:Int)
 ·rw [zci,zbj]
  have go:∀Q:Fl->Lo->Sto->Prop,(∀us,OkN v us->us.length<=81->Q (.rt (.tup (zay us))) [some (.ref 1),some (.int v),some (.tup (zay zs)),some (.int w),some (.int a),some (.int j),some (.str ⟨#[c]⟩),some (.str s),none,none] S5)->Ws (za9 (zb6 (eOp za3 (eOp za3 (zb6 (zaa 2) (zb8) (zb3 (zaa 4))) (zag zbs (zac (zaa 7) (zaf)))) (zb6 (zaa 2) (zb3 (zaa 4)) (zb8))) (zb8) (zb3 (eC (.int 40))))) [some (.ref 1),some (.int v),some (.tup (zay zs)),some (.int w),some (.int a),some (.int j),some (.str ⟨#[c]⟩),some (.str s),none,none] S5 Q:=fun Q hQ=>by
   simp only [zb4,zec,zax,zd9,zea,zat,zar,zaq,zal,zas,qg0,qg1,zan,zeb,zfo,ze7,zf5,zij,zka,zda,List.length_cons,List.length_nil,Nat.reduceAdd,sz1,true_and,zgm,one,zkb]
   refine ⟨by rw [zcj,zcj];simp;omega,by rw [zcj,zcj];simp;omega,?_⟩
   rw [show (40:Int)=((40:Nat):Int) from rfl,ze7,zij]
   exact hQ _ ((((hz.take a).app (OkN.one s1 s2)).app (hz.drop a)).take 40) (by simp;omega)
  by_cases hw0:(w:Int)=0
  ·simp only [zg2,zbe,zax,zal,zas,qg0,qg1,zan,zdb,zbb,hw0,decide_true,if_true]
   rw [hw0] at go
   exact go _ fun us hu hlu=>⟨us,rfl,hu,hlu,p6,f5⟩
  ·have ha0:(a:Int)=(zs.length:Int):=by rcases hcase with z|z;exact absurd z hw0;exact z
   simp only [zg2,zbe,zax,zat,zar,zaq,zal,zas,qg0,qg1,zan,zdb,zbb,hw0,decide_false,Bool.false_eq_true,if_false,ze6,zcj,ha0,decide_true,if_true]
   rw [ha0] at go
   exact go _ fun us hu hlu=>⟨us,rfl,hu,hlu,p6,f5⟩
 ·have hw0:¬(w:Int)=0:=fun q=>hcase (.inl q)
  have hal:¬(a:Int)=(zs.length:Int):=fun q=>hcase (.inr q)
  have ha':a<zs.length:=by omega
  refine zau (fun l S'=>S' = S5/\l=[some (.ref 1),some (.int v),some (.tup (zay zs)),some (.int w),some (.int a),some (.int j),some (.str ⟨#[c]⟩),some (.str s),none,none]) ?_ ?_
  ·simp only [zbj,zg2,zbe,zax,zat,zar,zaq,zal,zas,qg0,qg1,zan,zdb,zbb,ze6,zcj,hw0,hal,decide_false,Bool.false_eq_true,if_false,zby,and_self]
  rintro l S6 ⟨rfl,rfl⟩
  by_cases hw1:(w:Int)=1
  ·rw [zci]
   simp only [zbj,zbe,zax,zal,zas,qg0,qg1,zan,zdb,zbb,hw1,decide_true,if_true,zb4,zec,zd9,zea,zeb,zc6,zfo,e4,ze7,zf5,zij,zka,zgm,zkb]
   exact ⟨by rw [zcj,zcj];simp;omega,_,rfl,(hz.take a).app (hz.drop (a+1)),by simp;omega,p6,f5⟩
  ·refine zau (fun l S'=>S' = S6/\l=[some (.ref 1),some (.int v),some (.tup (zay zs)),some (.int w),some (.int a),some (.int j),some (.str ⟨#[c]⟩),some (.str s),none,none]) ?_ ?_
   ·simp only [zbj,zbe,zax,zal,zas,qg0,qg1,zan,zdb,zbb,hw1,decide_false,Bool.false_eq_true,if_false,zby,and_self]
   rintro l S7 ⟨rfl,rfl⟩
   have hgz:zs[a]? = some zs[a]:=qge ha'
   have hza:=hz _ (qmg hgz)
   have hga:(zay zs)[a]? = some (.str zs[a]):=by unfold zay;rw [qgm,hgz];rfl
   have hjz:j<zs[a].cps.size:=by rw [hza.2];exact hj
   have hzl:zs[a].length<=sizeLine:=by have:zs[a].length=v:=hza.2;omega
   refine zau (fun l S'=>S' = S7/\l=[some (.ref 1),some (.int v),some (.tup (zay zs)),some (.int w),some (.int a),some (.int j),some (.str ⟨#[c]⟩),some (.str s),some (.str zs[a]),none]) ?_ ?_
   ·simp only [za8,zax,zal,qg0,qg1,zan,zd0,atI_get hga,zbl,zav,qs0,qs1,and_self]
   rintro l S8 ⟨rfl,rfl⟩
   refine zau (fun l S'=>S' = S8/\l=[some (.ref 1),some (.int v),some (.tup (zay zs)),some (.int w),some (.int a),some (.int j),some (.str ⟨#[c]⟩),some (.str s),some (.str zs[a]),some (.str (loose zs[a] j c))]) ?_ ?_
   ·simp only [za8,zax,zec,zd9,zea,zal,zas,qg0,qg1,zan,zeb,zc6,zsm,hzl,true_and]
    rw [zuj (by rw [hza.2];omega) hjz rfl]
    simp only [zav,qs0,qs1,and_self]
   rintro l S9 ⟨rfl,rfl⟩
   simp only [zb4,zec,zax,zd9,zea,zat,zar,zaq,zal,zas,qg0,qg1,zan,zeb,zfo,zc6,e4,ze7,zf5,zij,zka,zda,List.length_cons,List.length_nil,Nat.reduceAdd,sz1,true_and,zgm,one,zkb]
   exact ⟨by rw [zcj,zcj];simp;omega,by rw [zcj,zcj];simp;omega,_,rfl,((hz.take a).app (OkN.one (zui hza.1 hjz hc) (by rw [zuh hjz];exact hza.2))).app (hz.drop (a+1)),by simp;omega,p6,f5⟩
theorem OkNs.take {nets:List (List Str)}(h:OkNs nets) (k:Nat):OkNs (nets.take k):=fun zs hz=>h zs (List.mem_of_mem_take hz)
theorem OkNs.drop {nets:List (List Str)}(h:OkNs nets) (k:Nat):OkNs (nets.drop k):=fun zs hz=>h zs (List.mem_of_mem_drop hz)
theorem OkNs.app {a b:List (List Str)}(h:OkNs a) (g:OkNs b):OkNs (a++b):=fun zs hz=>by
 rcases List.mem_append.mp hz with z|z
 ·exact h zs z
 ·exact g zs z
theorem OkNs.one {zs:List Str}(h1:∀z∈zs,z.cps.size<=100) (h2:zs.length<=100):OkNs [zs]:=fun us hu=>by rw [List.mem_singleton.mp hu];exact ⟨h1,h2⟩
theorem zoc (a b:List (List Str)):za2 a++za2 b=za2 (a++b):=by unfold za2;rw [List.map_append]
theorem zod {i:Nat}(hi:(i:Int)<4) (x0 x1 x2 x3:D):L2.atI [x0,x1,x2,x3] (i:Int)=some (if i=0 then x0 else if i=1 then x1 else if i=2 then x2 else x3):=by
 have:i=0∨i=1∨i=2∨i=3:=by omega
 rcases this with rfl|rfl|rfl|rfl <;> rfl
noncomputable def zkg (ns:List Int) (k:Int) (S0:Sto) (d:D) (S:Sto):Prop:=∃b c nets,d=zfa b c nets/\b.natAbs<100/\c.natAbs<100/\OkNs nets/\nets.length<=20/\Pn ns k S/\Fr S0 S
theorem yjc (ns:List Int) (S:Sto) (k:Int) (b c:Nat) (nets:List (List Str)) (h:Pn ns k S) (hk:k<80000) (hb1:1<=b) (hb3:b<=3) (hc2:c<=2) (hl:nets.length=b+3) (ok:∀zs∈nets,OkN (b+c) zs/\zs.length<=64) :
  Wo (zj0 [.ref 1,zbm b c nets] S) (zkg ns (k+50) S):=by
 have sz0:0<=sizeLine:=by decide
 have sz1:1<=sizeLine:=by decide
 have sz3:3<=sizeLine:=by decide
 have sz4:4<=sizeLine:=by decide
 have big:1000<=sizeLine:=by decide
 have okS:OkNs nets:=fun zs hz=>⟨fun z hz'=>by have:=((ok zs hz).1 z hz').2;omega,by have:=(ok zs hz).2;omega⟩
 unfold zj0 ztd zbm
 simp only [zb5,List.map_cons,List.map_nil,List.length_cons,List.length_nil,Nat.reduceAdd,Nat.reduceSub,List.replicate,List.cons_append,List.nil_append]
 refine zau (fun l S'=>Pn ns (k+1) S'/\Fr S S'/\∃w:Nat,l=[some (.ref 1),some (.tup [.int b,.int c,.tup (za2 nets)]),some (.int w),none,none,none,none,none,none]) ?_ ?_
 ·simp only [za8,zat,zar,zaq,zal,zas,qg0,qg1,zan]
  refine (zcn ns _ _ 10 h (by omega) (by decide) (by decide)).mono ?_
  rintro x S2 ⟨⟨d,rfl,hd⟩,p2,f2⟩
  simp only [zav,qs0,qs1]
  exact ⟨(by first|rfl|trivial),p2,f2,d,rfl⟩
 rintro l S1 ⟨p1,f1,w,rfl⟩
 refine zau (fun l S'=>S' = S1/\l=[some (.ref 1),some (.tup [.int b,.int c,.tup (za2 nets)]),some (.int w),some (.int b),some (.int c),some (.tup (za2 nets)),none,none,none]) (by simp! only [true_and,and_self]) ?_
 rintro l S2 ⟨rfl,rfl⟩
 refine zau (fun l S'=>Pn ns (k+2) S'/\Fr S S'/\∃a:Nat,a<nets.length/\l=[some (.ref 1),some (.tup [.int b,.int c,.tup (za2 nets)]),some (.int w),some (.int b),some (.int c),some (.tup (za2 nets)),some (.int a),none,none]) ?_ ?_
 ·simp only [za8,zat,zar,zaq,zal,zas,qg0,qg1,zan,ze6,zes]
  refine (zcn ns _ _ (nets.length:Int) p1 (by omega) (by omega) (by omega)).mono ?_
  rintro x S3 ⟨⟨d,rfl,hd⟩,p3,f3⟩
  simp only [zav,qs0,qs1]
  exact ⟨(by first|rfl|trivial),p3.mono (by omega),f1.trans f3,d,by omega,rfl⟩
 rintro l S3 ⟨p3,f3,a,ha,rfl⟩
 obtain ⟨zs,hzs⟩:∃zs,nets[a]? = some zs:=⟨_,qge ha⟩
 obtain ⟨okz,lz⟩:=ok zs (qmg hzs)
 have hat:L2.atI (za2 nets) (a:Int)=some (.tup (zay zs)):=atI_get (by unfold za2;rw [qgm,hzs];rfl)
 have ev:(b:Int)+(c:Int)=((b+c:Nat):Int):=by push_cast;rfl
 refine zau (fun l S'=>Pn ns (k+22) S'/\Fr S S'/\∃us,OkN (b+c) us/\us.length<=81/\l=[some (.ref 1),some (.tup [.int b,.int c,.tup (za2 nets)]),some (.int w),some (.int b),some (.int c),some (.tup (za2 nets)),some (.int a),some (.tup (zay us)),none]) ?_ ?_
 ·simp only [za8,zat,zax,zar,zaq,zal,zas,qg0,qg1,zan,zc6,ev,zd0,hat,zbl]
  refine (yjb ns S3 _ (b+c) zs p3 (by omega) (by omega) (by omega) okz (by omega)).mono ?_
  rintro x S4 ⟨us,rfl,u1,u2,p4,f4⟩
  simp only [zav,qs0,qs1]
  exact ⟨(by first|rfl|trivial),p4.mono (by omega),f3.trans f4,us,u1,u2,rfl⟩
 rintro l S4 ⟨p4,f4,us,u1,u2,rfl⟩
 refine zau (fun l S'=>Pn ns (k+23) S'/\Fr S S'/\∃z:Str,z.cps.size<=100/\l=[some (.ref 1),some (.tup [.int b,.int c,.tup (za2 nets)]),some (.int w),some (.int b),some (.int c),some (.tup (za2 nets)),some (.int a),some (.tup (zay us)),some (.str z)]) ?_ ?_
 ·have l1:("-":Str).length=1:=by decide +kernel
  have l2:("0":Str).length=1:=by decide +kernel
  have l3:("1":Str).length=1:=by decide +kernel
  have k1:(0:Int)<=((b+c:Nat):Int)+1/\((b+c:Nat):Int)+1<1000:=⟨by omega,by omega⟩
  have k2:(0:Int)<=((b+c:Nat):Int)-1/\((b+c:Nat):Int)-1<1000:=⟨by omega,by omega⟩
  have k3:(1:Nat)<=1/\(1:Nat)<1000:=by decide
  have k4:(0:Int)<=9/\(9:Int)<1000:=by decide
  simp only [za8,zat,zax,zar,zaq,zal,zas,qg0,qg1,zan,zc6,ev,ze2,yex,l1,l2,l3,k1,k2,k3,k4,true_and,and_self,zda,List.length_cons,List.length_nil,Nat.reduceAdd,sz4]
  refine (zcn ns _ _ 4 p4 (by omega) (by decide) (by decide)).mono ?_
  rintro x S5 ⟨⟨d,rfl,hd⟩,p5,f5⟩
  have m1:("-":Str).cps.size=1:=by decide +kernel
  have m2:("0":Str).cps.size=1:=by decide +kernel
  have m3:("1":Str).cps.size=1:=by decide +kernel
  have m4:("":Str).cps.size=0:=by decide +kernel
  simp only [zd0,zod hd,zbl,zav,qs0,qs1]
  refine ⟨p5.mono (by omega),f4.trans f5,?_⟩
  by_cases d0:d=0
  ·exact ⟨zdf "-" ((((b+c:Nat):Int)+1).toNat),by rw [znq,m1];omega,by rw [if_pos d0]⟩
  ·by_cases d1:d=1
   ·exact ⟨zdf "0" ((((b+c:Nat):Int)-1).toNat),by rw [znq,m2];omega,by rw [if_neg d0,if_pos d1]⟩
   ·by_cases d2:d=2
    ·exact ⟨"",by rw [m4];omega,by rw [if_neg d0,if_neg d1,if_pos d2]⟩
    ·exact ⟨zdf "1" ((9:Int).toNat),by rw [znq,m3];decide,by rw [if_neg d0,if_neg d1,if_neg d2]⟩
 rintro l S5 ⟨p5,f5,z,hz,rfl⟩
 refine zny (fun l S'=>S' = S5/\l=[some (.ref 1),some (.tup [.int b,.int c,.tup (za2 nets)]),some (.int w),some (.int b),some (.int c),some (.tup (za2 nets)),some (.int a),some (.tup (zay us)),some (.str z)]) (zkg ns (k+50) S) ?_ ?_ (fun d _ _ o=>o)
 ·by_cases hw0:(w:Int)=0
  ·simp only [zbj,zbe,zax,zal,zas,qg0,qg1,zan,zdb,zbb,hw0,decide_true,if_true,zb4,zat,zar,zaq,zc6,ze2,zda,ze3,List.length_cons,List.length_nil,Nat.reduceAdd,sz3,sz4,true_and]
   refine (zcn ns _ _ 4 (p5.push _) (by omega) (by decide) (by decide)).mono ?_
   rintro x S6 ⟨⟨d,rfl,hd⟩,p6,f6⟩
   have hl6:=p5.kept f6
   simp only [zd8,hl6,zbl,zod hd]
   refine .inr ⟨_,rfl,?_⟩
   have p7:Pn ns (k+50) S6/\Fr S S6:=⟨p6.mono (by omega),(f5.trans (Fr.of ⟨_,rfl⟩)).trans f6⟩
   by_cases d0:d=0
   ·rw [if_pos d0];exact ⟨_,_,nets,rfl,by omega,by omega,okS,by omega,p7⟩
   ·by_cases d1:d=1
    ·rw [if_neg d0,if_pos d1];exact ⟨_,_,nets,rfl,by omega,by omega,okS,by omega,p7⟩
    ·by_cases d2:d=2
     ·rw [if_neg d0,if_neg d1,if_pos d2];exact ⟨_,_,nets,rfl,by omega,by omega,okS,by omega,p7⟩
     ·rw [if_neg d0,if_neg d1,if_neg d2];exact ⟨_,_,nets,rfl,by omega,by omega,okS,by omega,p7⟩
  ·simp only [zbj,zbe,zax,zal,zas,qg0,qg1,zan,zdb,zbb,hw0,decide_false,Bool.false_eq_true,if_false,zby]
   exact .inl ⟨(by first|rfl|trivial),(by first|rfl|trivial),(by first|rfl|trivial)⟩
 rintro l S6 ⟨rfl,rfl⟩
 have fin:∀(ms:List (List Str)) (S7:Sto),OkNs ms->ms.length<=20->Pn ns (k+50) S7/\Fr S S7->zkg ns (k+50) S (.tup [.int b,.int c,.tup (za2 ms)]) S7:=fun ms S7 m1 m2 m3=>⟨_,_,ms,rfl,by omega,by omega,m1,m2,m3⟩
 have one1:(1:Int)=((1:Nat):Int):=rfl
 refine zny (fun l S'=>S' = S6/\l=[some (.ref 1),some (.tup [.int b,.int c,.tup (za2 nets)]),some (.int w),some (.int b),some (.int c),some (.tup (za2 nets)),some (.int a),some (.tup (zay us)),some (.str z)]) (zkg ns (k+50) S) ?_ ?_ (fun d _ _ o=>o)
 ·by_cases hw0:(w:Int)=1
  ·have nz:(za2 nets).length+(za2 (nets.take 1)).length<=sizeLine:=by rw [zes,zes];simp;omega
   simp only [zbj,zbe,zax,zal,zas,qg0,qg1,zan,zdb,zbb,hw0,decide_true,if_true,zb4,zat,zar,zaq,zec,zd9,zea,zeb,zfo]
   rw [show zc0 (za2 nets) (some (1:Int)) none=za2 (nets.drop 1) from by rw [one1,zf5,zn3],show zc0 (za2 nets) none (some (1:Int))=za2 (nets.take 1) from by rw [one1,ze7,zlp]]
   simp only [zgm,nz,true_and,zoc,ze7,zlp,zda,ze3,List.length_cons,List.length_nil,Nat.reduceAdd,sz0,sz3,sz4]
   refine (zcn ns _ _ 4 (p5.push _) (by omega) (by decide) (by decide)).mono ?_
   rintro x S7 ⟨⟨d,rfl,hd⟩,p7,f7⟩
   have hl7:=p5.kept f7
   simp only [zd8,hl7,zbl,zod hd]
   refine .inr ⟨_,rfl,?_⟩
   have p8:Pn ns (k+50) S7/\Fr S S7:=⟨p7.mono (by omega),(f5.trans (Fr.of ⟨_,rfl⟩)).trans f7⟩
   by_cases d0:d=0
   ·rw [if_pos d0];exact fin _ _ (okS.drop 1) (by simp;omega) p8
   ·by_cases d1:d=1
    ·rw [if_neg d0,if_pos d1];exact fin _ _ (okS.app (okS.take 1)) (by simp;omega) p8
    ·by_cases d2:d=2
     ·rw [if_neg d0,if_neg d1,if_pos d2];exact fin [] _ (fun zs hz=>by cases hz) (by decide) p8
     ·rw [if_neg d0,if_neg d1,if_neg d2];exact fin _ _ (okS.take a) (by simp;omega) p8
  ·simp only [zbj,zbe,zax,zal,zas,qg0,qg1,zan,zdb,zbb,hw0,decide_false,Bool.false_eq_true,if_false,zby]
   exact .inl ⟨(by first|rfl|trivial),(by first|rfl|trivial),(by first|rfl|trivial)⟩
 rintro l S7 ⟨rfl,rfl⟩
 have p8:Pn ns (k+50) S7/\Fr S S7:=⟨p5.mono (by omega),f5⟩
 refine zau (fun l S'=>S' = S7/\∃vs:List Str,(∀u∈vs,u.cps.size<=100)/\vs.length<=100/\l=[some (.ref 1),some (.tup [.int b,.int c,.tup (za2 nets)]),some (.int w),some (.int b),some (.int c),some (.tup (za2 nets)),some (.int a),some (.tup (zay vs)),some (.str z)]) ?_ ?_
 ·by_cases hw0:(w:Int)=2
  ·have n1:(zay (zs.take 1)).length+(zay [z]).length<=sizeLine:=by rw [zcj,zcj];simp;omega
   have n2:(zay (zs.take 1++[z])).length+(zay (zs.drop 1)).length<=sizeLine:=by rw [zcj,zcj];simp;omega
   simp only [zbj,zbe,zax,zal,zas,qg0,qg1,zan,zdb,zbb,hw0,decide_true,if_true,za8,zat,zar,zaq,zec,zd9,zea,zeb,zd0,hat,zbl,zfo]
   rw [show zc0 (zay zs) (some (1:Int)) none=zay (zs.drop 1) from by rw [one1,zf5,zka],show zc0 (zay zs) none (some (1:Int))=zay (zs.take 1) from by rw [one1,ze7,zij]]
   simp only [zda,List.length_cons,List.length_nil,Nat.reduceAdd,sz1,true_and,show [D.str z]=zay [z] from rfl,zgm,n1,n2,zkb,zav,qs0,qs1]
   refine ⟨(by first|rfl|trivial),zs.take 1++[z]++zs.drop 1,fun u hu=>?_,by simp;omega,rfl⟩
   rcases List.mem_append.mp hu with q|q
   ·rcases List.mem_append.mp q with q|q
    ·have:=(okz u (List.mem_of_mem_take q)).2;omega
    ·rw [List.mem_singleton.mp q];exact hz
   ·have:=(okz u (List.mem_of_mem_drop q)).2;omega
  ·simp only [zbj,zbe,zax,zal,zas,qg0,qg1,zan,zdb,zbb,hw0,decide_false,Bool.false_eq_true,if_false,zby]
   exact ⟨(by first|rfl|trivial),(by first|rfl|trivial),us,fun u hu=>by have:=(u1 u hu).2;omega,by omega,rfl⟩
 rintro l S8 ⟨rfl,vs,v1,v2,rfl⟩
 refine zny (fun l S'=>S' = S8/\l=[some (.ref 1),some (.tup [.int b,.int c,.tup (za2 nets)]),some (.int w),some (.int b),some (.int c),some (.tup (za2 nets)),some (.int a),some (.tup (zay vs)),some (.str z)]) (zkg ns (k+50) S) ?_ ?_ (fun d _ _ o=>o)
 ·by_cases hw0:(w:Int)=3
  ·have n1:(za2 (nets.drop a)).length+(za2 (nets.take a)).length<=sizeLine:=by rw [zes,zes];simp;omega
   simp only [zbj,zbe,zax,zal,zas,qg0,qg1,zan,zdb,zbb,hw0,decide_true,if_true,zb4,zat,zar,zaq,zec,zd9,zea,zeb,zfo,zf5,ze7,zlp,zn3,zgm,n1,true_and,zoc,zda,List.length_cons,List.length_nil,Nat.reduceAdd,sz3]
   exact .inr ⟨_,rfl,fin _ _ ((okS.drop a).app (okS.take a)) (by simp;omega) p8⟩
  ·simp only [zbj,zbe,zax,zal,zas,qg0,qg1,zan,zdb,zbb,hw0,decide_false,Bool.false_eq_true,if_false,zby]
   exact .inl ⟨(by first|rfl|trivial),(by first|rfl|trivial),(by first|rfl|trivial)⟩
 rintro l S9 ⟨rfl,rfl⟩
 have e4:((a:Int)+1)=((a+1:Nat):Int):=by push_cast;rfl
 have n1:(za2 (nets.take a)).length+(za2 [vs]).length<=sizeLine:=by rw [zes,zes];simp;omega
 have n2:(za2 (nets.take a++[vs])).length+(za2 (nets.drop (a+1))).length<=sizeLine:=by rw [zes,zes];simp;omega
 simp only [zb4,zat,zax,zar,zaq,zal,zas,qg0,qg1,zan,zec,zd9,zea,zeb,zc6,e4,zfo,zf5,ze7,zlp,zn3,zda,List.length_cons,List.length_nil,Nat.reduceAdd,sz1,sz3,true_and,show [D.tup (zay vs)]=za2 [vs] from rfl,zgm,n1,n2,zoc]
 exact fin _ _ (((okS.take a).app (OkNs.one v1 v2)).app (okS.drop (a+1))) (by simp;omega) p8
theorem zvk {S:Sto}{n:Nat}{as:List Nat}{e:Nat}(hn:lstOf S n=some (zae as)) (h1:∀x∈as,x<8) (h2:e<8) (hl:as.length<=100):zcb S 60 (.tup [.ref n,.int e])=some (.tuple [.list (as.map fun (x:Nat)=>.int (x:Int)),.int e]):=by
 have l8:∀x:Nat,x<8->((x:Nat):Int).natAbs.log2<1920:=fun x hx=>yfe (by omega)
 have all:∀(k:Nat) (xs:List Nat),(∀x∈xs,x<8)->zde S (k+1) (zae xs)=some (xs.map fun (x:Nat)=>.int (x:Int)):=by
  intro k xs
  induction xs with
  | nil=>intro _;unfold zde zae;rfl
  | cons x xs ih =>
   intro hx
   show zde S (k+1) (.int x :: zae xs)=_
   unfold zde
   rw [ih fun y hy=>hx y (List.mem_cons_of_mem _ hy)]
   unfold zcb
   rw [if_pos (l8 x (hx x List.mem_cons_self))]
   rfl
 have p1:zcb S 59 (.ref n)=some (.list (as.map fun (x:Nat)=>.int (x:Int))):=by
  unfold zcb;rw [hn];simp only [Option.bind_some]
  rw [all 57 as h1];rfl
 have p2:zcb S 59 (.int e)=some (.int e):=by unfold zcb;rw [if_pos (l8 e h2)]
 unfold zcb zde
 rw [p1];simp only [Option.bind_some]
 unfold zde
 rw [p2];simp only [Option.bind_some]
 unfold zde
 rfl
theorem zvl (b:Nat) (nets:List (List Str)):∀(x y:List Nat) (w:Nat),zbq b nets w (x++y)=((zbq b nets w x).1++(zbq b nets (zbq b nets w x).2 y).1,(zbq b nets (zbq b nets w x).2 y).2)
 | [],y,w=>rfl
 | a :: x,y,w=>by
  show ((zcl b nets w a).2 :: (zbq b nets (zcl b nets w a).1 (x++y)).1,(zbq b nets (zcl b nets w a).1 (x++y)).2)=_
  rw [zvl b nets x y];rfl
theorem yjd (a b:List Nat):zae a++zae b=zae (a++b):=by unfold zae;rw [List.map_append]
theorem yje (a:List Nat) (k:Nat):(zae a).take k=zae (a.take k):=by unfold zae;rw [List.map_take]
theorem yjf (a:List Nat) (k:Nat):(zae a).drop k=zae (a.drop k):=by unfold zae;rw [List.map_drop]
theorem zoe (as:List Nat) (e:Nat):(PyData.tuple [.list (as.map fun (x:Nat)=>.int (x:Int)),.int e]).canLay0=true:=by
 have:∀xs:List Nat,PyData.canLayAll0 (xs.map fun (x:Nat)=>PyData.int (x:Int))=true:=by
  intro xs
  induction xs with
  | nil=>simp [PyData.canLayAll0]
  | cons x xs ih=>rw [List.map_cons];simp only [PyData.canLayAll0,PyData.canLay0,Bool.true_and];exact ih
 simp [PyData.canLay0,PyData.canLayAll0,this]
theorem yjg {asks:Nat}{rs:List (List Cl)}{ws:List Nat}{nets:List (List Str)}(h:OkM asks rs) (hw:OkW rs.length ws) (hb:OkB (bOf rs.length) (cOf asks) nets) (st:zlw (bOf rs.length) ws rs nets) (row:List Nat) (hf:zee rs asks (some 0) row) (hra:∀a∈row,a<asks) (hl:row.length<=16) (ns:List Int) (k:Int) (S:Sto) (hp:Pn ns k S) (hk:k<100000)
  (y0 y2 y4 y5 y7 y8 y9 y10 y11 y12 y15 y16 y17 y18:Option D) :
  Ws (zam (sIf (zfs (tE (zag zhh (zac (zaa 3) (zac (zaa 6) (zac (zaa 13) (zac (zaa 14) (zaf)))))))) (za9 (eC (.bl false))) (zbn)) (zam (zap (zag zbp (zac (zaa 1) (zac (eOp za3 (zag zbw (zac (zaa 14) (zaf))) (eC (.int 1))) (zaf)))) (zai 15)) (zam (zap (zag zeq (zac (zaa 13) (zac (eOp za4 (zaa 6) (eC (.int 0))) (zac (zb6 (zaa 14) (zb8) (zb3 (zaa 15))) (zaf))))) (zcf 2 (zba (zai 16) (zba (zai 17) (zce))))) (zam (zap (zag zeq (zac (zaa 13) (zac (zaa 17) (zac (zb6 (zaa 14) (zb3 (zaa 15)) (zb8)) (zaf))))) (zcf 2 (zba (zai 18) (zba (zai 17) (zce))))) (sIf (tE (eOp zfz (zag zeq (zac (zaa 13) (zac (eOp za4 (zaa 6) (eC (.int 0))) (zac (zaa 14) (zaf))))) (zag zbs (zac (eOp za3 (zaa 16) (zaa 18)) (zac (zaa 17) (zaf)))))) (za9 (eC (.bl false))) (zbn)))))) [y0,some (.ref 1),y2,some (mD asks rs),y4,y5,some (.tup (zae ws)),y7,y8,y9,y10,y11,y12,some (zbm (bOf rs.length) (cOf asks) nets),some (.tup (zae row)),y15,y16,y17,y18] S fun f l2 S2=>f=.nx/\Pn ns (k+1) S2/\Fr S S2/\∃z15 z16 z17 z18,l2=[y0,some (.ref 1),y2,some (mD asks rs),y4,y5,some (.tup (zae ws)),y7,y8,y9,y10,y11,y12,some (zbm (bOf rs.length) (cOf asks) nets),some (.tup (zae row)),z15,z16,z17,z18]:=by
 have sz2:2<=sizeLine:=by decide
 have big:1000<=sizeLine:=by decide
 have hr1:=h.r1
 have ha4:=h.a4
 have h8:2 ^ bOf rs.length<=2 ^ 3:=Nat.pow_le_pow_right (by decide) (zed h.r8).2.2
 obtain ⟨w0,hw0⟩:∃w,ws[0]? = some w:=⟨_,qge (by rw [hw.len];omega)⟩
 have hw8:w0<8:=by have:=hw.lt w0 (qmg hw0);omega
 have at0:L2.atI (zae ws) 0=some (.int (w0:Int)):=atI_get (i:=0) (by unfold zae;rw [qgm,hw0];rfl)
 have hr100:∀a∈row,a<100:=fun a ha=>by have:=hra a ha;omega
 refine zau (fun l S'=>Gr S S'/\l=[y0,some (.ref 1),y2,some (mD asks rs),y4,y5,some (.tup (zae ws)),y7,y8,y9,y10,y11,y12,some (zbm (bOf rs.length) (cOf asks) nets),some (.tup (zae row)),y15,y16,y17,y18]) ?_ ?_
 ·simp only [zbj,zi4,zbe,zat,zar,zaq,zal,qg0,qg1,zan]
  refine (zvd h hw hb st row S hf hr100 (by omega)).mono ?_
  rintro v S1 ⟨rfl,g⟩
  simp only [zbb,Bool.not_true,Bool.false_eq_true,if_false,zby]
  exact ⟨(by first|rfl|trivial),g,(by first|rfl|trivial)⟩
 rintro l S1 ⟨g1,rfl⟩
 refine zau (fun l S'=>Pn ns (k+1) S'/\Fr S S'/\∃t:Nat,t<=row.length/\l=[y0,some (.ref 1),y2,some (mD asks rs),y4,y5,some (.tup (zae ws)),y7,y8,y9,y10,y11,y12,some (zbm (bOf rs.length) (cOf asks) nets),some (.tup (zae row)),some (.int (t:Int)),y16,y17,y18]) ?_ ?_
 ·simp only [za8,zat,zax,zar,zaq,zal,zas,qg0,qg1,zan,ze6,zck,zc6]
  refine (zcn ns _ _ ((row.length:Int)+1) (hp.gr g1) (by omega) (by omega) (by omega)).mono ?_
  rintro u S2 ⟨⟨t,rfl,ht⟩,p2,f2⟩
  simp only [zav,qs0,qs1]
  exact ⟨(by first|rfl|trivial),p2,(Fr.of g1).trans f2,t,by omega,rfl⟩
 rintro l S2 ⟨p2,f2,t,ht,rfl⟩
 have lt1:=zkc hb (row.take t) w0 hw8
 have lt2:=zkc hb (row.drop t) _ lt1.2.1
 have lt3:=zkc hb row w0 hw8
 have eapp:=zvl (bOf rs.length) nets (row.take t) (row.drop t) w0
 rw [List.take_append_drop] at eapp
 refine zau (fun l S'=>Gr S2 S'/\∃n,S'[n]? = some (.lst (zae (zbq (bOf rs.length) nets w0 (row.take t)).1))/\l=[y0,some (.ref 1),y2,some (mD asks rs),y4,y5,some (.tup (zae ws)),y7,y8,y9,y10,y11,y12,some (zbm (bOf rs.length) (cOf asks) nets),some (.tup (zae row)),some (.int (t:Int)),some (.ref n),some (.int ((zbq (bOf rs.length) nets w0 (row.take t)).2:Nat)),y18]) ?_ ?_
 ·simp only [za8,zat,zax,zar,zaq,zal,zas,qg0,qg1,zan,zd0,at0,zbl,zec,zd9,zea,zeb,zfo,ze7,yje]
  refine (zlq hb w0 (row.take t) S2 hw8 (fun a ha=>hr100 a (List.mem_of_mem_take ha)) (by simp;omega)).mono ?_
  rintro d S3 ⟨n,rfl,hn,q,g⟩
  simp only [zc7,zc9,zav,zc8,List.length_cons,List.length_nil,Nat.reduceAdd,qs0,qs1,true_and]
  exact ⟨g,n,q,rfl⟩
 rintro l S3 ⟨g3,n,q3,rfl⟩
 refine zau (fun l S'=>Gr S3 S'/\∃m,S'[m]? = some (.lst (zae (zbq (bOf rs.length) nets (zbq (bOf rs.length) nets w0 (row.take t)).2 (row.drop t)).1))/\l=[y0,some (.ref 1),y2,some (mD asks rs),y4,y5,some (.tup (zae ws)),y7,y8,y9,y10,y11,y12,some (zbm (bOf rs.length) (cOf asks) nets),some (.tup (zae row)),some (.int (t:Int)),some (.ref n),some (.int ((zbq (bOf rs.length) nets (zbq (bOf rs.length) nets w0 (row.take t)).2 (row.drop t)).2:Nat)),some (.ref m)]) ?_ ?_
 ·simp only [za8,zat,zax,zar,zaq,zal,zas,qg0,qg1,zan,zec,zd9,zea,zeb,zfo,zf5,yjf]
  refine (zlq hb _ (row.drop t) S3 lt1.2.1 (fun a ha=>hr100 a (List.mem_of_mem_drop ha)) (by simp;omega)).mono ?_
  rintro d S4 ⟨m,rfl,hm,q,g⟩
  simp only [zc7,zc9,zav,zc8,List.length_cons,List.length_nil,Nat.reduceAdd,qs0,qs1,true_and]
  exact ⟨g,m,q,rfl⟩
 rintro l S4 ⟨g4,m,q4,rfl⟩
 simp only [zbj,zbe,zat,zax,zar,zaq,zal,zas,qg0,qg1,zan,zd0,at0,zbl]
 refine (zlq hb w0 row S4 hw8 hr100 (by omega)).mono ?_
 rintro d S5 ⟨r,rfl,hr,q5,g5⟩
 rw [zsj (g5.get (g4.get q3)) (g5.get q4),yjd]
 refine ⟨by rw [zck,zck,lt1.2.2,lt2.2.2];simp;omega,?_⟩
 simp only [zda,List.length_cons,List.length_nil,Nat.reduceAdd,sz2,true_and]
 have qr:=Gr.get ⟨[.lst (zae ((zbq (bOf rs.length) nets w0 (row.take t)).1++(zbq (bOf rs.length) nets (zbq (bOf rs.length) nets w0 (row.take t)).2 (row.drop t)).1))],rfl⟩ q5
 rw [eapp] at qr lt3 ⊢
 rw [zu3 (zvk (zbk qr) lt3.1 lt3.2.1 (by rw [lt3.2.2];omega)) (zvk (zbk (zbx _ _)) lt3.1 lt3.2.1 (by rw [lt3.2.2];omega)) (zoe _ _) (zoe _ _),PySem.SeqAt.eqv_refl _ (zoe _ _)]
 simp only [Bool.not_true,zbb,Bool.false_eq_true,if_false,zby]
 exact ⟨(by first|rfl|trivial),(((p2.gr g3).gr g4).gr g5).push _,f2.trans (Fr.of ((g3.trans g4).trans (g5.push _))),_,_,_,_,rfl⟩
theorem yjh (i:Nat) (hi:(i:Int)<8):∃m:Nat,L2.atI [D.int 1,.int 2,.int 3,.int 4,.int 5,.int 8,.int 3,.int 4] (i:Int)=some (.int m)/\1<=m/\m<=8:=by
 have:i=0∨i=1∨i=2∨i=3∨i=4∨i=5∨i=6∨i=7:=by omega
 rcases this with rfl|rfl|rfl|rfl|rfl|rfl|rfl|rfl
 ·exact ⟨1,rfl,by decide,by decide⟩
 ·exact ⟨2,rfl,by decide,by decide⟩
 ·exact ⟨3,rfl,by decide,by decide⟩
 ·exact ⟨4,rfl,by decide,by decide⟩
 ·exact ⟨5,rfl,by decide,by decide⟩
 ·exact ⟨8,rfl,by decide,by decide⟩
 ·exact ⟨3,rfl,by decide,by decide⟩
 ·exact ⟨4,rfl,by decide,by decide⟩
theorem yji (i:Nat) (hi:(i:Int)<5):∃m:Nat,L2.atI [D.int 1,.int 2,.int 2,.int 3,.int 4] (i:Int)=some (.int m)/\1<=m/\m<=4:=by
 have:i=0∨i=1∨i=2∨i=3∨i=4:=by omega
 rcases this with rfl|rfl|rfl|rfl|rfl
 ·exact ⟨1,rfl,by decide,by decide⟩
 ·exact ⟨2,rfl,by decide,by decide⟩
 ·exact ⟨2,rfl,by decide,by decide⟩
 ·exact ⟨3,rfl,by decide,by decide⟩
 ·exact ⟨4,rfl,by decide,by decide⟩
structure GB (asks:Nat) (rs:List (List Cl)) (ws:List Nat) (nets:List (List Str)):Prop where
 ok:OkB (bOf rs.length) (cOf asks) nets
 st:zlw (bOf rs.length) ws rs nets
structure RowP (asks:Nat) (rs:List (List Cl)) (row:List Nat):Prop where
 full:zee rs asks (some 0) row
 lt:∀a∈row,a<asks
 len:row.length<=16
theorem zvm {asks:Nat}{rs:List (List Cl)}{ws:List Nat}{nets:List (List Str)}{L3 L4:Ls}(h:OkM asks rs) (hw:OkW rs.length ws) (r3:DictR (zcy (bOf rs.length) ws rs zbr) (zcy (bOf rs.length) ws rs zbr) L3) (r4:DictR (zc1 (bOf rs.length) ws rs zbr) (zc1 (bOf rs.length) ws rs zbr) L4) (ok:OkNs nets) (hl:nets.length=bOf rs.length+3) (hf:zho (zdg (bOf rs.length) L3 L4) nets):GB asks rs ws nets :=
 ⟨⟨(zed h.r8).2.1,(zed h.r8).2.2,(zhn h.a4).2,ok,hl⟩,fun h1 h2 h3=>yiu h hw r3 r4 hf hl h1 h2 h3⟩
theorem law_true (ns:List Int) (hl:ns.length<=63):∃S',zgn [.ref 0] [.flst (ns.map D.int)]=some (.bl true,S'):=by
 have sz1:1<=sizeLine:=by decide
 have sz5:5<=sizeLine:=by decide
 have sz8:8<=sizeLine:=by decide
 have big:1000<=sizeLine:=by decide
 have key:Wo (zgn [.ref 0] [.flst (ns.map D.int)]) fun v _=>v=.bl true:=by
  unfold zgn zto
  simp only [zb5,List.map_cons,List.map_nil,List.length_cons,List.length_nil,Nat.reduceAdd,Nat.reduceSub,List.replicate,List.cons_append,List.nil_append]
  refine zau (fun l S=>Pn ns 0 S/\l=[some (.ref 0),some (.ref 1),none,none,none,none,none,none,none,none,none,none,none,none,none,none,none,none,none]) ?_ ?_
  ·simp only [za8,zat,zar,zaq,zal,qg0,zan]
   refine (yg6 ns).mono ?_
   rintro v S ⟨rfl,p⟩
   simp only [zav,qs0,qs1]
   exact ⟨(by first|rfl|trivial),p,(by first|rfl|trivial)⟩
  rintro l S ⟨p0,rfl⟩
  refine zau (fun l S=>Pn ns 1 S/\∃many:Nat,1<=many/\many<=8/\l=[some (.ref 0),some (.ref 1),some (.int (many:Int)),none,none,none,none,none,none,none,none,none,none,none,none,none,none,none,none]) ?_ ?_
  ·simp only [za8,zax,zat,zar,zaq,zal,zas,qg0,qg1,zan,ze3,List.length_cons,List.length_nil,Nat.reduceAdd,sz8,true_and]
   refine (zcn ns _ _ 8 (p0.push _) (by omega) (by decide) (by decide)).mono ?_
   rintro x S1 ⟨⟨d,rfl,hd⟩,p1,f1⟩
   obtain ⟨m,hm,m1,m2⟩:=yjh d hd
   have hl1:=p0.kept f1
   simp only [zd8,hl1,zbl,hm,zav,qs0,qs1]
   exact ⟨p1.mono (by omega),m,m1,m2,rfl⟩
  rintro l S1 ⟨p1,many,my1,my8,rfl⟩
  refine zau (fun l S=>Pn ns 300 S/\∃asks rs,OkM asks rs/\rs.length=many/\l=[some (.ref 0),some (.ref 1),some (.int (many:Int)),some (mD asks rs),none,none,none,none,none,none,none,none,none,none,none,none,none,none,none]) ?_ ?_
  ·simp only [za8,zax,zat,zar,zaq,zal,zas,qg0,qg1,zan,ze3,List.length_cons,List.length_nil,Nat.reduceAdd,sz5,true_and]
   refine (zcn ns _ _ 5 (p1.push _) (by omega) (by decide) (by decide)).mono ?_
   rintro x S2 ⟨⟨d,rfl,hd⟩,p2,f2⟩
   obtain ⟨m,hm,m1,m2⟩:=yji d hd
   have hl1:=p1.kept f2
   simp only [zd8,hl1,zbl,hm]
   refine (yh0 ns S2 _ many m p2 (by omega) my1 my8 m1 m2).mono ?_
   rintro v S3 ⟨rs,rfl,ok,hrl,p3⟩
   simp only [zav,qs0,qs1]
   exact ⟨p3.mono (by omega),m,rs,ok,hrl,rfl⟩
  rintro l S2 ⟨p2,asks,rs,h,hrl,rfl⟩
  subst hrl
  refine zau (fun l S=>Pn ns 300 S/\l=[some (.ref 0),some (.ref 1),some (.int (rs.length:Int)),some (mD asks rs),some (.int (bOf rs.length:Nat)),some (.int (cOf asks:Nat)),none,none,none,none,none,none,none,none,none,none,none,none,none]) ?_ ?_
  ·simp only [za8,zat,zar,zaq,zal,qg0,qg1,zan]
   refine (zn9 h S2).mono ?_
   rintro v S3 ⟨rfl,g⟩
   simp only [bcD,zc7,zc9,zav,zc8,List.length_cons,List.length_nil,Nat.reduceAdd,qs0,qs1,true_and]
   exact ⟨p2.gr g,(by first|rfl|trivial)⟩
  rintro l S3 ⟨p3,rfl⟩
  refine zau (fun l S=>Pn ns 400 S/\∃ws,OkW rs.length ws/\l=[some (.ref 0),some (.ref 1),some (.int (rs.length:Int)),some (mD asks rs),some (.int (bOf rs.length:Nat)),some (.int (cOf asks:Nat)),some (.tup (zae ws)),none,none,none,none,none,none,none,none,none,none,none,none]) ?_ ?_
  ·simp only [za8,zat,zar,zaq,zal,qg0,qg1,zan]
   refine (yi1 ns S3 _ rs.length p3 (by omega) h.r8).mono ?_
   rintro v S4 ⟨ws,rfl,hw,p4⟩
   simp only [zav,qs0,qs1]
   exact ⟨(by first|rfl|trivial),p4.mono (by omega),ws,hw,rfl⟩
  rintro l S4 ⟨p4,ws,hw,rfl⟩
  refine zau (fun l S=>Pn ns 3000 S/\∃nets,nets.length=bOf rs.length+3/\(∀zs∈nets,OkN (bOf rs.length+cOf asks) zs/\zs.length<=64)/\(∀L3 L4,DictR (zcy (bOf rs.length) ws rs zbr) (zcy (bOf rs.length) ws rs zbr) L3->DictR (zc1 (bOf rs.length) ws rs zbr) (zc1 (bOf rs.length) ws rs zbr) L4->zho (zdg (bOf rs.length) L3 L4) nets)/\l=[some (.ref 0),some (.ref 1),some (.int (rs.length:Int)),some (mD asks rs),some (.int (bOf rs.length:Nat)),some (.int (cOf asks:Nat)),some (.tup (zae ws)),some (zbm (bOf rs.length) (cOf asks) nets),none,none,none,none,none,none,none,none,none,none,none]) ?_ ?_
  ·simp only [za8,zat,zar,zaq,zal,qg0,qg1,zan]
   refine (yja h hw ns S4 _ p4 (by omega)).mono ?_
   rintro v S5 ⟨nets,rfl,n1,n2,n3,p5⟩
   simp only [zav,qs0,qs1]
   exact ⟨(by first|rfl|trivial),p5.mono (by omega),nets,n1,n2,n3,rfl⟩
  rintro l S5 ⟨p5,nets,n1,n2,n3,rfl⟩
  obtain ⟨hb1,hb2,hb3⟩:=zed h.r8
  have hc2:=(zhn h.a4).2
  have okS:OkNs nets:=fun zs hz=>⟨fun z hz'=>by have:=((n2 zs hz).1 z hz').2;omega,by have:=(n2 zs hz).2;omega⟩
  have szT:szB (bOf rs.length+cOf asks) nets=true:=List.all_eq_true.mpr fun zs hz=>List.all_eq_true.mpr fun z hz'=>decide_eq_true ((n2 zs hz).1 z hz').2
  refine zau (fun l S=>Pn ns 3400 S/\∃(n8:Nat) (rows:List (List Nat)),2<=n8/\S[n8]? = some (.lst (rows.map fun row=>.tup (zae row)))/\rows.length<=5/\(∀row∈rows,RowP asks rs row)/\l=[some (.ref 0),some (.ref 1),some (.int (rs.length:Int)),some (mD asks rs),some (.int (bOf rs.length:Nat)),some (.int (cOf asks:Nat)),some (.tup (zae ws)),some (zbm (bOf rs.length) (cOf asks) nets),some (.ref n8),none,none,none,none,none,none,none,none,none,none]) ?_ ?_
  ·rw [za8]
   have e5:zag zcq (zac (eC (.int 0)) (zac (eC (.int 1)) (zac (eC (.int 3)) (zac (eC (.int 8)) (zac (eC (.int 16)) zaf))))) [some (.ref 0),some (.ref 1),some (.int (rs.length:Int)),some (mD asks rs),some (.int (bOf rs.length:Nat)),some (.int (cOf asks:Nat)),some (.tup (zae ws)),some (zbm (bOf rs.length) (cOf asks) nets),none,none,none,none,none,none,none,none,none,none,none] S5=some (.ref S5.length,S5++[.lst (zae [0,1,3,8,16])]):=rfl
   refine zia (zae [0,1,3,8,16]) (fun i acc l S'=>Pn ns (3000+60*i) S'/\S'[S5.length]? = some (.lst (zae [0,1,3,8,16]))/\(∃rows:List (List Nat),acc=rows.map (fun row=>.tup (zae row))/\rows.length=i/\∀row∈rows,RowP asks rs row)/\∃y0,l=[y0,some (.ref 1),some (mD asks rs)]) (it:=itL S5.length) (znv e5 zdp) ⟨by simpa using p5.push _,zbx _ _,⟨[],rfl,rfl,fun row z=>by cases z⟩,_,rfl⟩ (fun i acc l S' hI=>zjm (zbk hI.2.1)) ?_ ?_
   ·rintro i x acc l S6 hx ⟨p6,q6,⟨rows,rfl,hrl,hrw⟩,y0,rfl⟩
    obtain ⟨m,rfl,hm⟩:=zgo hx
    have hi:i<5:=(qme hm).1
    have hm16:m<=16:=by
     have:=qmg hm
     simp at this
     omega
    simp only [zav,qs0]
    refine ⟨true,S6,rfl,?_⟩
    dsimp only
    rw [if_pos rfl]
    simp only [zat,zar,zaq,zal,qg0,qg1,zan]
    refine (zve h ns S6 _ m p6 (by omega) (by omega)).mono ?_
    rintro d S7 ⟨row,rfl,r1,r2,r3,p7,f7⟩
    refine ⟨p7.mono (by push_cast;omega),f7 _ _ p5.len q6,⟨rows++[row],by rw [List.map_append];rfl,by simp [hrl],fun r hr=>?_⟩,_,rfl⟩
    rcases List.mem_append.mp hr with z|z
    ·exact hrw r z
    ·rw [List.mem_singleton.mp z];exact ⟨r1,r2,by omega⟩
   ·rintro acc l' S6 ⟨p6,q6,⟨rows,rfl,hrl,hrw⟩,y0,rfl⟩
    have hrl:rows.length=5:=hrl
    have p6:Pn ns 3300 S6:=p6
    refine ⟨by rw [qlm];omega,?_⟩
    simp only [zav,qs0,qs1]
    exact ⟨(by first|rfl|trivial),(p6.push _).mono (by omega),_,rows,p6.two,zbx _ _,by omega,hrw,rfl⟩
  rintro l S6 ⟨p6,n8,rows,h82,q8,hr5,hrows,rfl⟩
  refine zau (fun l S=>Pn ns 3500 S/\S[n8]? = some (.lst (rows.map fun row=>.tup (zae row)))/\∃row,zee rs asks (some 0) row/\(∀a∈row,a<asks)/\row.length<=60/\l=[some (.ref 0),some (.ref 1),some (.int (rs.length:Int)),some (mD asks rs),some (.int (bOf rs.length:Nat)),some (.int (cOf asks:Nat)),some (.tup (zae ws)),some (zbm (bOf rs.length) (cOf asks) nets),some (.ref n8),some (.tup (zae row)),none,none,none,none,none,none,none,none,none]) ?_ ?_
  ·simp only [za8,zat,zar,zaq,zal,zas,qg0,qg1,zan]
   refine (zve h ns S6 _ 60 p6 (by omega) (by omega)).mono ?_
   rintro d S7 ⟨row,rfl,r1,r2,r3,p7,f7⟩
   simp only [zav,qs0,qs1]
   exact ⟨(by first|rfl|trivial),p7.mono (by omega),f7 _ _ (by omega) q8,row,r1,r2,r3,rfl⟩
  rintro l S7 ⟨p7,q7,long,g1,g2,g3,rfl⟩
  have ha4:=h.a4
  obtain ⟨fd,S8,ef,gr8,L3,L4,r3,r4,hiff⟩:=zu5 h hw ((bOf rs.length:Nat):Int) ((cOf asks:Nat):Int) nets (by omega) (by omega) okS (by omega) S7
  have gb:=zvm h hw r3 r4 okS n1 (n3 L3 L4 r3 r4)
  have hnon:zb7 fd=true:=hiff.mpr ⟨⟨rfl,rfl,n1,szT⟩,n3 L3 L4 r3 r4⟩
  refine zau (fun l S=>Pn ns 3500 S/\S[n8]? = some (.lst (rows.map fun row=>.tup (zae row)))/\l=[some (.ref 0),some (.ref 1),some (.int (rs.length:Int)),some (mD asks rs),some (.int (bOf rs.length:Nat)),some (.int (cOf asks:Nat)),some (.tup (zae ws)),some (zbm (bOf rs.length) (cOf asks) nets),some (.ref n8),some (.tup (zae long)),none,none,none,none,none,none,none,none,none]) ?_ ?_
  ·have e8:∀Q:D->Sto->Prop,Wo (zhk [mD asks rs,.tup (zae ws),zbm (bOf rs.length) (cOf asks) nets] S7) Q=Q fd S8:=fun Q=>by rw [show zbm (bOf rs.length) (cOf asks) nets=zfa ((bOf rs.length:Nat):Int) ((cOf asks:Nat):Int) nets from rfl,ef,zbh]
   simp only [zbj,zg2,zi4,zbe,zax,zat,zar,zaq,zal,zas,qg0,qg1,zan,e8,zdx,hnon,Bool.not_true,zbb,Bool.false_eq_true,if_false]
   refine (zvd h hw gb.ok gb.st long S8 g1 (fun a ha=>by have:=g2 a ha;omega) (by omega)).mono ?_
   rintro v S9 ⟨rfl,gr9⟩
   simp only [zbb,Bool.not_true,Bool.false_eq_true,if_false,zby]
   exact ⟨(by first|rfl|trivial),(p7.gr gr8).gr gr9,gr9.get (gr8.get q7),(by first|rfl|trivial)⟩
  rintro l S9 ⟨p9,q9,rfl⟩
  refine zau (fun l S=>Pn ns 3500 S/\S[n8]? = some (.lst (rows.map fun row=>.tup (zae row)))/\∃m,n8<m/\S[m]? = some (.lst ([nets].map (zbm (bOf rs.length) (cOf asks))))/\l=[some (.ref 0),some (.ref 1),some (.int (rs.length:Int)),some (mD asks rs),some (.int (bOf rs.length:Nat)),some (.int (cOf asks:Nat)),some (.tup (zae ws)),some (zbm (bOf rs.length) (cOf asks) nets),some (.ref n8),some (.tup (zae long)),some (.ref m),none,none,none,none,none,none,none,none]) ?_ ?_
  ·simp only [za8,zat,zar,zaq,zal,qg0,qg1,zan,ze3,List.length_cons,List.length_nil,Nat.reduceAdd,sz1,true_and,zav,qs0,qs1]
   exact ⟨p9.push _,zjp q9,_,(qme q9).1,zbx _ _,rfl⟩
  rintro l S10 ⟨p10,q10,m,hm,qm,rfl⟩
  rw [zci]
  refine zib (n:=3) (fun i l S=>Pn ns (3500+50*i) S/\S[n8]? = some (.lst (rows.map fun row=>.tup (zae row)))/\(∃bs:List (List (List Str)),bs.length<=i+1/\(∀us∈bs,GB asks rs ws us)/\S[m]? = some (.lst (bs.map (zbm (bOf rs.length) (cOf asks)))))/\∃y11 y12,l=[some (.ref 0),some (.ref 1),some (.int (rs.length:Int)),some (mD asks rs),some (.int (bOf rs.length:Nat)),some (.int (cOf asks:Nat)),some (.tup (zae ws)),some (zbm (bOf rs.length) (cOf asks) nets),some (.ref n8),some (.tup (zae long)),some (.ref m),y11,y12,none,none,none,none,none,none]) (fun _ _=>False) (as1 rfl) (by omega) ⟨by simpa using p10,q10,⟨[nets],by simp,(fun us hu=>by rw [List.mem_singleton.mp hu];exact gb),qm⟩,_,_,rfl⟩ ?_ ?_ (fun d l S h=>h.elim)
  ·rintro i l S11 hi ⟨p11,q11,⟨bs,hbl,hbs,qbs⟩,y11,y12,rfl⟩
   simp only [zav,qs0,qs1]
   refine zau (fun l S=>Pn ns (3500+50*i+50) S/\S[n8]? = some (.lst (rows.map fun row=>.tup (zae row)))/\S[m]? = some (.lst (bs.map (zbm (bOf rs.length) (cOf asks))))/\∃b' c' us,Int.natAbs b' < 100/\Int.natAbs c' < 100/\OkNs us/\us.length<=20/\l=[some (.ref 0),some (.ref 1),some (.int (rs.length:Int)),some (mD asks rs),some (.int (bOf rs.length:Nat)),some (.int (cOf asks:Nat)),some (.tup (zae ws)),some (zbm (bOf rs.length) (cOf asks) nets),some (.ref n8),some (.tup (zae long)),some (.ref m),some (.int i),some (zfa b' c' us),none,none,none,none,none,none]) ?_ ?_
   ·simp only [za8,zat,zar,zaq,zal,qg0,qg1,zan]
    refine (yjc ns S11 _ (bOf rs.length) (cOf asks) nets p11 (by omega) hb2 hb3 hc2 n1 n2).mono ?_
    rintro d S12 ⟨b',c',us,rfl,k1,k2,k3,k4,p12,f12⟩
    simp only [zav,qs0,qs1]
    exact ⟨(by first|rfl|trivial),p12,f12 _ _ (by omega) q11,f12 _ _ (by omega) qbs,b',c',us,k1,k2,k3,k4,rfl⟩
   rintro l S12 ⟨p12,q12,qm12,b',c',us,k1,k2,k3,k4,rfl⟩
   obtain ⟨fd',S13,ef',gr13,L3',L4',r3',r4',hiff'⟩:=zu5 h hw b' c' us k1 k2 k3 k4 S12
   simp only [zbj,zbe,zax,zat,zar,zaq,zal,zas,qg0,qg1,zan,ef',zbh,zkw,zbb]
   cases hfd:zb7 fd' with
   | true =>
    obtain ⟨⟨e1,e2,e3,e4⟩,e5⟩:=hiff'.mp hfd
    subst e1;subst e2
    simp only [if_true,zd4]
    rw [zen]
    simp only [zal,zar,zaq,qg0,qg1,zan]
    refine ⟨⟨_,show zdh (.ref m) S13=some _ from zbk (gr13.get qm12)⟩,?_⟩
    rw [zjq (gr13.get qm12) (by rw [qlm];omega)]
    refine .inl ⟨(by first|exact .inl rfl|exact .inl trivial|trivial),((p12.gr gr13).set (by omega)).mono (by push_cast;omega),zhe (gr13.get q12) (by omega),⟨bs++[us],by simp;omega,fun x hx=>?_,?_⟩,_,_,rfl⟩
    ·rcases List.mem_append.mp hx with z|z
     ·exact hbs x z
     ·rw [List.mem_singleton.mp z];exact zvm h hw r3' r4' k3 e3 e5
    ·rw [zd1 (gr13.get qm12),List.map_append];rfl
   | false =>
    simp only [Bool.false_eq_true,if_false,zby]
    exact .inl ⟨(by first|exact .inl rfl|exact .inl trivial|trivial),(p12.gr gr13).mono (by push_cast;omega),gr13.get q12,⟨bs,by omega,hbs,gr13.get qm12⟩,_,_,rfl⟩
  ·rintro l S11 ⟨p11,q11,⟨bs,hbl,hbs,qbs⟩,y11,y12,rfl⟩
   have p11:Pn ns 3700 S11:=p11.mono (by omega)
   rw [zci]
   refine zsp (n:=m) (bs.map (zbm (bOf rs.length) (cOf asks))) (fun i l S=>Pn ns (3700+5*i) S/\S[n8]? = some (.lst (rows.map fun row=>.tup (zae row)))/\S[m]? = some (.lst (bs.map (zbm (bOf rs.length) (cOf asks))))/\∃y13 y14 y15 y16 y17 y18,l=[some (.ref 0),some (.ref 1),some (.int (rs.length:Int)),some (mD asks rs),some (.int (bOf rs.length:Nat)),some (.int (cOf asks:Nat)),some (.tup (zae ws)),some (zbm (bOf rs.length) (cOf asks) nets),some (.ref n8),some (.tup (zae long)),some (.ref m),y11,y12,y13,y14,y15,y16,y17,y18]) (fun _ _=>False) rfl ⟨by simpa using p11,q11,qbs,_,_,_,_,_,_,rfl⟩ (fun i l S hI=>zbk hI.2.2.1) ?_ ?_ (fun d l S h=>h.elim)
   ·rintro i x l S12 hx ⟨p12,q12,qm12,y13,y14,y15,y16,y17,y18,rfl⟩
    rw [qgm] at hx
    obtain ⟨us,hus,rfl⟩:=Option.map_eq_some_iff.mp hx
    have hi:i<bs.length:=(qme hus).1
    have gu:=hbs us (qmg hus)
    simp only [zav,qs0,qs1]
    refine zsp (n:=n8) (rows.map fun row=>.tup (zae row)) (fun j l S=>Pn ns (3700+5*i+j) S/\S[n8]? = some (.lst (rows.map fun row=>.tup (zae row)))/\S[m]? = some (.lst (bs.map (zbm (bOf rs.length) (cOf asks))))/\∃y14 y15 y16 y17 y18,l=[some (.ref 0),some (.ref 1),some (.int (rs.length:Int)),some (mD asks rs),some (.int (bOf rs.length:Nat)),some (.int (cOf asks:Nat)),some (.tup (zae ws)),some (zbm (bOf rs.length) (cOf asks) nets),some (.ref n8),some (.tup (zae long)),some (.ref m),y11,y12,some (zbm (bOf rs.length) (cOf asks) us),y14,y15,y16,y17,y18]) (fun _ _=>False) rfl ⟨by simpa using p12,q12,qm12,_,_,_,_,_,rfl⟩ (fun i l S hI=>zbk hI.2.1) ?_ ?_ (fun d l S h=>h.elim)
    ·rintro j x l S13 hx2 ⟨p13,q13,qm13,y14,y15,y16,y17,y18,rfl⟩
     rw [qgm] at hx2
     obtain ⟨row,hrow,rfl⟩:=Option.map_eq_some_iff.mp hx2
     have hj:j<rows.length:=(qme hrow).1
     have rp:=hrows row (qmg hrow)
     simp only [zav,qs0,qs1]
     refine (yjg h hw gu.ok gu.st row rp.full rp.lt rp.len ns _ S13 p13 (by omega) _ _ _ _ _ _ _ _ _ _ _ _ _ _).mono ?_
     rintro f l2 S14 ⟨rfl,p14,f14,z15,z16,z17,z18,rfl⟩
     exact .inl ⟨.inl rfl,p14.mono (by push_cast;omega),f14 _ _ (by omega) q13,f14 _ _ (by omega) qm13,_,_,_,_,_,rfl⟩
    ·rintro l S13 ⟨p13,q13,qm13,y14,y15,y16,y17,y18,rfl⟩
     rw [qlm] at p13
     exact .inl ⟨.inl rfl,p13.mono (by push_cast;omega),q13,qm13,_,_,_,_,_,_,rfl⟩
   ·rintro l S12 ⟨p12,q12,qm12,y13,y14,y15,y16,y17,y18,rfl⟩
    simp only [zb4,zas]
    all_goals first|rfl|trivial
 obtain ⟨v,S',e,rfl⟩:=key
 exact ⟨S',e⟩
end M
noncomputable def PySem.W.Fast.tw2614892518213218471 : Nat := 0
noncomputable def PySem.W.Fast.tw9302171787721178179 : Nat := 0
noncomputable def PySem.W.Fast.tw18231377444975601886 : Nat := 0
noncomputable def PySem.W.Fast.tw7321729112353013655 : Nat := 0
noncomputable def PySem.W.Fast.tw5289242028240609206 : Nat := 0
noncomputable def PySem.W.Fast.tw1539832544035357430 : Nat := 0
noncomputable def PySem.W.Fast.tw16869824840157405093 : Nat := 0
noncomputable def PySem.W.Fast.tw10452501260576588839 : Nat := 0
noncomputable def PySem.W.Fast.tw6237617965096800952 : Nat := 0
noncomputable def PySem.W.Fast.tw17162668648486491965 : Nat := 0
noncomputable def PySem.W.Fast.tw5568266748511540219 : Nat := 0
noncomputable def PySem.W.Fast.tw9004383265589581546 : Nat := 0
noncomputable def PySem.W.Fast.tw16854533041214988981 : Nat := 0
noncomputable def PySem.W.Fast.tw9303710345257836849 : Nat := 0
noncomputable def PySem.W.Fast.tw101343601925505919 : Nat := 0
noncomputable def PySem.W.Fast.tw24107146612140917 : Nat := 0
noncomputable def PySem.W.Fast.tw16816832525880348382 : Nat := 0
noncomputable def PySem.W.Fast.tw13840313276501832093 : Nat := 0
noncomputable def PySem.W.Fast.tw4168167146423375199 : Nat := 0
noncomputable def PySem.W.Fast.tw12530400248730366504 : Nat := 0
noncomputable def PySem.W.Fast.tw6351011084220931864 : Nat := 0
noncomputable def PySem.W.Fast.tw7867978851456540496 : Nat := 0
noncomputable def PySem.W.Fast.tw8316881703558832953 : Nat := 0
noncomputable def PySem.W.Fast.tw15671109408586098566 : Nat := 0
noncomputable def PySem.W.Fast.tw14026679368641730115 : Nat := 0
noncomputable def PySem.W.Fast.tw8130529779912445288 : Nat := 0
noncomputable def PySem.W.Fast.tw14593344031808861622 : Nat := 0
noncomputable def PySem.W.Fast.tw3810284218741862326 : Nat := 0
noncomputable def PySem.W.Fast.tw1895632774542806102 : Nat := 0
noncomputable def PySem.W.Fast.tw5787500000186125515 : Nat := 0
noncomputable def PySem.W.Fast.tw134970775025087359 : Nat := 0
noncomputable def PySem.W.Fast.tw10026790199817153590 : Nat := 0
noncomputable def PySem.W.Fast.tw10101465079249750358 : Nat := 0
noncomputable def PySem.W.Fast.tw17083467376568708797 : Nat := 0
noncomputable def PySem.W.Fast.tw6706969056254837391 : Nat := 0
noncomputable def PySem.W.Fast.tw6072979237904970721 : Nat := 0
noncomputable def PySem.W.Fast.tw7007022013782042199 : Nat := 0
noncomputable def PySem.W.Fast.tw3659618766340794530 : Nat := 0
noncomputable def PySem.W.Fast.tw16843133768590466313 : Nat := 0
noncomputable def PySem.W.Fast.tw8906970876614977230 : Nat := 0
noncomputable def PySem.W.Fast.tw17830804677829699026 : Nat := 0
noncomputable def PySem.W.Fast.tw9747477941691125038 : Nat := 0
noncomputable def PySem.W.Fast.tw6410256321188799886 : Nat := 0
noncomputable def PySem.W.Fast.tw15249885293011290697 : Nat := 0
noncomputable def PySem.W.Fast.tw11933671320081986958 : Nat := 0
noncomputable def PySem.W.Fast.tw17848987612931779451 : Nat := 0
noncomputable def PySem.W.Fast.tw13413004232629388924 : Nat := 0
noncomputable def PySem.W.Fast.tw4470392740355674166 : Nat := 0
noncomputable def PySem.W.Fast.tw13745287429211118600 : Nat := 0
noncomputable def PySem.W.Fast.tw3291305183296930411 : Nat := 0
noncomputable def PySem.W.Fast.tw3013833646114998603 : Nat := 0
noncomputable def PySem.W.Fast.tw8408762365049256166 : Nat := 0
noncomputable def PySem.W.Fast.tw11707272969413490291 : Nat := 0
noncomputable def PySem.W.Fast.tw16653425866061191573 : Nat := 0
noncomputable def PySem.W.Fast.tw6115007792725953354 : Nat := 0
noncomputable def PySem.W.Fast.tw16182364346406367852 : Nat := 0
noncomputable def PySem.W.Fast.tw15173794366072350536 : Nat := 0
noncomputable def PySem.W.Fast.tw5143143391170421981 : Nat := 0
noncomputable def PySem.W.Fast.tw2844302605719171345 : Nat := 0
open PySem PySem.W PyProof.Rows
theorem PySem.Challenge.cw_opencells_k53_whole_bits_run_as_rooms_holds : PySem.Challenge.rw_opencells_k53_whole_bits_run_as_rooms.Holds := by
 w_on;o_law;k_head;(case hw=>w_witness2)
 k_fill
 refine G.walk (l:=PySem.Challenge.rw_opencells_k53_whole_bits_run_as_rooms) rfl rfl (fun w h Y=>PySem.W.kIn_of Y) ?F (fun ns hl=>M.law_true ns hl)
 case F =>
  intro w mg fa h KX GN hmg
  refine' G.all_mk KX GN hmg ?_ ?_ ?_ ?_ ?_ ?_ ?_ ?_ ?_ ?_ ?_ ?_ ?_ ?_ ?_ ?_ ?_ ?_ ?_ ?_ ?_ ?_ ?_ ?_ ?_ ?_ ?_ ?_ ?_ ?_ ?_ ?_ ?_ ?_ ?_ ?_ ?_ ?_ ?_ ?_ ?_ ?_ ?_ ?_ ?_ ?_ ?_ ?_ ?_ ?_ ?_ ?_ ?_
  all_goals try first|(refine' G.FI.mk ?a ?l ?c ?k;(case a=>k_is);(case l=>k_is);(case c=>k_is);(case k=>k_is))|k_is
#print axioms PySem.Challenge.cw_opencells_k53_whole_bits_run_as_rooms_holds