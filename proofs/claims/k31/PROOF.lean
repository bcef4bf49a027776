import PyProof.Rows.All
import Wide.All
import OpenK.AllK
import Wide.FinOn
import Lean
import PyProof.EqAt
import PyProof.EqKinds
import PyProof.TupleCall
import PyProof.ReprLen
import PyProof.ReprRoads
import PyProof.P3Eq
import PyProof.SetRoads
import PyProof.IsRules
import PyProof.ListRange
import PyProof.ConsumeWalk
import PyProof.NeKinds
import PyProof.DictTable
import PyProof.Draws
import PyProof.EnumMake
import KE.BitLaws
import KE.KIntText
import KE.KRevIter
import PyProof.Rows.SumAny
import PyProof.StrLawsRepr
import PyProof.Rows.SortStrRead
import PyProof.DictCompW
import PyProof.StrOps2
import PyProof.DictWalks
import OpenK.KOwn
import PyProof.NsDelKeeps
import PyProof.RulesAs
import KE.KIsAll
import PyProof.ExcArgsOwn
import PyProof.ExcAttrAll.ValueError
import PyProof.TupleKey
import PyProof.DictRoadsH
import KE.KSortTup
import KE.KDictSum
import PyProof.Rows.TupDisplay
import PyProof.ZipIter
import PyProof.FactsAll.tuple_1
import PyProof.Dict
import PyProof.DictWalks
import PyProof.FactsAll.set_1
import PyProof.FactsAll.tuple_2
import PyProof.FactsAll.tuple_3
import PyProof.MeetsSeq
import PyProof.Rows.FStr
import PyProof.Rows.RuleM_int
import PyProof.Rows.SetFrom
import PyProof.Rows.StrItems
import PyProof.Rows.StrNews2
import PyProof.SetRoads
import PyProof.StrWalks
import PyProof.WalksMore
import KE.KLam
import KE.KNestM
import KE.KSortKey
import PySem.Challenge.RW_opencells_k31_blocks_told
set_option Elab.async false
set_option maxHeartbeats 4000000
set_option maxRecDepth 100000
set_option linter.unusedSimpArgs false
set_option linter.unusedVariables false
noncomputable section
theorem qwb {α β:Type}{M:PySem.Model}{A:PySem.Around}{E:PySem.Value->PySem.Shared->Prop}{s:PySem.Shared}{m:PySem.Sem α}{f:α->PySem.Sem β}{Q:β->PySem.Shared->Prop}(h:PySem.wpAny M A m (λa s'=>PySem.wpAny M A (f a) Q E s') E s):PySem.wpAny M A (m >>= f) Q E s:=PySem.wpAny_bind h
theorem qwp {α:Type}{M:PySem.Model}{A:PySem.Around}{E:PySem.Value->PySem.Shared->Prop}{s:PySem.Shared}{a:α}{Q:α->PySem.Shared->Prop}(h:Q a s):PySem.wpAny M A (pure a) Q E s:=PySem.wpAny_pure h
theorem qbf:(false=true)=False:=Bool.false_eq_true
theorem qme {α:Type _}{l:List α}{i:Nat}{a:α}(h:l[i]? = some a):∃h:i<l.length,l[i]=a:=List.getElem?_eq_some_iff.mp h
theorem qge {α:Type _}{l:List α}{i:Nat}(h:i<l.length):l[i]? = some l[i]:=List.getElem?_eq_getElem h
abbrev QFg:=PySem.W.Frag
theorem qps {h:PySem.Heap}{a:PySem.Addr}{o1:PySem.Obj}(o:PySem.Obj) (e:h.get? a=some o1):(h.push o).get? a=some o1:=PySem.Heap.get?_push_of_some o e
theorem qlm {α β:Type _}{as:List α}(f:α->β):(as.map f).length=as.length:=List.length_map f
theorem qgm {α β:Type _}{f:α->β}{l:List α}{i:Nat}:(l.map f)[i]? = l[i]?.map f:=List.getElem?_map
theorem qoi {α:Type _}{a b:α}(h:some a=some b):a=b:=Option.some.inj h
theorem qem {α:Type _}{l:List α}{n:Nat}(h:n<l.length):l[n]∈l:=List.getElem_mem h
theorem qmg {α:Type _}{l:List α}{i:Nat}{a:α}(e:l[i]? = some a):a∈l:=List.mem_of_getElem? e
theorem qlr (n:Nat):n<=n:=Nat.le_refl n
theorem qla {α:Type _}{as bs:List α}:(as++bs).length=as.length+bs.length:=List.length_append
namespace TS
open PySem PySem.SetTable
noncomputable def F:Nat->Nat->Nat
 | 0,x=>x
 | n+1,x=>5*F n x+1
theorem zmt (a:Nat):∀(b x:Nat),F (a+b) x=F a (F b x):=by
 induction a with
 | zero=>intro b x;rw [Nat.zero_add];rfl
 | succ a ih=>intro b x;rw [show a+1+b=(a+b)+1 by lia];show 5*F (a+b) x+1=5*F a (F b x)+1;rw [ih]
theorem ztq (k:Nat):∃u,∀x,F (2 ^ k) x=(4*(2 ^ k*(2*u+1))+1)*x+2 ^ k*(2*u+1):=by
 induction k with
 | zero=>exact ⟨0,λx=>by show 5*x+1=_;lia⟩
 | succ k ih =>
  obtain ⟨u,h⟩:=ih
  generalize hB:2 ^ k*(2*u+1)=B at h
  refine ⟨2*u*B+u+B,λx=>?_⟩
  have e:2 ^ (k+1)=2 ^ k+2 ^ k:=by rw [Nat.pow_succ];lia
  rw [show F (2 ^ (k+1)) x=F (2 ^ k) (F (2 ^ k) x) by rw [e];exact zmt _ _ _,h,h]
  have e2:2 ^ (k+1)*(2*(2*u*B+u+B)+1)=2*B*(2*B+1):=by
   rw [Nat.pow_succ,<-hB]
   generalize 2 ^ k=p
   grind
  rw [e2]
  clear e2 h hB
  grind
theorem ztr (hM:0<M) (h:a % M=b % M) (h2:a % (2*M)≠b % (2*M)):(a+M) % (2*M)=b % (2*M):=by
 have key:∀x,x % (2*M)=x % M\/x % (2*M)=x % M+M:=λx=>by
  have e1:x % (2*M)<2*M:=Nat.mod_lt _ (by lia)
  have e2:x % (2*M) % M=x % M:=Nat.mod_mod_of_dvd x ⟨2,Nat.mul_comm _ _⟩
  by_cases hl:x % (2*M)<M
  ·left;rw [<-e2,Nat.mod_eq_of_lt hl]
  ·right
   have e3:x % (2*M) % M=(x % (2*M)-M) % M:=Nat.mod_eq_sub_mod (by lia)
   have e4:(x % (2*M)-M) % M=x % (2*M)-M:=Nat.mod_eq_of_lt (by lia)
   rw [<-e2,e3,e4];lia
 have hb:=Nat.mod_lt b hM
 rw [Nat.add_mod,Nat.mod_eq_of_lt (show M<2*M by lia)]
 rcases key a with ha|ha <;> rcases key b with hb2|hb2
 ·lia
 ·rw [ha,Nat.mod_eq_of_lt (by lia)];lia
 ·rw [ha,hb2,show a % M+M+M=a % M+2*M by lia,Nat.add_mod_right,Nat.mod_eq_of_lt (by lia)];lia
 ·lia
theorem zts (k:Nat):∀x y:Nat,∃n,n<2 ^ k/\F n x % 2 ^ k=y % 2 ^ k:=by
 induction k with
 | zero=>intro x y;exact ⟨0,by decide,by simp [Nat.mod_one]⟩
 | succ k ih =>
  intro x y
  obtain ⟨n,hn,h⟩:=ih x y
  have e:2 ^ (k+1)=2*2 ^ k:=by rw [Nat.pow_succ,Nat.mul_comm]
  have hM:0<2 ^ k:=Nat.two_pow_pos k
  rw [e]
  by_cases h2:F n x % (2*2 ^ k)=y % (2*2 ^ k)
  ·exact ⟨n,by lia,h2⟩
  ·refine ⟨2 ^ k+n,by lia,?_⟩
   obtain ⟨u,hl⟩:=ztq k
   rw [zmt,hl]
   generalize F n x=z at h h2
   generalize 2 ^ k=M at *
   have e3:(4*(M*(2*u+1))+1)*z+M*(2*u+1)=z+M+2*M*(u+2*z*(2*u+1)):=by
    grind
   rw [e3,Nat.add_mul_mod_self_left]
   exact ztr hM h h2
noncomputable def adv (mask:Nat) (p:Probe):Probe :=
 if p.more > 0 then { p with j:=p.j+1,more:=p.more-1 } else
 let (i,perturb):=leap mask p.i p.perturb
 { p with j:=i,more:=runEnd mask i-i,i,perturb }
theorem ztt (t:SetTable) (p:Probe):t.advance p=adv t.mask p:=rfl
noncomputable def st0 (mask:Nat) (h:Int):Probe:={ j:=bits h % (mask+1),more:=runEnd mask (bits h % (mask+1))-bits h % (mask+1),i:=bits h % (mask+1),perturb:=bits h,dummy:=none }
noncomputable def pn (mask:Nat) (h:Int):Nat->Probe
 | 0=>st0 mask h
 | n+1=>adv mask (pn mask h n)
noncomputable def bl (mask:Nat) (h:Int):Nat->Nat × Nat
 | 0=>(bits h % (mask+1),bits h)
 | n+1=>leap mask (bl mask h n).1 (bl mask h n).2
noncomputable def ss (mask:Nat) (h:Int):Nat->Nat
 | 0=>0
 | n+1=>ss mask h n+(runEnd mask (bl mask h n).1-(bl mask h n).1)+1
noncomputable def blk (mask:Nat) (b:Nat × Nat):Probe:={ j:=b.1,more:=runEnd mask b.1-b.1,i:=b.1,perturb:=b.2,dummy:=none }
theorem zj7 {mask:Nat}{h:Int}{s:Nat}{b:Nat × Nat}(e:pn mask h s=blk mask b):∀d,d<=runEnd mask b.1-b.1->pn mask h (s+d)={ j:=b.1+d,more:=runEnd mask b.1-b.1-d,i:=b.1,perturb:=b.2,dummy:=none }
 | 0,_=>by rw [Nat.add_zero,e];rfl
 | d+1,hd=>by
  show adv mask (pn mask h (s+d))=_
  rw [zj7 e d (by lia)]
  unfold adv
  rw [if_pos (by show runEnd mask b.1-b.1-d > 0;lia)]
  simp only [Probe.mk.injEq,and_true]
  exact ⟨by lia,by lia⟩
theorem zj8 (mask:Nat) (h:Int):∀n,pn mask h (ss mask h n)=blk mask (bl mask h n)
 | 0=>rfl
 | n+1=>by
  have e:=zj7 (zj8 mask h n) (runEnd mask (bl mask h n).1-(bl mask h n).1) (qlr _)
  show adv mask (pn mask h (ss mask h n+(runEnd mask (bl mask h n).1-(bl mask h n).1)))=_
  rw [e]
  unfold adv
  rw [if_neg (by show ¬(runEnd mask (bl mask h n).1-(bl mask h n).1-(runEnd mask (bl mask h n).1-(bl mask h n).1)) > 0;lia)]
  rfl
theorem ztu (mask i:Nat):runEnd mask i-i<=9:=by unfold runEnd;split <;> lia
theorem zmu (mask:Nat) (h:Int):∀n,ss mask h n<=10*n
 | 0=>qlr _
 | n+1=>by have:=zmu mask h n;have:=ztu mask (bl mask h n).1;show ss mask h n+_+1<=_;lia
theorem zmv (mask:Nat) (h:Int):∀n,(bl mask h n).2=bits h / 32 ^ n
 | 0=>by show bits h=_;simp
 | n+1=>by show (bl mask h n).2 / 32=_;rw [zmv mask h n,Nat.div_div_eq_div_mul,Nat.pow_succ]
theorem ztv (h:Int):bits h<2 ^ 64:=by
 unfold bits
 have h1:=Int.emod_nonneg h (show (2 ^ 64:Int)≠0 by decide)
 have h2:=Int.emod_lt_of_pos h (show (0:Int)<2 ^ 64 by decide)
 lia
theorem ztw (mask:Nat) (h:Int) (n:Nat):(bl mask h (13+n)).2=0:=by
 rw [zmv]
 apply Nat.div_eq_of_lt
 have:=ztv h
 have e:2 ^ 65<=32 ^ (13+n):=by
  rw [Nat.pow_add,show (32:Nat) ^ 13=2 ^ 65 by decide]
  exact Nat.le_mul_of_pos_right _ (Nat.pow_pos (by decide))
 have:(2:Nat) ^ 64<2 ^ 65:=by decide
 lia
theorem zmw (mask:Nat) (h:Int):∀n,(bl mask h n).1<=mask
 | 0=>by have:=Nat.mod_lt (bits h) (show 0<mask+1 by lia);show bits h % (mask+1)<=mask;lia
 | n+1=>by have:=Nat.mod_lt ((bl mask h n).1*5+1+(bl mask h n).2 / 32) (show 0<mask+1 by lia);show ((bl mask h n).1*5+1+(bl mask h n).2 / 32) % (mask+1)<=mask;lia
theorem zmx (mask:Nat) (h:Int):∀n,(bl mask h (13+n)).1=F n (bl mask h 13).1 % (mask+1)
 | 0=>by have:=zmw mask h 13;exact (Nat.mod_eq_of_lt (by show (bl mask h 13).1<mask+1;lia)).symm
 | n+1=>by
  show ((bl mask h (13+n)).1*5+1+(bl mask h (13+n)).2 / 32) % (mask+1)=(5*F n _+1) % (mask+1)
  rw [zmx mask h n,ztw,Nat.zero_div,Nat.add_zero,Nat.mul_comm (F n _ % (mask+1)) 5]
  rw [Nat.add_mod,Nat.mul_mod,Nat.mod_mod,<-Nat.mul_mod,<-Nat.add_mod]
theorem ztx {mask k:Nat}(hk:mask+1=2 ^ k) (h:Int) {e:Nat}(he:e<=mask):∃n,n<mask+14/\(bl mask h n).1=e:=by
 obtain ⟨n,hn,hf⟩:=zts k (bl mask h 13).1 e
 refine ⟨13+n,by lia,?_⟩
 rw [zmx,hk,hf,<-hk]
 exact Nat.mod_eq_of_lt (by lia)
theorem zj9 {mask i:Nat}(h:i<=mask):runEnd mask i<=mask:=by unfold runEnd;split <;> lia
theorem zka (mask:Nat) (h:Int) (n:Nat):(pn mask h n).j<=mask/\(pn mask h n).j+(pn mask h n).more<=mask/\(pn mask h n).dummy=none:=by
 induction n with
 | zero =>
  have h1:bits h % (mask+1)<=mask:=by have:=Nat.mod_lt (bits h) (show 0<mask+1 by lia);lia
  have h2:=zj9 h1
  refine ⟨h1,?_,rfl⟩
  show bits h % (mask+1)+(runEnd mask (bits h % (mask+1))-bits h % (mask+1))<=mask
  lia
 | succ n ih =>
  obtain ⟨i1,i2,i3⟩:=ih
  show (adv mask (pn mask h n)).j<=mask/\(adv mask (pn mask h n)).j+(adv mask (pn mask h n)).more<=mask/\(adv mask (pn mask h n)).dummy=none
  unfold adv
  by_cases hm:(pn mask h n).more > 0
  ·rw [if_pos hm]
   exact ⟨by show (pn mask h n).j+1<=mask;lia,by show (pn mask h n).j+1+((pn mask h n).more-1)<=mask;lia,i3⟩
  ·rw [if_neg hm]
   have h1:(leap mask (pn mask h n).i (pn mask h n).perturb).1<=mask:=by
    have:=Nat.mod_lt ((pn mask h n).i*5+1+(pn mask h n).perturb / 32) (show 0<mask+1 by lia)
    show ((pn mask h n).i*5+1+(pn mask h n).perturb / 32) % (mask+1)<=mask
    lia
   have h2:=zj9 h1
   exact ⟨h1,by show (leap mask (pn mask h n).i (pn mask h n).perturb).1+(runEnd mask (leap mask (pn mask h n).i (pn mask h n).perturb).1-(leap mask (pn mask h n).i (pn mask h n).perturb).1)<=mask;lia,i3⟩
def Ris (xs:Array Nat):Prop:=∀i j,i<j->j<xs.size->xs.getD i 0<xs.getD j 0
theorem zty {xs:Array Nat}{i:Nat}(h:i<xs.size) (d e:Nat):xs.getD i d=xs.getD i e:=by simp [Array.getD,h]
theorem zkb {xs:Array Nat}{i:Nat}(h:i<xs.size) (d:Nat):xs[i]? = some (xs.getD i d):=by simp [Array.getD,h]
theorem zg4 {xs:Array Nat}{i j:Nat}(h:xs[i]? = some j) (d:Nat):i<xs.size/\xs.getD i d=j:=by
 obtain ⟨h1,h2⟩:=Array.getElem?_eq_some_iff.mp h
 exact ⟨h1,by simp [Array.getD,h1,h2]⟩
theorem ztz {xs:Array Nat}(hr:Ris xs) (j:Nat):∀(fuel lo hi:Nat),lo<=hi->hi<=xs.size->hi-lo<=fuel->(∀i,i<lo->xs.getD i 0<j)->(∀i,hi<=i->i<xs.size->j<=xs.getD i 0) ->
  below.go xs j fuel lo hi<=xs.size/\(∀i,i<below.go xs j fuel lo hi->xs.getD i 0<j)/\∀i,below.go xs j fuel lo hi<=i->i<xs.size->j<=xs.getD i 0:=by
 intro fuel
 induction fuel with
 | zero =>
  intro lo hi h1 h2 h3 h4 h5
  have e:lo=hi:=by lia
  subst e
  exact ⟨h2,h4,h5⟩
 | succ fuel ih =>
  intro lo hi h1 h2 h3 h4 h5
  unfold below.go
  by_cases hl:lo<hi
  ·rw [if_pos hl]
   dsimp only
   have hm1:(lo+hi) / 2<hi:=by lia
   have hm2:lo<=(lo+hi) / 2:=by lia
   have hms:(lo+hi) / 2<xs.size:=by lia
   rw [zty hms j 0]
   by_cases hx:xs.getD ((lo+hi) / 2) 0<j
   ·rw [if_pos hx]
    refine ih _ _ (by lia) h2 (by lia) (λi hi'=>?_) h5
    by_cases e:i=(lo+hi) / 2
    ·rw [e];exact hx
    ·exact Nat.lt_trans (hr i _ (by lia) hms) hx
   ·rw [if_neg hx]
    refine ih _ _ hm2 (by lia) (by lia) h4 λi hi1 hi2=>?_
    by_cases e:i=(lo+hi) / 2
    ·rw [e];lia
    ·have:=hr ((lo+hi) / 2) i (by lia) hi2
     lia
  ·rw [if_neg hl]
   have e:lo=hi:=by lia
   subst e
   exact ⟨h2,h4,h5⟩
theorem zfy (hr:Ris xs) (j:Nat):below xs j<=xs.size/\(∀i,i<below xs j->xs.getD i 0<j)/\∀i,below xs j<=i->i<xs.size->j<=xs.getD i 0 :=
 ztz hr j xs.size 0 xs.size (Nat.zero_le _) (qlr _) (by lia) (λi h=>absurd h (Nat.not_lt_zero _)) λi h1 h2=>by lia
theorem zkc {xs:Array Nat}(hr:Ris xs) {i j:Nat}(h:xs[i]? = some j):below xs j=i:=by
 obtain ⟨h1,h2⟩:=zg4 h 0
 obtain ⟨b1,b2,b3⟩:=zfy hr j
 rcases Nat.lt_trichotomy (below xs j) i with hl|hl|hl
 ·have:=b3 (below xs j) (qlr _) (by lia)
  have:=hr _ _ hl h1
  lia
 ·exact hl
 ·have:=b2 i hl
  lia
theorem zt0 {t:SetTable}(hr:Ris t.place) {i j:Nat}(h:t.place[i]? = some j):t.slot j=.live i:=by
 unfold slot
 dsimp only
 rw [zkc hr h,if_pos (by rw [h];simp)]
theorem zt1 {t:SetTable}(hd:t.dummies = #[]) {j:Nat}(h:∀i:Nat,t.place[i]?≠some j):t.slot j=.empty:=by
 unfold slot
 dsimp only
 rw [if_neg (by intro z;exact h _ (by simpa using z)),if_neg (by rw [hd];simp [has])]
def In (t:SetTable) (j:Nat):Prop:=∃i:Nat,t.place[i]? = some j
structure TOk (t:SetTable) (es:Array (Int × Value)):Prop where
 dm:t.dummies = #[]
 sz:t.place.size=es.size
 pw:∃k,t.mask+1=2 ^ k/\3<=k
 ris:Ris t.place
 le:∀j,In t j->j<=t.mask
 ro:es.size*5<t.mask*3
 sm:t.mask<8192
 pr:∀(i:Nat) (h:Int) (v:Value),es[i]? = some (h,v)->∃n,t.place[i]? = some (pn t.mask h n).j/\∀m,m<n->In t (pn t.mask h m).j
theorem TOk.fits (k:TOk t es):t.fits es.size=true:=by
 unfold SetTable.fits SetTable.fill
 rw [k.dm,k.sz]
 have:=k.ro
 simp
 lia
theorem pigeon:∀(n:Nat) (f:Nat->Option Nat) ,(∀j,j<n+1->∃i,f j=some i/\i<n)->(∀j j' i,j<n+1->j' < n+1->f j=some i->f j' = some i->j=j')->False
 | 0,f,h,_=>by obtain ⟨i,_,hi⟩:=h 0 (by lia);lia
 | n+1,f,h,inj=>by
  obtain ⟨a,ha,hal⟩:=h (n+1) (by lia)
  refine pigeon n (λj=>(f j).map λi=>if i=n then a else i) (λj hj=>?_) λj j' i l1 l2 h1 h2=>?_
  ·obtain ⟨i,hi,hil⟩:=h j (by lia)
   refine ⟨if i=n then a else i,by simp [hi],?_⟩
   split
   ·rename_i e
    rcases Nat.lt_or_ge a n with h' | h'
    ·exact h'
    ·have:a=n:=by lia
     have:=inj (n+1) j n (by lia) (by lia) (by rw [ha,this]) (by rw [hi,e])
     lia
   ·lia
  ·cases e1:f j with
   | none=>rw [e1] at h1;cases h1
   | some i1 =>
    cases e2:f j' with
    | none=>rw [e2] at h2;cases h2
    | some i2 =>
     rw [e1] at h1;rw [e2] at h2
     have h1:(if i1=n then a else i1)=i:=by simpa using h1
     have h2:(if i2=n then a else i2)=i:=by simpa using h2
     by_cases c1:i1=n <;> by_cases c2:i2=n
     ·exact inj j j' n (by lia) (by lia) (by rw [e1,c1]) (by rw [e2,c2])
     ·rw [if_pos c1] at h1;rw [if_neg c2] at h2
      have:=inj (n+1) j' i (by lia) (by lia) (by rw [ha,h1]) (by rw [e2,h2])
      lia
     ·rw [if_neg c1] at h1;rw [if_pos c2] at h2
      have:=inj (n+1) j i (by lia) (by lia) (by rw [ha,h2]) (by rw [e1,h1])
      lia
     ·rw [if_neg c1] at h1;rw [if_neg c2] at h2
      exact inj j j' i (by lia) (by lia) (by rw [e1,h1]) (by rw [e2,h2])
theorem zmy {mask k:Nat}(hk:mask+1=2 ^ k) (h:Int) (P:Nat->Prop) [DecidablePred P] {e:Nat}(he:e<=mask) (hP:¬P e) :
  ∃N b,N<=ss mask h b/\b<mask+14/\¬P (pn mask h N).j/\∀m,m<N->P (pn mask h m).j:=by
 obtain ⟨b,hb,hbe⟩:=ztx hk h he
 have h0:¬P (pn mask h (ss mask h b)).j:=by rw [zj8];show ¬P (bl mask h b).1;rw [hbe];exact hP
 have least:∀n,¬P (pn mask h n).j->∃N,N<=n/\¬P (pn mask h N).j/\∀m,m<N->P (pn mask h m).j:=by
  intro n
  induction n using Nat.strongRecOn with
  | _ n ih =>
   intro hn
   by_cases c:∃m,m<n/\¬P (pn mask h m).j
   ·obtain ⟨m,hm,hp⟩:=c
    obtain ⟨N,h1,h2⟩:=ih m hm hp
    exact ⟨N,by lia,h2⟩
   ·exact ⟨n,qlr _,hn,λm hm=>Decidable.byContradiction λz=>c ⟨m,hm,z⟩⟩
 obtain ⟨N,h1,h2,h3⟩:=least _ h0
 exact ⟨N,b,h1,hb,h2,h3⟩
open Classical in
theorem TOk.empty {t:SetTable}{es:Array (Int × Value)}(k:TOk t es) (h:Int):∃N,N<10*(t.mask+14)/\¬In t (pn t.mask h N).j/\∀m,m<N->In t (pn t.mask h m).j:=by
 obtain ⟨n,h1,h2⟩:=k.pw
 have ex:∃e,e<=t.mask/\¬In t e:=by
  refine Classical.byContradiction λhc=>?_
  have all:∀e,e<=t.mask->In t e:=λe he=>Classical.byContradiction λz=>hc ⟨e,he,z⟩
  refine pigeon t.mask (λj=>if hj:In t j then some hj.choose else none) (λj hj=>?_) λj j' i _ _ e1 e2=>?_
  ·have hi:=all j (by lia)
   refine ⟨hi.choose,dif_pos hi,?_⟩
   have:=(zg4 hi.choose_spec 0).1
   have:=k.sz;have:=k.ro
   lia
  ·split at e1
   ·rename_i hj
    split at e2
    ·rename_i hj'
     have q1:=hj.choose_spec
     have q2:=hj'.choose_spec
     rw [qoi e1] at q1
     rw [qoi e2] at q2
     rw [q1] at q2
     exact qoi q2
    ·cases e2
   ·cases e1
 obtain ⟨e,he,hne⟩:=ex
 obtain ⟨N,b,h3,h4,h5,h6⟩:=zmy h1 h (In t) he hne
 have:=zmu t.mask h b
 exact ⟨N,by lia,h5,h6⟩
theorem zt2 (k:TOk t es) (h:Int) (hN:¬In t (pn t.mask h N).j) (hl:∀m,m<N->In t (pn t.mask h m).j) (ha:Nat->Int) :
  ∀(fuel m:Nat),m<=N->N-m<fuel ->
   (∃m' i,m<=m'/\m' < N/\t.place[i]? = some (pn t.mask h m').j/\ha i=h/\(∀m'' i',m<=m''->m'' < m'->t.place[i']? = some (pn t.mask h m'').j->ha i'≠h) /\
    probe.go t ha h fuel (pn t.mask h m)=some (.candidate (pn t.mask h m').j i (pn t.mask h (m' + 1)))) \/
   ((∀m'' i',m<=m''->m'' < N->t.place[i']? = some (pn t.mask h m'').j->ha i'≠h)/\probe.go t ha h fuel (pn t.mask h m)=some (.empty (pn t.mask h N).j none)):=by
 intro fuel
 induction fuel with
 | zero=>intro m h1 h2;lia
 | succ fuel ih =>
  intro m h1 h2
  unfold probe.go
  rcases Nat.lt_or_ge m N with hm|hm
  ·obtain ⟨i,hi⟩:=hl m hm
   rw [zt0 k.ris hi]
   dsimp only
   by_cases e:ha i=h
   ·rw [if_pos (by simpa using e)]
    exact .inl ⟨m,i,qlr _,hm,hi,e,λm'' i' q1 q2=>by lia,rfl⟩
   ·rw [if_neg (by simpa using e),ztt]
    show _\/(_/\probe.go t ha h fuel (pn t.mask h (m+1))=_)
    have here:∀i',t.place[i']? = some (pn t.mask h m).j->ha i'≠h:=λi' hi'=>by
     have e1:=zkc k.ris hi
     have e2:=zkc k.ris hi'
     rw [e1] at e2
     rw [<-e2];exact e
    rcases ih (m+1) hm (by lia) with ⟨m',i',q1,q2,q3,q4,q5,q6⟩|⟨q1,q2⟩
    ·refine .inl ⟨m',i',by lia,q2,q3,q4,λm'' i'' r1 r2 r3=>?_,q6⟩
     by_cases c:m'' = m
     ·subst c;exact here i'' r3
     ·exact q5 m'' i'' (by lia) r2 r3
    ·refine .inr ⟨λm'' i'' r1 r2 r3=>?_,q2⟩
     by_cases c:m'' = m
     ·subst c;exact here i'' r3
     ·exact q1 m'' i'' (by lia) r2 r3
  ·have e:m=N:=by lia
   subst e
   rw [zt1 k.dm λi hi=>hN ⟨i,hi⟩]
   exact .inr ⟨λm'' i' q1 q2=>by lia,by rw [(zka t.mask h m).2.2]⟩
theorem zfa {α:Type}{xs:Array α}{p:Nat}{x:α}(hp:p<=xs.size) (i:Nat):(insertAt xs p x)[i]? = if i<p then xs[i]? else if i=p then some x else xs[i-1]?:=by
 rw [<-Array.getElem?_toList,toList_insertAt]
 have hl:(xs.toList.take p).length=p:=by rw [List.length_take,Array.length_toList];lia
 by_cases h1:i<p
 ·rw [if_pos h1,List.getElem?_append_left (by lia),List.getElem?_take_of_lt h1,Array.getElem?_toList]
 ·rw [if_neg h1,List.getElem?_append_right (by lia),hl]
  by_cases h2:i=p
  ·rw [if_pos h2,h2,Nat.sub_self];rfl
  ·rw [if_neg h2,show i-p=(i-p-1)+1 by lia,List.getElem?_cons_succ,List.getElem?_drop,Array.getElem?_toList]
   congr 1;lia
theorem zdl {α:Type}{xs:Array α}{p:Nat}{x:α}:(insertAt xs p x).size=xs.size+1:=by
 rw [<-Array.length_toList,(insertAt_perm xs p x).length_eq];simp
theorem zt3 (j:Nat):has #[] j=false:=by simp [has]
theorem zfz {t:SetTable}(hd:t.dummies = #[]) (j:Nat):t.put j=({ t with place:=insertAt t.place (below t.place j) j },below t.place j):=by
 unfold put
 rw [hd,zt3]
 cases t
 simp only at hd
 subst hd
 rfl
theorem zt4 {t:SetTable}(hr:Ris t.place) (j:Nat) (x:Nat):In { t with place:=insertAt t.place (below t.place j) j } x↔x=j\/In t x:=by
 have hb:=(zfy hr j).1
 constructor
 ·rintro ⟨i,hi⟩
  have hi:(insertAt t.place (below t.place j) j)[i]? = some x:=hi
  rw [zfa hb] at hi
  split at hi
  ·exact .inr ⟨i,hi⟩
  ·split at hi
   ·exact .inl (qoi hi).symm
   ·exact .inr ⟨_,hi⟩
 ·rintro (rfl|⟨i,hi⟩)
  ·refine ⟨below t.place x,?_⟩
   show (insertAt t.place (below t.place x) x)[_]? = some x
   rw [zfa hb,if_neg (Nat.lt_irrefl _),if_pos rfl]
  ·by_cases c:i<below t.place j
   ·exact ⟨i,by show (insertAt t.place (below t.place j) j)[i]? = some x;rw [zfa hb,if_pos c];exact hi⟩
   ·exact ⟨i+1,by show (insertAt t.place (below t.place j) j)[i+1]? = some x;rw [zfa hb,if_neg (by lia),if_neg (by lia)];exact hi⟩
theorem zt5 {xs:Array Nat}(hr:Ris xs) {j:Nat}(hj:∀i:Nat,xs[i]?≠some j):Ris (insertAt xs (below xs j) j):=by
 obtain ⟨b1,b2,b3⟩:=zfy hr j
 have b4:∀i,below xs j<=i->i<xs.size->j<xs.getD i 0:=λi h1 h2=>by
  have:=b3 i h1 h2
  have:xs.getD i 0≠j:=λe=>hj i (by rw [zkb h2 0,e])
  lia
 have g:∀i,i<(insertAt xs (below xs j) j).size->(insertAt xs (below xs j) j).getD i 0=if i<below xs j then xs.getD i 0 else if i=below xs j then j else xs.getD (i-1) 0:=λi hi=>by
  have q:=zfa (x:=j) b1 i
  rw [zkb hi 0] at q
  rw [zdl] at hi
  split at q
  ·rename_i c;rw [if_pos c];exact ((zg4 q.symm 0).2).symm
  ·rename_i c
   rw [if_neg c]
   split at q
   ·rename_i c2;rw [if_pos c2];exact qoi q
   ·rename_i c2;rw [if_neg c2];exact ((zg4 q.symm 0).2).symm
 intro a b hab hb
 rw [g a (by lia),g b hb]
 rw [zdl] at hb
 by_cases c1:a<below xs j
 ·rw [if_pos c1]
  by_cases c2:b<below xs j
  ·rw [if_pos c2];exact hr a b hab (by lia)
  ·rw [if_neg c2]
   have:=b2 a c1
   by_cases c3:b=below xs j
   ·rw [if_pos c3];exact this
   ·rw [if_neg c3]
    have:=b4 (b-1) (by lia) (by lia)
    lia
 ·rw [if_neg c1,if_neg (show ¬b<below xs j by lia),if_neg (show ¬b=below xs j by lia)]
  by_cases c3:a=below xs j
  ·rw [if_pos c3];exact b4 (b-1) (by lia) (by lia)
  ·rw [if_neg c3];exact hr (a-1) (b-1) (by lia) (by lia)
theorem TOk.put {t:SetTable}{es:Array (Int × Value)}(k:TOk t es) {h:Int}{x:Value}{N:Nat}(hN:¬In t (pn t.mask h N).j) (hl:∀m,m<N->In t (pn t.mask h m).j) (hro:(es.size+1)*5<t.mask*3) :
  TOk (t.put (pn t.mask h N).j).1 (insertAt es (t.put (pn t.mask h N).j).2 (h,x)):=by
 rw [zfz k.dm]
 have hb:=(zfy k.ris (pn t.mask h N).j).1
 have hbe:=hb
 rw [k.sz] at hbe
 have inn:=zt4 k.ris (pn t.mask h N).j
 refine ⟨k.dm,?_,k.pw,zt5 k.ris λi hi=>hN ⟨i,hi⟩,λj hj=>?_,?_,k.sm,λi h' v hi=>?_⟩
 ·show (insertAt t.place _ _).size=(insertAt es _ _).size
  rw [zdl,zdl,k.sz]
 ·rcases (inn j).mp hj with rfl|hj
  ·exact (zka _ _ _).1
  ·exact k.le j hj
 ·rw [zdl];exact hro
 ·rw [zfa hbe] at hi
  show ∃n,(insertAt t.place (below t.place (pn t.mask h N).j) (pn t.mask h N).j)[i]? = some (pn t.mask h' n).j/\_
  rw [zfa hb]
  have up:∀n,(∀m,m<n->In t (pn t.mask h' m).j)->∀m,m<n->In { t with place:=insertAt t.place (below t.place (pn t.mask h N).j) (pn t.mask h N).j } (pn t.mask h' m).j:=λn q m hm=>(inn _).mpr (.inr (q m hm))
  split at hi
  ·rename_i c
   rw [if_pos c]
   obtain ⟨n,e1,e2⟩:=k.pr i h' v hi
   exact ⟨n,e1,up n e2⟩
  ·rename_i c
   rw [if_neg c]
   split at hi
   ·rename_i c2
    rw [if_pos c2]
    cases hi
    exact ⟨N,rfl,up N hl⟩
   ·rename_i c2
    rw [if_neg c2]
    obtain ⟨n,e1,e2⟩:=k.pr _ h' v hi
    exact ⟨n,e1,up n e2⟩
theorem zt6 (n:Nat):∀(fuel k:Nat),n<2 ^ (k+fuel)->∃k',k<=k'/\sizeAbove.go n fuel (2 ^ k)=2 ^ k'/\n<2 ^ k'/\(k' = k\/2 ^ k'<=2*n):=by
 intro fuel
 induction fuel with
 | zero=>intro k h;exact ⟨k,qlr _,rfl,h,.inl rfl⟩
 | succ fuel ih =>
  intro k h
  unfold sizeAbove.go
  by_cases c:2 ^ k<=n
  ·rw [if_pos c,<-Nat.pow_succ]
   obtain ⟨k',h1,h2,h3,h4⟩:=ih (k+1) (by rw [show k+1+fuel=k+(fuel+1) by lia];exact h)
   refine ⟨k',by lia,h2,h3,.inr ?_⟩
   rcases h4 with rfl|h4
   ·rw [Nat.pow_succ];lia
   ·exact h4
  ·rw [if_neg c]
   exact ⟨k,qlr _,rfl,by lia,.inl rfl⟩
theorem zmz {n:Nat}(h:n<=4000):∃k,3<=k/\sizeAbove n=2 ^ k/\n<2 ^ k/\2 ^ k<=8000:=by
 obtain ⟨k',h1,h2,h3,h4⟩:=zt6 n 64 3 (Nat.lt_of_le_of_lt h (by decide))
 refine ⟨k',h1,h2,h3,?_⟩
 rcases h4 with rfl|h4
 ·decide
 ·lia
def Occ (ow:Array (Option Nat)) (j:Nat):Prop:=∃i,ow[j]? = some (some i)
instance (ow:Array (Option Nat)):DecidablePred (Occ ow):=λj=>match h:ow[j]? with
 | some (some i)=>.isTrue ⟨i,h⟩
 | some none=>.isFalse λhx1_=>by obtain ⟨i,z⟩:=hx1_;rw [h] at z;cases z
 | none=>.isFalse λhx2_=>by obtain ⟨i,z⟩:=hx2_;rw [h] at z;cases z
theorem zkd {ow:Array (Option Nat)}{j:Nat}(hj:j<ow.size):(ow.getD j (some 0)).isNone = !decide (Occ ow j):=by
 have e:ow[j]? = some ow[j]:=Array.getElem?_eq_getElem hj
 have e2:ow.getD j (some 0)=ow[j]:=by simp [Array.getD,hj]
 rw [e2]
 cases c:ow[j] with
 | none =>
  rw [decide_eq_false (λhx3_=>by obtain ⟨i,z⟩:=hx3_;rw [e,c] at z;cases z)];rfl
 | some i =>
  rw [decide_eq_true (show Occ ow j from ⟨i,by rw [e,c]⟩)];rfl
theorem zt7 {P:Nat->Bool}:∀(n d:Nat),d<n->P d=true->(∀k,k<d->P k=false)->(List.range n).find? P=some d:=by
 intro n d hd hp hb
 rw [List.find?_range_eq_some]
 exact ⟨hp,by simpa using hd,λj hj=>by simpa using hb j hj⟩
theorem zt8 {mask:Nat}{h:Int}{ow:Array (Option Nat)}(hs:ow.size=mask+1) {N b:Nat}(hN:¬Occ ow (pn mask h N).j) (hl:∀m,m<N->Occ ow (pn mask h m).j) (hb:N<=ss mask h b) :
  ∀(fuel n:Nat),n<=b->b-n<fuel->ss mask h n<=N->layClean.free mask ow fuel (bl mask h n).1 (bl mask h n).2=some (pn mask h N).j:=by
 intro fuel
 induction fuel with
 | zero=>intro n h1 h2;lia
 | succ fuel ih =>
  intro n h1 h2 h3
  have hil:=zmw mask h n
  have hre:(bl mask h n).1<=runEnd mask (bl mask h n).1:=by unfold runEnd;split <;> lia
  have hrm:=zj9 hil
  have at':∀d,d<=runEnd mask (bl mask h n).1-(bl mask h n).1->(pn mask h (ss mask h n+d)).j=(bl mask h n).1+d:=λd hd=>by rw [zj7 (zj8 mask h n) d hd]
  unfold layClean.free
  by_cases c:N-ss mask h n<=runEnd mask (bl mask h n).1-(bl mask h n).1
  ·have e:=at' _ c
   rw [show ss mask h n+(N-ss mask h n)=N by lia] at e
   rw [zt7 _ (N-ss mask h n) (by lia) (by rw [zkd (by lia),<-e,decide_eq_false hN];rfl) λk hk=>by
    rw [zkd (by lia),<-at' k (by lia),decide_eq_true (hl _ (by lia))];rfl]
   rw [e]
  ·have hn:(List.range (runEnd mask (bl mask h n).1+1-(bl mask h n).1)).find? (λk=>(ow.getD ((bl mask h n).1+k) (some 0)).isNone)=none:=by
    rw [List.find?_eq_none]
    intro k hk
    have hk:=List.mem_range.mp hk
    rw [zkd (by lia),<-at' k (by lia),decide_eq_true (hl _ (by lia))]
    simp
   rw [hn]
   show layClean.free mask ow fuel (bl mask h (n+1)).1 (bl mask h (n+1)).2=_
   have hnb:n≠b:=λe=>by subst e;lia
   exact ih (n+1) (by lia) (by lia) (by show ss mask h n+_+1<=N;lia)
structure Own (mask:Nat) (ow:Array (Option Nat)) (hs:List Int):Prop where
 size:ow.size=mask+1
 pr:∀(j i:Nat),ow[j]? = some (some i)->∃h,hs[i]? = some h/\∃n,(pn mask h n).j=j/\∀m,m<n->Occ ow (pn mask h m).j
 all:∀i,i<hs.length->∃j:Nat,ow[j]? = some (some i)
 inj:∀(j j' i:Nat),ow[j]? = some (some i)->ow[j']? = some (some i)->j=j'
theorem zf0 {ow:Array (Option Nat)}{j i:Nat}{x:Option Nat}(hj:j<ow.size):(ow.setIfInBounds j x)[i]? = if i=j then some x else ow[i]?:=by
 rw [Array.getElem?_setIfInBounds]
 by_cases c:j=i
 ·subst c;simp [hj]
 ·rw [if_neg c,if_neg (λe=>c e.symm)]
theorem Own.step {mask k:Nat}(hk:mask+1=2 ^ k) {ow:Array (Option Nat)}{hs:List Int}(o:Own mask ow hs) (h:Int) (hl:hs.length<mask+1) :
  ∃j,layClean.free mask ow (turns mask) (bits h % (mask+1)) (bits h)=some j/\Own mask (ow.setIfInBounds j (some hs.length)) (hs++[h]):=by
 have ex:∃e,e<=mask/\¬Occ ow e:=by
  refine Decidable.byContradiction λhc=>?_
  have all:∀e,e<=mask->Occ ow e:=λe he=>Decidable.byContradiction λz=>hc ⟨e,he,z⟩
  refine pigeon mask (λj=>(ow[j]?).join) (λj hj=>?_) λj j' i l1 l2 e1 e2=>?_
  ·obtain ⟨i,hi⟩:=all j (by lia)
   obtain ⟨h',e1,_⟩:=o.pr j i hi
   have:=(qme e1).1
   exact ⟨i,by rw [hi];rfl,by lia⟩
  ·obtain ⟨i1,q1⟩:=all j (by lia)
   obtain ⟨i2,q2⟩:=all j' (by lia)
   rw [q1] at e1;rw [q2] at e2
   cases e1;cases e2
   exact o.inj j j' i q1 q2
 obtain ⟨e,he,hne⟩:=ex
 obtain ⟨N,b,h3,h4,h5,h6⟩:=zmy hk h (Occ ow) he hne
 have hj:=(zka mask h N).1
 have hjs:(pn mask h N).j<ow.size:=by rw [o.size];lia
 refine ⟨(pn mask h N).j,zt8 o.size h5 h6 h3 _ 0 (Nat.zero_le _) (by unfold turns;lia) (Nat.zero_le _),?_⟩
 have up:∀x,Occ ow x->Occ (ow.setIfInBounds (pn mask h N).j (some hs.length)) x:=λx hx4_=>by
  obtain ⟨i,hi⟩:=hx4_
  by_cases c:x=(pn mask h N).j
  ·exact ⟨hs.length,by rw [zf0 hjs,if_pos c]⟩
  ·exact ⟨i,by rw [zf0 hjs,if_neg c];exact hi⟩
 refine ⟨by simp [o.size],λj i hi=>?_,λi hi=>?_,λj j' i q1 q2=>?_⟩
 ·rw [zf0 hjs] at hi
  split at hi
  ·rename_i c
   cases hi
   exact ⟨h,by simp,N,c.symm,λm hm=>up _ (h6 m hm)⟩
  ·obtain ⟨h',e1,n,e2,e3⟩:=o.pr j i hi
   refine ⟨h',?_,n,e2,λm hm=>up _ (e3 m hm)⟩
   rw [List.getElem?_append_left (qme e1).1];exact e1
 ·rw [qla,List.length_singleton] at hi
  by_cases c:i=hs.length
  ·exact ⟨(pn mask h N).j,by rw [zf0 hjs,if_pos rfl,c]⟩
  ·obtain ⟨j,hj⟩:=o.all i (by lia)
   refine ⟨j,?_⟩
   rw [zf0 hjs,if_neg (λ(e:j=(pn mask h N).j)=>h5 (by rw [<-e];exact ⟨i,hj⟩))];exact hj
 ·rw [zf0 hjs] at q1 q2
  have lt:∀x,ow[x]? = some (some i)->i<hs.length:=λx hx=>let ⟨_,e,_⟩:=o.pr x i hx;(qme e).1
  split at q1
  ·rename_i c1
   split at q2
   ·rename_i c2;rw [c1,c2]
   ·cases q1;have:=lt _ q2;lia
  ·split at q2
   ·cases q2;have:=lt _ q1;lia
   ·exact o.inj j j' i q1 q2
noncomputable def zg5 (mask:Nat) (acc:Option (Array (Option Nat) × Nat)) (h:Int):Option (Array (Option Nat) × Nat):=do
 let (owner,k) <-acc
 let j <-layClean.free mask owner (turns mask) (bits h % (mask+1)) (bits h)
 pure (owner.setIfInBounds j (some k),k+1)
theorem zt9 (mask:Nat) (hashes:Array Int):layClean mask hashes=(hashes.toList.foldl (zg5 mask) (some (Array.replicate (mask+1) none,0))).map (·.1):=by
 unfold layClean
 rw [<-Array.foldl_toList]
 rfl
theorem zm0 {mask k:Nat}(hk:mask+1=2 ^ k):∀(rest done:List Int) (ow:Array (Option Nat)),Own mask ow done->done.length+rest.length<mask+1 ->
  ∃ow',rest.foldl (zg5 mask) (some (ow,done.length))=some (ow',done.length+rest.length)/\Own mask ow' (done++rest)
 | [],done,ow,o,_=>⟨ow,rfl,by rw [List.append_nil];exact o⟩
 | h :: rest,done,ow,o,hl=>by
  rw [List.length_cons] at hl
  obtain ⟨j,hj,o'⟩:=o.step hk h (by lia)
  have e:zg5 mask (some (ow,done.length)) h=some (ow.setIfInBounds j (some done.length),(done++[h]).length):=by
   unfold zg5
   simp only [Option.bind_eq_bind,Option.bind_some,hj]
   simp
  obtain ⟨ow',h1,h2⟩:=zm0 hk rest (done++[h]) _ o' (by simp;lia)
  refine ⟨ow',?_,by simpa using h2⟩
  rw [List.foldl_cons,e,h1]
  simp;lia
theorem zua (mask:Nat):Own mask (Array.replicate (mask+1) none) []:=by
 have no:∀(j i:Nat),(Array.replicate (mask+1) (none:Option Nat))[j]?≠some (some i):=λj i h=>by
  rw [Array.getElem?_replicate] at h
  split at h <;> cases h
 exact ⟨by simp,λj i h=>absurd h (no j i),λi h=>absurd h (Nat.not_lt_zero _),λj j' i h _=>absurd h (no j i)⟩
theorem zm1 {mask k:Nat}(hk:mask+1=2 ^ k) (hashes:Array Int) (hl:hashes.size<mask+1):∃ow,layClean mask hashes=some ow/\Own mask ow hashes.toList:=by
 obtain ⟨ow,h1,h2⟩:=zm0 hk hashes.toList [] _ (zua mask) (by simpa using hl)
 refine ⟨ow,?_,by simpa using h2⟩
 rw [zt9]
 have h1:List.foldl (zg5 mask) (some (Array.replicate (mask+1) none,0)) hashes.toList=_:=h1
 rw [h1];rfl
noncomputable def lv (mask:Nat) (ow:Array (Option Nat)):List (Nat × Nat):=(List.range (mask+1)).filterMap λj=>(ow.getD j none).map (j,·)
theorem zm2 {mask:Nat}{ow:Array (Option Nat)}{hs:List Int}(o:Own mask ow hs) (p:Nat × Nat):p∈lv mask ow↔ow[p.1]? = some (some p.2):=by
 unfold lv
 rw [List.mem_filterMap]
 constructor
 ·rintro ⟨j,hj,e⟩
  have hj:=List.mem_range.mp hj
  have hjs:j<ow.size:=by rw [o.size];exact hj
  have e2:ow.getD j none=ow[j]:=by simp [Array.getD,hjs]
  rw [e2] at e
  cases c:ow[j] with
  | none=>rw [c] at e;cases e
  | some i =>
   rw [c] at e
   cases e
   show ow[j]? = some (some i)
   rw [Array.getElem?_eq_getElem hjs,c]
 ·intro h
  obtain ⟨hjs,e⟩:=Array.getElem?_eq_some_iff.mp h
  refine ⟨p.1,List.mem_range.mpr (by rw [<-o.size];exact hjs),?_⟩
  have e2:ow.getD p.1 none=ow[p.1]:=by simp [Array.getD,hjs]
  rw [e2,e];rfl
theorem zm3 {f:Nat->Option (Nat × Nat)}(hf:∀j p,f j=some p->p.1=j):∀(n s:Nat),((List.range' s n).filterMap f).Pairwise (λp q=>p.1<q.1)/\∀p∈(List.range' s n).filterMap f,s<=p.1
 | 0,s=>⟨.nil,λp hp=>by simp at hp⟩
 | n+1,s=>by
  obtain ⟨h1,h2⟩:=zm3 hf n (s+1)
  rw [List.range'_succ]
  cases e:f s with
  | none=>rw [List.filterMap_cons_none e];exact ⟨h1,λp hp=>by have:=h2 p hp;lia⟩
  | some q =>
   rw [List.filterMap_cons_some e]
   have hq:=hf s q e
   refine ⟨List.pairwise_cons.mpr ⟨λp hp=>by have:=h2 p hp;lia,h1⟩,λp hp=>?_⟩
   rcases List.mem_cons.mp hp with rfl|hp
   ·lia
   ·have:=h2 p hp;lia
theorem zm4 (mask:Nat) (ow:Array (Option Nat)):(lv mask ow).Pairwise λp q=>p.1<q.1:=by
 unfold lv
 rw [List.range_eq_range']
 refine (zm3 (λj p e=>?_) _ _).1
 cases c:ow.getD j none with
 | none=>rw [c] at e;cases e
 | some i=>rw [c] at e;cases e;rfl
theorem nodup_len:∀(l:List (Nat × Nat)) (n:Nat),(∀(a b:Nat) p q,l[a]? = some p->l[b]? = some q->p.2=q.2->a=b)->(∀p∈l,p.2<n)->(∀i,i<n->∃p∈l,p.2=i)->l.length=n:=by
 intro l n inj lt all
 rcases Nat.lt_trichotomy l.length n with h|h|h
 ·exfalso
  have key:∀i,i<n->∃a:Nat,∃p,l[a]? = some p/\p.2=i:=λi hi=>by
   obtain ⟨p,hp,e⟩:=all i hi
   obtain ⟨a,ha⟩:=List.mem_iff_getElem?.mp hp
   exact ⟨a,p,ha,e⟩
  obtain ⟨f,hf⟩:∃f:Nat->Nat,∀i,i<n->∃p,l[f i]? = some p/\p.2=i:=⟨λi=>if hi:i<n then (key i hi).choose else 0,λi hi=>by dsimp only;rw [dif_pos hi];exact (key i hi).choose_spec⟩
  refine pigeon l.length (λi=>some (f i)) (λi hi=>⟨f i,rfl,?_⟩) λi j a l1 l2 e1 e2=>?_
  ·obtain ⟨p,hp,_⟩:=hf i (by lia)
   exact (qme hp).1
  ·obtain ⟨p,hp,hpi⟩:=hf i (by lia)
   obtain ⟨q,hq,hqj⟩:=hf j (by lia)
   cases e1
   rw [qoi e2,hp] at hq
   cases hq
   lia
 ·exact h
 ·exfalso
  refine pigeon n (λa=>(l[a]?).map (·.2)) (λa ha=>?_) λa b i l1 l2 e1 e2=>?_
  ·have:a<l.length:=by lia
   exact ⟨l[a].2,by rw [qge this];rfl,lt _ (qem this)⟩
  ·have h1:a<l.length:=by lia
   have h2:b<l.length:=by lia
   rw [qge h1] at e1
   rw [qge h2] at e2
   exact inj a b l[a] l[b] (qge h1) (qge h2) ((qoi e1).trans (qoi e2).symm)
theorem zub {t:SetTable}{es:Array (Int × Value)}(hz:0<es.size) (hs:es.size<=1000) :
  ∃t' order es',t.relaid (es.map (·.1)) (grown es.size)=some (t',order)/\order.filterMap (es[·]?)=es'/\es'.size=es.size/\TOk t' es'/\∀e,e∈es'.toList↔e∈es.toList:=by
 have hg:grown es.size=es.size*4:=by unfold grown;rw [if_neg (by lia)]
 obtain ⟨k,hk3,hsa,hlt,hle⟩:=zmz (n:=es.size*4) (by lia)
 unfold relaid
 rw [hg,hsa]
 generalize hm:2 ^ k-1=mask
 have hk:mask+1=2 ^ k:=by lia
 obtain ⟨ow,hl,o⟩:=zm1 hk (es.map (·.1)) (by rw [Array.size_map];lia)
 unfold laid
 rw [hl]
 have hlen:(es.map (·.1)).toList.length=es.size:=by simp
 have mem:=zm2 o
 have srt:=zm4 mask ow
 have e2lt:∀p∈lv mask ow,p.2<es.size:=λp hp=>by
  obtain ⟨h,e,_⟩:=o.pr p.1 p.2 ((mem p).mp hp)
  rw [<-hlen];exact (qme e).1
 have inj2:∀(a b:Nat) p q,(lv mask ow)[a]? = some p->(lv mask ow)[b]? = some q->p.2=q.2->a=b:=λa b p q ha hb e=>by
  have m1:=(mem p).mp (qmg ha)
  have m2:=(mem q).mp (qmg hb)
  rw [e] at m1
  have e1:=o.inj _ _ _ m1 m2
  rcases Nat.lt_trichotomy a b with h|h|h
  ·have:=(List.pairwise_iff_getElem.mp srt) a b (qme ha).1 (qme hb).1 h
   rw [(qme ha).2,(qme hb).2] at this
   lia
  ·exact h
  ·have:=(List.pairwise_iff_getElem.mp srt) b a (qme hb).1 (qme ha).1 h
   rw [(qme ha).2,(qme hb).2] at this
   lia
 have len:(lv mask ow).length=es.size:=nodup_len _ _ inj2 e2lt λi hi=>by
  obtain ⟨j,hj⟩:=o.all i (by rw [hlen];exact hi)
  exact ⟨(j,i),(mem (j,i)).mpr hj,rfl⟩
 have fm:∀l:List (Nat × Nat),(∀p∈l,p.2<es.size)->(l.map (·.2)).filterMap (es[·]?)=l.map λp=>es.getD p.2 (0,.none):=by
  intro l
  induction l with
  | nil=>intro _;rfl
  | cons p l ih =>
   intro h
   have hp:=h p (.head _)
   rw [List.map_cons,List.filterMap_cons_some (b:=es[p.2]) (Array.getElem?_eq_getElem hp),ih (λq hq=>h q (.tail _ hq)),List.map_cons]
   congr 1
   simp [Array.getD,hp]
 refine ⟨_,_,_,rfl,rfl,?_⟩
 show (Array.filterMap (es[·]?) ((lv mask ow).map (·.2)).toArray).size=es.size/\TOk { mask:=mask,place:=((lv mask ow).map (·.1)).toArray,dummies:=#[],finger:=t.finger,led:=t.led,moves:=t.movedTo mask,plain:=t.plain } (Array.filterMap (es[·]?) ((lv mask ow).map (·.2)).toArray)/\_
 have efm:Array.filterMap (es[·]?) ((lv mask ow).map (·.2)).toArray=((lv mask ow).map λp=>es.getD p.2 (0,.none)).toArray:=by
  apply Array.toList_inj.mp
  rw [Array.toList_filterMap]
  exact fm _ e2lt
 have inn:∀j,In { mask:=mask,place:=((lv mask ow).map (·.1)).toArray,dummies:=#[],finger:=t.finger,led:=t.led,moves:=t.movedTo mask,plain:=t.plain } j↔Occ ow j:=λj=>by
  constructor
  ·rintro ⟨i,hi⟩
   have hi:(((lv mask ow).map (·.1)).toArray)[i]? = some j:=hi
   rw [List.getElem?_toArray,qgm] at hi
   cases c:(lv mask ow)[i]? with
   | none=>rw [c] at hi;cases hi
   | some p =>
    rw [c] at hi
    have hi:p.1=j:=qoi hi
    subst hi
    exact ⟨p.2,(mem p).mp (qmg c)⟩
  ·rintro ⟨i,hi⟩
   obtain ⟨a,ha⟩:=List.mem_iff_getElem?.mp ((mem (j,i)).mpr hi)
   refine ⟨a,?_⟩
   show (((lv mask ow).map (·.1)).toArray)[a]? = some j
   rw [List.getElem?_toArray,qgm,ha];rfl
 rw [efm]
 refine ⟨by simp [len],⟨rfl,by simp,⟨k,hk,hk3⟩,λi j hij hj=>?_,λj hj=>?_,?_,by show mask<8192;lia,λi h v hi=>?_⟩,λe=>?_⟩
 ·have hj:j<(lv mask ow).length:=by simpa using hj
  show (((lv mask ow).map (·.1)).toArray).getD i 0<(((lv mask ow).map (·.1)).toArray).getD j 0
  have h1:i<(lv mask ow).length:=by lia
  have:=(List.pairwise_iff_getElem.mp srt) i j h1 hj hij
  simpa [Array.getD,h1,hj] using this
 ·obtain ⟨i,hi⟩:=(inn j).mp hj
  have:=(Array.getElem?_eq_some_iff.mp hi).1
  rw [o.size] at this
  show j<=mask
  lia
 ·show (((lv mask ow).map λp=>es.getD p.2 (0,.none)).toArray).size*5<mask*3
  simp [len];lia
 ·have hi:(((lv mask ow).map λp=>es.getD p.2 (0,.none)).toArray)[i]? = some (h,v):=hi
  rw [List.getElem?_toArray,qgm] at hi
  cases c:(lv mask ow)[i]? with
  | none=>rw [c] at hi;cases hi
  | some p =>
   rw [c] at hi
   have hi:es.getD p.2 (0,.none)=(h,v):=qoi hi
   have hp:=qmg c
   have hps:=e2lt p hp
   obtain ⟨h',e1,n,e3,e4⟩:=o.pr p.1 p.2 ((mem p).mp hp)
   have eh:h' = h:=by
    rw [Array.toList_map,qgm,Array.getElem?_toList,Array.getElem?_eq_getElem hps] at e1
    have e1:es[p.2].1=h':=qoi e1
    rw [<-e1]
    have:es.getD p.2 (0,.none)=es[p.2]:=by simp [Array.getD,hps]
    rw [<-this,hi]
   subst eh
   refine ⟨n,?_,λm hm=>(inn _).mpr (e4 m hm)⟩
   show (((lv mask ow).map (·.1)).toArray)[i]? = some _
   rw [List.getElem?_toArray,qgm,c,e3];rfl
 ·show e∈(Array.filterMap (es[·]?) ((lv mask ow).map (·.2)).toArray).toList↔_
  rw [efm]
  show e∈(lv mask ow).map (λp=>es.getD p.2 (0,.none))↔_
  rw [List.mem_map]
  constructor
  ·rintro ⟨p,hp,rfl⟩
   have hps:=e2lt p hp
   have:es.getD p.2 (0,.none)=es[p.2]:=by simp [Array.getD,hps]
   rw [this]
   exact Array.mem_toList_iff.mpr (Array.getElem_mem hps)
  ·intro he
   obtain ⟨i,hi,rfl⟩:=List.mem_iff_getElem.mp he
   rw [Array.length_toList] at hi
   obtain ⟨j,hj⟩:=o.all i (by rw [hlen];exact hi)
   refine ⟨(j,i),(mem (j,i)).mpr hj,?_⟩
   simp [Array.getD,hi]
theorem zuc (k:TOk t es) (hN:¬In t (pn t.mask h N).j) (hl:∀m,m<N->In t (pn t.mask h m).j) (hb:N<10*(t.mask+14)) (hm:m<=N)
  (hq:t.probe ha h p=r) (hp:p=pn t.mask h m) :
   (∃m' i,m<=m'/\m' < N/\t.place[i]? = some (pn t.mask h m').j/\ha i=h/\(∀m'' i',m<=m''->m'' < m'->t.place[i']? = some (pn t.mask h m'').j->ha i'≠h)/\r=some (.candidate (pn t.mask h m').j i (pn t.mask h (m' + 1)))) \/
   ((∀m'' i',m<=m''->m'' < N->t.place[i']? = some (pn t.mask h m'').j->ha i'≠h)/\r=some (.empty (pn t.mask h N).j none)):=by
 subst hq hp
 exact zt2 k h hN hl ha _ m hm (by unfold turns;lia)
noncomputable def zm5 (ks:List Int):Int:=reduceHash (Builtin.Tuple.tupleHashOf (ks.map hashInt))
section
structure Els (es:Array (Int × Value)) (xs:List (List Int × Addr)):Prop where
 sub:∀e∈es.toList,∃p∈xs,e=(zm5 p.1,.ref p.2)
 sup:∀p∈xs,(zm5 p.1,Value.ref p.2)∈es.toList
 len:es.size=xs.length
end
def zud (o:Obj) (xs:List (List Int × Addr)):Prop:=o.ExactSet/\∃es ep t,o.data=.set es ep t/\TOk t es/\Els es xs
def TSet (a:Addr) (xs:List (List Int × Addr)) (h:Heap):Prop:=∃o,h.get? a=some o/\zud o xs
section
variable {prog:Program}{w:World}{A:Around}{E:Value->Shared->Prop}{s:Shared}{a x:Addr}{k:List Int}{xs:List (List Int × Addr)}
end
end TS
namespace BF
def lx:List Nat->List Nat->Prop
 | a :: u,b :: v=>a<b\/(a=b/\lx u v)
 | _,_=>False
def sl (u v:List Nat):Prop:=u.length<v.length\/(u.length=v.length/\lx u v)
def le (u v:List Nat):Prop:=sl u v\/u=v
abbrev P:=Nat × Nat
section
variable (A:Nat) (step:P->Nat->Option P) (fail:P->Nat->Bool)
noncomputable def walk:P->List Nat->Option P
 | p,[]=>some p
 | p,a :: w=>(step p a).bind λq=>walk q w
def Fails (p:P) (w:List Nat):Prop:=∃u b q,w=u++[b]/\b<A/\(∀a∈u,a<A)/\walk step p u=some q/\fail q b=true
end
section
structure Bf (A:Nat) (step:P->Nat->Option P) (fail:P->Nat->Bool) (p0:P) (ps:List P) (ws:List (List Nat)) (i c:Nat):Prop where
 len:ws.length=ps.length
 z:ps[0]? = some p0/\ws[0]? = some []
 wk:∀(k:Nat) q w,ps[k]? = some q->ws[k]? = some w->walk step p0 w=some q/\∀a∈w,a<A
 inc:∀(k l:Nat) u v,k<l->ws[k]? = some u->ws[l]? = some v->sl u v
 cl:∀(k:Nat) q w a q',((k<i/\a<A)\/(k=i/\a<c))->ps[k]? = some q->ws[k]? = some w->step q a=some q'->∃(l:Nat) (u:List Nat),ps[l]? = some q'/\ws[l]? = some u/\le u (w++[a])
 nf:∀(k:Nat) q a,((k<i/\a<A)\/(k=i/\a<c))->ps[k]? = some q->fail q a=false
 top:∀(k:Nat) w u,ws[k]? = some w->ws[i]? = some u->sl w (u++[c])
 nd:ps.Nodup
section
end
def Fn (A:Nat) (step:P->Nat->Option P) (fail:P->Nat->Bool) (n:Nat) (p:P):Prop:=∃w,Fails A step fail p w/\w.length=n
def Ds (A:Nat) (step:P->Nat->Option P) (fail:P->Nat->Bool) (p:P) (n:Nat):Prop:=Fn A step fail n p/\∀m,m<n->¬Fn A step fail m p
theorem fails_cons {p q:P}{a:Nat}{w:List Nat}(ha:a<A) (hs:step p a=some q) (h:Fails A step fail q w):Fails A step fail p (a :: w):=by
 obtain ⟨u,b,r,rfl,h1,h2,h3,h4⟩:=h
 refine ⟨a :: u,b,r,rfl,h1,λx hx=>?_,by show (step p a).bind _=_;rw [hs];exact h3,h4⟩
 rcases List.mem_cons.mp hx with rfl|hx
 ·exact ha
 ·exact h2 x hx
theorem fails_inv {p:P}{a:Nat}{w:List Nat}(h:Fails A step fail p (a :: w)):(w=[]/\a<A/\fail p a=true)\/∃q,a<A/\step p a=some q/\Fails A step fail q w:=by
 obtain ⟨u,b,r,e,h1,h2,h3,h4⟩:=h
 cases u with
 | nil =>
  cases e
  cases h3
  exact .inl ⟨rfl,h1,h4⟩
 | cons x u =>
  cases e
  cases hs:step p a with
  | none=>rw [show walk step p (a :: u)=(step p a).bind _ from rfl,hs] at h3;cases h3
  | some q =>
   rw [show walk step p (a :: u)=(step p a).bind _ from rfl,hs] at h3
   exact .inr ⟨q,h2 a (by simp),rfl,u,b,r,rfl,h1,λx hx=>h2 x (by simp [hx]),h3,h4⟩
theorem fails_ne {p:P}:¬Fails A step fail p []:=by
 rintro ⟨u,b,r,e,_⟩
 simp at e
theorem Fn.one {p:P}:Fn A step fail 1 p↔∃a,a<A/\fail p a=true:=by
 constructor
 ·rintro ⟨w,h,hl⟩
  cases w with
  | nil=>simp at hl
  | cons a w =>
   have:w=[]:=List.length_eq_zero_iff.mp (by simpa using hl)
   subst this
   rcases fails_inv h with ⟨_,h1,h2⟩|⟨q,_,_,h3⟩
   ·exact ⟨a,h1,h2⟩
   ·exact absurd h3 fails_ne
 ·rintro ⟨a,h1,h2⟩
  exact ⟨[a],⟨[],a,p,rfl,h1,λx hx=>by simp at hx,rfl,h2⟩,rfl⟩
theorem Fn.zero {p:P}:¬Fn A step fail 0 p:=by
 rintro ⟨w,h,hl⟩
 have:w=[]:=List.length_eq_zero_iff.mp hl
 subst this
 exact fails_ne h
theorem Ds.one {p:P}:Ds A step fail p 1↔∃a,a<A/\fail p a=true:=by
 constructor
 ·exact λh=>Fn.one.mp h.1
 ·refine λh=>⟨Fn.one.mpr h,λm hm=>?_⟩
  have:m=0:=by lia
  subst this;exact Fn.zero
theorem zue {Q:Nat->Prop}{n:Nat}(h:Q n):∃m,m<=n/\Q m/\∀k,k<m->¬Q k:=by
 induction n using Nat.strongRecOn with
 | _ n ih =>
  by_cases c:∃k,k<n/\Q k
  ·obtain ⟨k,hk,q⟩:=c
   obtain ⟨m,h1,h2⟩:=ih k hk q
   exact ⟨m,by lia,h2⟩
  ·exact ⟨n,qlr _,h,λk hk q=>c ⟨k,hk,q⟩⟩
theorem Ds.of {p:P}{n:Nat}(h:Fn A step fail n p):∃m,m<=n/\Ds A step fail p m:=by
 obtain ⟨m,h1,h2,h3⟩:=zue (Q:=λn=>Fn A step fail n p) h
 exact ⟨m,h1,h2,h3⟩
end
theorem few {n:Nat}:∀(l:List Nat),l.Nodup->(∀x∈l,x<n)->l.length<=n:=by
 intro l hd hl
 rcases Nat.lt_or_ge n l.length with h|h
 ·exfalso
  refine TS.pigeon n (λa=>l[a]?) (λa ha=>?_) λa b i l1 l2 e1 e2=>?_
  ·have:a<l.length:=by lia
   exact ⟨l[a],qge this,hl _ (qem this)⟩
  ·have h1:a<l.length:=by lia
   exact (List.getElem?_inj h1 hd).mp (e1.trans e2.symm)
 ·exact h
theorem few2 {n m:Nat}(l:List P) (hd:l.Nodup) (hl:∀x∈l,x.1<n/\x.2<m):l.length<=n*m:=by
 have:=few (n:=n*m) (l.map λx=>x.1*m+x.2) (by
  unfold List.Nodup
  rw [List.pairwise_map]
  refine List.Pairwise.imp_of_mem (λ{x y} hx hy hne e=>hne ?_) hd
  ·skip
   obtain ⟨h1,h2⟩:=hl x hx
   obtain ⟨h3,h4⟩:=hl y hy
   have e1:x.2=y.2:=by
    have a1:(x.1*m+x.2) % m=x.2:=by rw [Nat.mul_comm,Nat.mul_add_mod];exact Nat.mod_eq_of_lt h2
    have a2:(y.1*m+y.2) % m=y.2:=by rw [Nat.mul_comm,Nat.mul_add_mod];exact Nat.mod_eq_of_lt h4
    rw [<-a1,<-a2];exact congrArg (· % m) e
   have e2:x.1=y.1:=by
    have:x.1*m=y.1*m:=by lia
    exact Nat.eq_of_mul_eq_mul_right (by lia) this
   exact Prod.ext e2 e1) (λz hz=>by
  obtain ⟨x,hx,rfl⟩:=List.mem_map.mp hz
  obtain ⟨h1,h2⟩:=hl x hx
  calc x.1*m+x.2<x.1*m+m:=by lia
   _=(x.1+1)*m:=by rw [Nat.add_mul,Nat.one_mul]
   _<=n*m:=Nat.mul_le_mul_right m h1)
 simpa using this
end BF
namespace SP
open PySem PySem.W PyProof.Rows
inductive Ok (lt:Nat->Nat->Bool) (n:Nat) {α:Type} (G:α->Prop):KasT α->Prop where
 | ret {a:α} (h:G a):Ok lt n G (.ret a)
 | ask {i j:Nat} {k:Bool->KasT α} (hi:i<n) (hj:j<n) (h:Ok lt n G (k (lt i j))):Ok lt n G (.ask i j k)
section
noncomputable def lt (r:Nat->Int) (i j:Nat):Bool:=decide (r i<r j)
noncomputable def at' (r:Nat->Int) (p:Array Nat) (k:Nat):Int:=r (p.getD k 0)
end
open PySem.Calls
abbrev Pr:=Int × Int
noncomputable def plt (p q:Pr):Bool:=decide (p.1<q.1) || (decide (p.1=q.1) && decide (p.2<q.2))
section
end
noncomputable def rk (ps:List Pr) (i:Nat):Int:=(ps.countP (λq=>plt q (ps.getD i (0,0))):Nat)
section
end
end SP
namespace L2
open PySem PySem.Spec PyProof.Rows
abbrev Key:=Sum Int Str
noncomputable def zfb:Key->Value->Bool
 | .inl k,v=>Value.isInt k v
 | .inr x,v=>Value.isStrOf x v
noncomputable def zuf (w:World):Key->Int
 | .inl k=>hashInt k
 | .inr x=>hashStr w x
theorem zdm:∀{k:Key}{v:Value},zfb k v=true->(∃i t,k=Sum.inl i/\v=Value.int i t)\/(∃x t,k=Sum.inr x/\v=Value.str x t)
 | .inl i,v,h=>by
  obtain ⟨t,e⟩:=Value.isInt_shape (k:=i) (v:=v) h
  exact .inl ⟨i,t,rfl,e⟩
 | .inr x,v,h=>by
  obtain ⟨t,e⟩:=Value.isStrOf_shape (x:=x) (v:=v) h
  exact .inr ⟨x,t,rfl,e⟩
theorem zug (i:Int) (t:Tok):zfb (.inl i) (.int i t)=true:=by simp [zfb,Value.isInt]
theorem zuh (x:Str) (t:Tok):zfb (.inr x) (.str x t)=true:=by simp [zfb,Value.isStrOf]
theorem zui (a b:Int):decide ((Sum.inl a:Key)=Sum.inl b)=(a == b):=by
 by_cases e:a=b
 ·subst e;simp
 ·have h:¬(Sum.inl a:Key)=Sum.inl b:=λq=>e (Sum.inl.inj q)
  rw [decide_eq_false h]
  exact (beq_eq_false_iff_ne.mpr e).symm
theorem zuj (a b:Str):decide ((Sum.inr a:Key)=Sum.inr b)=decide (a=b):=by
 by_cases e:a=b
 ·subst e;simp
 ·have h:¬(Sum.inr a:Key)=Sum.inr b:=λq=>e (Sum.inr.inj q)
  rw [decide_eq_false h,decide_eq_false e]
theorem zuk (a:Int) (b:Str):decide ((Sum.inl a:Key)=Sum.inr b)=false:=decide_eq_false (λq=>nomatch q)
theorem zul (a:Str) (b:Int):decide ((Sum.inr a:Key)=Sum.inl b)=false:=decide_eq_false (λq=>nomatch q)
noncomputable def zbr (prog:Program) (w:World):PySem.KeyKind prog w Key where
 is:=zfb
 hash:=zuf w
 inj:=λv a b ha hb=>by
  rcases zdm ha with ⟨i,t,rfl,rfl⟩|⟨x,t,rfl,rfl⟩
  ·rcases zdm hb with ⟨j,u,rfl,e⟩|⟨y,u,rfl,e⟩
   ·injection e with e1 _;rw [e1]
   ·exact nomatch e
  ·rcases zdm hb with ⟨j,u,rfl,e⟩|⟨y,u,rfl,e⟩
   ·exact nomatch e
   ·injection e with e1 _;rw [e1]
 byValue:=λk v h=>by
  rcases zdm h with ⟨i,t,rfl,rfl⟩|⟨x,t,rfl,rfl⟩ <;> rfl
 pyHash:=λhv h=>by
  rcases zdm hv with ⟨i,t,rfl,rfl⟩|⟨x,t,rfl,rfl⟩
  ·exact wpAny_pyHash_int h
  ·exact wpAny_pyHash_str h
 eqBool:=λhu hv h=>by
  rcases zdm hu with ⟨i,t,rfl,rfl⟩|⟨x,t,rfl,rfl⟩
  ·rcases zdm hv with ⟨j,u,rfl,rfl⟩|⟨y,u,rfl,rfl⟩
   ·rw [zui] at h;exact wpAny_eqBool_int h
   ·rw [zuk] at h;exact SeqAt.EqAt.int_str i t y u _ _ _ _ h
  ·rcases zdm hv with ⟨j,u,rfl,rfl⟩|⟨y,u,rfl,rfl⟩
   ·rw [zul] at h;exact SeqAt.EqAt.str_int x t j u _ _ _ _ h
   ·rw [zuj] at h;exact wpAny_eqBool_str h
 «strs»:=λk x t v h=>by
  rcases zdm h with ⟨i,u,rfl,e⟩|⟨y,u,rfl,e⟩
  ·exact nomatch e
  ·injection e with e1 _
   subst e1
   cases v <;> rfl
theorem zum (prog:Program) (w:World) (i:Int) (t:Tok):(zbr prog w).is (.inl i) (.int i t)=true:=zug i t
theorem zun (prog:Program) (w:World) (x:Str) (t:Tok):(zbr prog w).is (.inr x) (.str x t)=true:=zuh x t
inductive V where
 | non|bl (b:Bool)|int (i:Int)|str (x:Str)|byt (b:Array UInt8)|flt (b:UInt64)|ref (a:Addr)|ty (n:String)
 deriving DecidableEq
def RelV:V->Value->Prop
 | .non,u=>u=Value.none
 | .bl b,u=>u=Value.bool b
 | .int i,u=>∃t,u=Value.int i t
 | .str x,u=>∃t,u=Value.str x t
 | .byt b,u=>∃t,u=Value.bytes b t
 | .flt b,u=>∃t,u=Value.float b t
 | .ref a,u=>u=Value.ref a
 | .ty n,u=>u=Value.type n
abbrev Vals:List V->List Value->Prop:=Paired RelV
theorem Vals.length {xs:List V}{us:List Value}(r:Vals xs us):xs.length=us.length:=Paired.length r
theorem Vals.get:∀{xs:List V}{us:List Value}{i:Nat}{x:V},Vals xs us->xs[i]? = some x->∃u,us[i]? = some u/\RelV x u
 | _,_,_,_,.nil,e=>by simp at e
 | _,_,0,_,.cons r _,e=>by simp at e;subst e;exact ⟨_,rfl,r⟩
 | _,_,i+1,x,.cons _ t,e=>by
  obtain ⟨u,h1,h2⟩:=Vals.get (i:=i) (x:=x) t (by simpa using e)
  exact ⟨u,by simpa using h1,h2⟩
theorem Vals.set {x:V}{u:Value}(r:RelV x u):∀{xs:List V}{us:List Value}(i:Nat),Vals xs us->Vals (xs.set i x) (us.set i u)
 | _,_,_,.nil=>.nil
 | _,_,0,.cons _ t=>.cons r t
 | _,_,i+1,.cons q t=>.cons q (Vals.set r i t)
theorem Vals.append:∀{xs ys:List V}{us ws:List Value},Vals xs us->Vals ys ws->Vals (xs++ys) (us++ws)
 | _,_,_,_,.nil,s=>s
 | _,_,_,_,.cons r t,s=>.cons r (Vals.append t s)
theorem Vals.take:∀{xs:List V}{us:List Value}(n:Nat),Vals xs us->Vals (xs.take n) (us.take n)
 | _,_,0,_=>.nil
 | _,_,_+1,.nil=>.nil
 | _,_,n+1,.cons r t=>.cons r (Vals.take n t)
theorem Vals.drop:∀{xs:List V}{us:List Value}(n:Nat),Vals xs us->Vals (xs.drop n) (us.drop n)
 | _,_,0,r=>r
 | _,_,_+1,.nil=>.nil
 | _,_,n+1,.cons _ t=>Vals.drop n t
def RelO:Option V->Option Value->Prop
 | some v,some u=>RelV v u
 | none,none=>True
 | _,_=>False
def KV {κ:Type}:List (κ × V)->List (κ × Value)->Prop:=Paired λ(p:κ × V) (q:κ × Value)=>p.1=q.1/\RelV p.2 q.2
noncomputable def kV:Key->V
 | .inl i=>.int i
 | .inr x=>.str x
inductive HO where
 | lst (xs:List V)
 | tup (xs:List V)
 | dK (kvs:List (Key × V))|dT (kvs:List (List Key × V))
 | set (S:Int->Bool) (n:Nat)
 | ins (C dx:Addr) (fs:List (Str × V))
 | own (x:Addr)
 | xd (fs:List (Str × V))
 | met (f x:Addr)
 | rng (lo hi:Int)
 | frz (o:Obj) (u:HO)
 | tbl (ps:Array Value)
 | ext (φ:Heap->Prop)
abbrev Hp:=Addr->Option HO
noncomputable def upd (H:Hp) (a:Addr) (o:HO):Hp:=λb=>if b=a then some o else H b
theorem zbo {H:Hp}{a:Addr}{o:HO}:upd H a o a=some o:=by unfold upd;rw [if_pos rfl]
theorem zaj {H:Hp}{a b:Addr}{o:HO}(h:b≠a):upd H a o b=H b:=by unfold upd;rw [if_neg h]
theorem zcm {H:Hp}{a b:Addr}{o u:HO}(h:H a=some o) (h':H b=some u) (d:o≠u):a≠b:=by
 intro e;subst e;rw [h] at h';exact d (qoi h')
theorem zbh {H:Hp}{a b:Addr}{o:HO}(h:H a=some o) (h':H b=none):a≠b:=by
 intro e;subst e;rw [h] at h';cases h'
def IsTD (h:Heap) (a:Addr) (items:Array Value):Prop:=∃o,h.get? a=some o/\o.cls=.type "tuple"/\∃n,o.data=.seq items n/\o.dict=none
theorem IsTD.tup {h:Heap}{a:Addr}{items:Array Value}(x:IsTD h a items):IsTup h a items:=by
 obtain ⟨o,e,c,n,d,_⟩:=x
 exact ⟨o,e,c,n,d⟩
theorem IsTD.new (h:Heap) (items:Array Value):IsTD (h.push { cls:=.type "tuple",data:=.seq items }) h.objs.size items:=⟨_,Heap.get?_push_size _ rfl,rfl,_,rfl,rfl⟩
section
variable (P:Program) (w:World)
def ObjOk (H:Hp) (h:Heap) (a:Addr):HO->Prop
 | .lst xs=>xs.length<=sizeLine/\∃(its:List Value) (n:Nat),Vals xs its/\h.get? a=some { cls:=.type "list",data:=.seq its.toArray n }
 | .tup xs=>xs.length<=sizeLine/\∃its:List Value,Vals xs its/\IsTD h a its.toArray
 | .dK kvs=>kvs.length<=sizeLine/\(a == sysModules)=false/\∃vs,KV kvs vs/\h.DictOf (zbr P w) a vs
 | .dT kvs=>kvs.length<=sizeLine/\(a == sysModules)=false/\∃xs:List (List Key × Addr × Value),
   Paired (λ(p:List Key × V) (q:List Key × Addr × Value)=>p.1=q.1/\H q.2.1=some (.tup (p.1.map kV))/\RelV p.2 q.2.2) kvs xs /\
   ∃o es ep,h.get? a=some o/\o.ExactDict/\o.data=.dict es ep/\es.toList=xs.map (entryOfKey (tupleKind (zbr P w)))/\(xs.map (·.1)).Nodup
 | .set S n=>h.SetOf (intKind P w) a S n
 | .ins C dx fs=>H dx=some (.own a)/\fs.length<=1000/\dx≠a/\h.get? a=some (PySem.W.instObj C dx) /\
   ∃mA,h.Ns1 dx mA/\(∀f,RelO (fs.lookup f) (mA f))/\PySem.Within mA (fs.map (·.1))
 | .own _=>∃o,h.get? a=some o
 | .xd fs=>∃mA,h.Ns1 a mA/\∀f,RelO (fs.lookup f) (mA f)
 | .rng lo hi=>∃t u v,h.get? a=some { cls:=.type "range",data:=.fields #[.int lo t,.int hi u,.int 1 v] }
 | .frz o u=>h.get? a=some o/\ObjOk H h a u
 | .tbl ps=>h.get? a=some { cls:=.none,data:=.fields ps }
 | .met f x=>h.get? a=some (PySem.W.methodObj (.ref f) (.ref x))
 | .ext φ=>φ h/\(∃o,h.get? a=some o)/\∀h1 h2:Heap,φ h1->(∀o,h1.get? a=some o->h2.get? a=some o)->φ h2
def HOk (H:Hp) (h:Heap):Prop:=∀a o,H a=some o->ObjOk P w H h a o
end
section
variable {P:Program}{w:World}{H H':Hp}{h h':Heap}{a:Addr}{o:HO}
theorem ObjOk.lt (x:ObjOk P w H h a o):a<h.objs.size:=by
 cases o with
 | lst xs=>obtain ⟨_,_,_,_,e⟩:=x;exact Heap.lt_size e
 | tup xs=>obtain ⟨_,_,_,p⟩:=x;exact p.tup.lt
 | dK kvs=>obtain ⟨_,_,_,_,o,_,_,e,_⟩:=x;exact Heap.lt_size e
 | dT kvs=>obtain ⟨_,_,_,_,o,_,_,e,_⟩:=x;exact Heap.lt_size e
 | set S n=>obtain ⟨o,_,_,_,e,_⟩:=x;exact Heap.lt_size e
 | ins C dx fs=>obtain ⟨_,_,_,e,_⟩:=x;exact Heap.lt_size e
 | own y=>obtain ⟨_,e⟩:=x;exact Heap.lt_size e
 | xd fs=>obtain ⟨_,⟨_,_,_,e,_⟩,_⟩:=x;exact Heap.lt_size e
 | rng lo hi=>obtain ⟨_,_,_,e⟩:=x;exact Heap.lt_size e
 | frz ob u=>obtain ⟨e,_⟩:=x;exact Heap.lt_size e
 | tbl ps=>exact Heap.lt_size (show h.get? a=some _ from x)
 | met f y=>exact Heap.lt_size (show h.get? a=some _ from x)
 | ext φ=>obtain ⟨_,⟨_,e⟩,_⟩:=x;exact Heap.lt_size e
theorem Paired.mapP {α β:Type}{F G:α->β->Prop}:∀{l₁:List α}{l₂:List β},Paired F l₁ l₂->(∀a b,F a b->G a b)->Paired G l₁ l₂
 | _,_,.nil,_=>.nil
 | _,_,.cons r t,f=>.cons (f _ _ r) (Paired.mapP t f)
theorem ObjOk.stay (x:ObjOk P w H h a o) (k:∀b u,(b=a\/H b=some (.own a))->h.get? b=some u->h'.get? b=some u)
  (ho:∀b,H b=some (.own a)->H' b=some (.own a)) (ht:∀b xs,H b=some (.tup xs)->H' b=some (.tup xs)):ObjOk P w H' h' a o:=by
 induction o with
 | lst xs=>obtain ⟨z,its,n,r,e⟩:=x;exact ⟨z,its,n,r,k _ _ (.inl rfl) e⟩
 | tup xs=>obtain ⟨z,its,r,ob,e,c⟩:=x;exact ⟨z,its,r,ob,k _ _ (.inl rfl) e,c⟩
 | dK kvs=>obtain ⟨z,y,vs,r,ob,es,ep,e,c⟩:=x;exact ⟨z,y,vs,r,ob,es,ep,k _ _ (.inl rfl) e,c⟩
 | dT kvs =>
  obtain ⟨z,y,xs,r,ob,es,ep,e,c⟩:=x
  exact ⟨z,y,xs,Paired.mapP r λp q z=>⟨z.1,ht _ _ z.2.1,z.2.2⟩,ob,es,ep,k _ _ (.inl rfl) e,c⟩
 | set S n=>obtain ⟨ob,es,ep,t,e,c⟩:=x;exact ⟨ob,es,ep,t,k _ _ (.inl rfl) e,c⟩
 | ins C dx fs =>
  obtain ⟨d,z,ne,e,mA,⟨od,es,ep,e2,c⟩,r⟩:=x
  exact ⟨ho _ d,z,ne,k _ _ (.inl rfl) e,mA,⟨od,es,ep,k _ _ (.inr d) e2,c⟩,r⟩
 | own y=>obtain ⟨ob,e⟩:=x;exact ⟨ob,k _ _ (.inl rfl) e⟩
 | xd fs=>obtain ⟨mA,⟨od,es,ep,e,c⟩,r⟩:=x;exact ⟨mA,⟨od,es,ep,k _ _ (.inl rfl) e,c⟩,r⟩
 | rng lo hi=>obtain ⟨t,u,v,e⟩:=x;exact ⟨t,u,v,k _ _ (.inl rfl) e⟩
 | frz ob u ih=>obtain ⟨e,q⟩:=x;exact ⟨k _ _ (.inl rfl) e,ih q⟩
 | tbl ps =>
  have e:h.get? a=some { cls:=.none,data:=.fields ps }:=x
  show h'.get? a=some { cls:=.none,data:=.fields ps }
  exact k a _ (.inl rfl) e
 | met f y =>
  have e:h.get? a=some (PySem.W.methodObj (.ref f) (.ref y)):=x
  show h'.get? a=some (PySem.W.methodObj (.ref f) (.ref y))
  exact k a _ (.inl rfl) e
 | ext φ=>obtain ⟨p,⟨o,e⟩,st⟩:=x;exact ⟨st _ _ p λo q=>k _ _ (.inl rfl) q,⟨o,k _ _ (.inl rfl) e⟩,st⟩
theorem HOk.lt (x:HOk P w H h) (e:H a=some o):a<h.objs.size:=(x a o e).lt
theorem HOk.fresh (x:HOk P w H h) (e:h.objs.size<=a):H a=none:=by
 cases q:H a with
 | none=>rfl
 | some u=>exact absurd (Nat.lt_of_lt_of_le (x.lt q) e) (Nat.lt_irrefl _)
theorem HOk.kept (x:HOk P w H h) (k:∀b u,h.get? b=some u->h'.get? b=some u):HOk P w H h':=λa o e =>
 (x a o e).stay (λb u _ q=>k b u q) (λ_ q=>q) λ_ _ q=>q
theorem HOk.laid (x:HOk P w H h) (k:∀b u,h.get? b=some u->h'.get? b=some u) (hp:h.objs.size<=a) (new:ObjOk P w (upd H a o) h' a o):HOk P w (upd H a o) h':=λb u e=>by
 have hn:=x.fresh hp
 by_cases hb:b=a
 ·subst hb;rw [zbo] at e;cases e;exact new
 ·rw [zaj hb] at e
  exact (x b u e).stay (λc v _ q=>k c v q) (λc q=>by rw [zaj (zbh q hn)];exact q) λc xs q=>by rw [zaj (zbh q hn)];exact q
end
def Rd (H:Hp) (a:Addr) (u:HO):Prop:=H a=some u\/∃o,H a=some (.frz o u)
theorem Rd.ok {P:Program}{w:World}{H:Hp}{h:Heap}{a:Addr}{u:HO}(r:Rd H a u) (x:HOk P w H h):ObjOk P w H h a u:=by
 rcases r with r|⟨o,r⟩
 ·exact x a u r
 ·obtain ⟨_,q⟩:=x a _ r
  exact q
def Mut:Option HO->Prop
 | some (.lst _)=>True
 | some (.dK _)=>True
 | some (.dT _)=>True
 | some (.set _ _)=>True
 | some (.ins _ _ _)=>True
 | some (.ext _)=>True
 | _=>False
section
variable {P:Program}{w:World}{H:Hp}{h h':Heap}{x e:Addr}{o':HO}
theorem HOk.write (ok:HOk P w H h) (mu:Mut (H x)) (he:e=x\/H e=some (.own x)) (k:∀b u,b≠e->h.get? b=some u->h'.get? b=some u) (heo:∃u,h'.get? e=some u)
  (new:ObjOk P w (upd H x o') h' x o'):HOk P w (upd H x o') h':=λb u q=>by
 have nown:∀c y,H c=some (.own y)->c≠x:=λc y r z=>by subst z;rw [r] at mu;exact mu
 have ntup:∀c xs,H c=some (.tup xs)->c≠x:=λc xs r z=>by subst z;rw [r] at mu;exact mu
 by_cases hb:b=x
 ·subst hb;rw [zbo] at q;cases q;exact new
 ·rw [zaj hb] at q
  by_cases hbe:b=e
  ·have q':H b=some (.own x):=by
    rcases he with z|z
    ·exact absurd (hbe.trans z) hb
    ·rw [hbe];exact z
   rw [q] at q';cases q'
   obtain ⟨v,hv⟩:=heo
   exact ⟨v,by rw [hbe];exact hv⟩
  ·refine (ok b u q).stay (λc v hc r=>k c v ?_ r) (λc r=>by rw [zaj (nown c b r)];exact r) λc xs r=>by rw [zaj (ntup c xs r)];exact r
   rcases hc with rfl|hc
   ·exact hbe
   ·rintro rfl
    rcases he with z|z
    ·exact nown c b hc z
    ·rw [hc] at z;cases z;exact hb rfl
end
structure Un (fs ex:List Addr) (H H':Hp) (h h':Heap):Prop where
 keep:∀b o,h.get? b=some o->H b=none->b ∉ fs->b ∉ ex->h'.get? b=some o
 slot:∀b o,h.get? b=some o->H b=none->b∈fs->b ∉ ex->∃sl,h'.get? b=some { o with slots:=sl }
 free:∀b o,h.get? b=some o->H b=none->b ∉ ex->H' b=none
 there:∀b o,h.get? b=some o->b ∉ ex->∃o',h'.get? b=some o'
 tups:∀b xs,H b=some (.tup xs)->H' b=some (.tup xs)
 frzs:∀b o u,H b=some (.frz o u)->H' b=some (.frz o u)
 tbls:∀b ps,H b=some (.tbl ps)->∃more,H' b=some (.tbl (ps++more))
section
variable {fs fs' ex ex':List Addr}{H H1 H2:Hp}{h h1 h2 h':Heap}{a x e:Addr}{o:HO}
theorem Un.any (u:Un fs ex H H1 h h1) {b:Addr}{ob:Obj}(q:h.get? b=some ob) (n:H b=none) (hx:b ∉ ex):∃sl,h1.get? b=some { ob with slots:=sl }:=by
 by_cases hb:b∈fs
 ·exact u.slot b ob q n hb hx
 ·exact ⟨ob.slots,u.keep b ob q n hb hx⟩
theorem Un.kept (k:∀b u,h.get? b=some u->h'.get? b=some u):Un fs ex H H h h' :=
 ⟨λb ob q _ _ _=>k b ob q,λb ob q _ _ _=>⟨ob.slots,k b ob q⟩,λ_ _ _ n _=>n,λb ob q _=>⟨ob,k b ob q⟩,λ_ _ q=>q,λ_ _ _ q=>q,λ_ ps q=>⟨#[],by rw [q];simp⟩⟩
theorem Un.refl:Un fs ex H H h h:=Un.kept λ_ _ q=>q
theorem Un.laid (k:∀b u,h.get? b=some u->h'.get? b=some u) (hp:h.objs.size<=a) (hn:H a=none):Un fs ex H (upd H a o) h h' where
 keep:=λb u q _ _ _=>k b u q
 slot:=λb u q _ _ _=>⟨u.slots,k b u q⟩
 free:=λb u q n _=>by rw [zaj (Nat.ne_of_lt (Nat.lt_of_lt_of_le (Heap.lt_size q) hp))];exact n
 there:=λb u q _=>⟨u,k b u q⟩
 tups:=λb xs q=>by rw [zaj (zbh q hn)];exact q
 frzs:=λb u xs q=>by rw [zaj (zbh q hn)];exact q
 tbls:=λb ps q=>⟨#[],by rw [zaj (zbh q hn),q];simp⟩
theorem Un.write (mu:Mut (H x)) (he:e=x\/H e=some (.own x)) (k:∀b u,b≠e->h.get? b=some u->h'.get? b=some u) (heo:∃u,h'.get? e=some u):Un fs ex H (upd H x o) h h':=by
 have hx:∀b,H b=none->b≠x:=λb n z=>by subst z;rw [n] at mu;exact mu
 have hb:∀b,H b=none->b≠e:=λb n z=>by
  subst z
  rcases he with r|r
  ·exact hx b n r
  ·rw [n] at r;cases r
 have hm:∀b u,H b=some u->¬Mut (some u)->b≠x:=λb u q nm z=>by subst z;rw [q] at mu;exact nm mu
 refine ⟨λb u q n _ _=>k b u (hb b n) q,λb u q n _ _=>⟨u.slots,k b u (hb b n) q⟩,λb u q n _=>by rw [zaj (hx b n)];exact n,λb u q _=>?_,
  λb xs q=>by rw [zaj (hm b _ q λz=>z)];exact q,λb u xs q=>by rw [zaj (hm b _ q λz=>z)];exact q,λb ps q=>⟨#[],by rw [zaj (hm b _ q λz=>z),q];simp⟩⟩
 by_cases hbe:b=e
 ·subst hbe;exact heo
 ·exact ⟨u,k b u hbe q⟩
end
noncomputable def trk (h:Heap) (H:Hp):List Addr:=(List.range h.objs.size).filter λa=>(H a).isSome
noncomputable def zee (h:Heap) (H:Hp):Heap:=PySem.W.hideAll h (trk h H)
theorem zuo (h:Heap) (H:Hp):(zee h H).objs.size=h.objs.size:=PySem.W.hideAll_size _ _
theorem zup {h:Heap}{H:Hp}{b:Addr}{o:Obj}(e:h.get? b=some o) (n:H b=none):(zee h H).get? b=some o :=
 PySem.W.hideAll_get _ e λhm=>by
  have q:(H b).isSome=true:=(List.mem_filter.mp hm).2
  rw [n] at q;simp at q
theorem zuq {h:Heap}{H:Hp}{b:Addr}{o:Obj}(e:(zee h H).get? b=some o):h.get? b=some o/\H b=none:=by
 have e':h.get? b=some o:=PySem.W.of_hideAll (trk h H) e
 refine ⟨e',?_⟩
 cases q:H b with
 | none=>rfl
 | some x =>
  have hm:b∈trk h H:=List.mem_filter.mpr ⟨List.mem_range.mpr (Heap.lt_size e'),by simp [q]⟩
  have z:(zee h H).get? b=none:=PySem.W.hideAll_none (trk h H) hm
  rw [z] at e;cases e
noncomputable def zur (g h:Heap) (L:Addr):List (Addr × Obj):=(List.range h.objs.size).filterMap λa=>if a=L\/(g.get? a).isSome=true then none else (h.get? a).map λo=>(a,o)
noncomputable def rest (g h:Heap) (L d:Addr):List (Addr × Obj):=(zur g h L).filter λp=>decide (p.1≠d)
def BMd (mg:Str->Option Value) (h:Heap):Prop:=∃bm ob,mg "__builtins__" = some (.ref bm)/\bm≠builtinsNs/\h.get? bm=some ob/\ob.cls=.type "module"/\ob.dict=some builtinsNs/\ob.data=.plain
structure Mod (K:QFg) (mg:Str->Option Value) (base:Heap):Prop where
 kin:K.In base
 glob:base.Ns mainGlobals mg
 blt:∃mb,base.Ns builtinsNs mb/\∀x:Str,x≠"__name__"->mb x=bootBuiltins x
 nolimit:base.NoLimit
 bm:BMd mg base
structure Cx where
 prog:Program
 w:World
 K:QFg
 mg:Str->Option Value
 base:Heap
 A:Around
 N:List Str
 s₀:Shared
 H₀:Hp
 env:Env
 outer:List Env
 stack:List Env
 ex:List Addr
 fn:Str->Bool
 calm:Bool
 pn:List (Addr × Obj)
 xe:Value->Shared->Prop
noncomputable def frs (l:List Env):List Addr:=l.filterMap (·.frame)
noncomputable abbrev Cx.fs (X:Cx):List Addr:=frs X.outer
def Vis (sc:Scope) (x:Str):Prop:=sc.names.lookup x=some .local\/sc.names.lookup x=some .cell\/sc.names.lookup x=some .free
def Loc (sc:Scope) (x:Str):Prop:=sc.names.lookup x=some .local\/sc.names.lookup x=some .cell
def zus (env:Env) (h:Heap) (m:Str->Option Value) (x:Str) (u:Value):Prop :=
 (env.kindOf x=some .local/\m x=some u)\/((env.kindOf x=some .cell\/env.kindOf x=some .free)/\∃c,env.cells.lookup x=some c/\h.IsCell c (some u))
structure Cx.Ok (X:Cx):Prop where
 mod:Mod X.K X.mg X.base
 kind:X.env.scope.kind=.function
 glob:X.env.globals=mainGlobals
 blt:X.env.builtins=builtinsNs
 above:X.s₀.heap.objs.size<=X.env.locals
 inj:∀x y c,X.env.cells.lookup x=some c->X.env.cells.lookup y=some c->x=y
 has:∀x,(X.env.kindOf x=some .cell\/X.env.kindOf x=some .free)->∃c,X.env.cells.lookup x=some c
 cab:∀x c,X.fn x=true->X.env.cells.lookup x=some c->X.s₀.heap.objs.size<=c
 hd:X.calm=true->X.A.handled=none
 frames:X.A.frames=some X.stack
 stk:X.stack=X.outer\/(X.stack=X.env :: X.outer/\X.env.frame=some X.env.locals)
 exf:∀b∈X.ex,b≠X.env.locals/\∀x c,X.env.cells.lookup x=some c->c≠b
 bs:∀b o,X.base.get? b=some o->X.s₀.heap.get? b=some o/\X.H₀ b=none
 bsz:X.base.objs.size<=X.s₀.heap.objs.size
 noex:∀b o,X.base.get? b=some o->b ∉ X.ex
 exfs:∀b∈X.ex,b ∉ X.fs
 funs:X.s₀.heap.FunFrames X.base X.outer
 frf:∀b∈X.fs,X.H₀ b=none
structure Inv (X:Cx) (pins:List (Addr × Obj)) (σ:List (Option V)) (H:Hp) (s:Shared):Prop where
 ok:X.Ok
 os:s.os=X.s₀.os
 bare:AllBare s.gens
 base:Un X.fs X.ex X.H₀ H X.s₀.heap s.heap
 loc:∃m,s.heap.Ns X.env.locals m/\∀(i:Nat) (x:Str) (v:V),X.N[i]? = some x->σ[i]? = some (some v)->Vis X.env.scope x->∃u,RelV v u/\zus X.env s.heap m x u
 cell:∀x c,X.env.cells.lookup x=some c->∃v,s.heap.IsCell c v
 free:H X.env.locals=none
 freeC:∀x c,X.env.cells.lookup x=some c->H c=none
 pin:∀p∈X.pn++pins,s.heap.get? p.1=some p.2/\H p.1=none/\p.1≠X.env.locals/\p.1 ∉ X.fs/\∀v,p.2.data≠.cell v
 hok:HOk X.prog X.w H s.heap
 len:σ.length=X.N.length
section
variable {X:Cx}{pins:List (Addr × Obj)}{σ:List (Option V)}{H H':Hp}{s:Shared}{h':Heap}
theorem Cx.Ok.nofr (ok:X.Ok) {b:Addr}{o:Obj}(e:X.base.get? b=some o):b ∉ X.fs:=λhb=>by
 have:=(ok.funs.mem hb).1
 rw [e] at this;cases this
theorem Inv.bs (I:Inv X pins σ H s):∀b o,X.base.get? b=some o->s.heap.get? b=some o/\H b=none:=λb o e =>
 ⟨I.base.keep b o (I.ok.bs b o e).1 (I.ok.bs b o e).2 (I.ok.nofr e) (I.ok.noex b o e),I.base.free b o (I.ok.bs b o e).1 (I.ok.bs b o e).2 (I.ok.noex b o e)⟩
theorem Inv.bk (I:Inv X pins σ H s):∀b o,X.base.get? b=some o->s.heap.get? b=some o:=λb o e=>(I.bs b o e).1
theorem Inv.mod (I:Inv X pins σ H s):Mod X.K X.mg X.base:=I.ok.mod
theorem Inv.kIn (I:Inv X pins σ H s):X.K.In s.heap:=I.ok.mod.kin.keeps I.bk
theorem Inv.lt (I:Inv X pins σ H s):X.env.locals<s.heap.objs.size:=let ⟨_,hn,_⟩:=I.loc;hn.lt
theorem Inv.sz (I:Inv X pins σ H s):X.s₀.heap.objs.size<=s.heap.objs.size:=Nat.le_trans I.ok.above (Nat.le_of_lt I.lt)
theorem Inv.nofs (I:Inv X pins σ H s) {a:Addr}(h:s.heap.objs.size<=a):a ∉ X.fs:=λhb=>by
 obtain ⟨_,o,ho,_⟩:=I.ok.funs.mem hb
 exact absurd (Nat.lt_of_lt_of_le (Heap.lt_size ho) (Nat.le_trans I.sz h)) (Nat.lt_irrefl _)
theorem Inv.cne (I:Inv X pins σ H s):∀x c,X.env.cells.lookup x=some c->c≠X.env.locals:=λx c e z=>by
 obtain ⟨v,o,ho,hd⟩:=I.cell x c e
 obtain ⟨m,⟨o',es,ep,ho',hd',_⟩,_⟩:=I.loc
 rw [z,ho'] at ho;cases ho;rw [hd'] at hd;cases hd
theorem Inv.funs (I:Inv X pins σ H s):s.heap.FunFrames X.base X.outer:=by
 have all:∀(l:List Env),(∀b∈frs l,b∈X.fs)->X.s₀.heap.FunFrames X.base l->s.heap.FunFrames X.base l:=by
  intro l
  induction l with
  | nil=>intro _ _;trivial
  | cons env r ih =>
   intro hs hl
   obtain ⟨hk,⟨L,o,hf,hn,ho,hd⟩,hr⟩:=hl
   have hL:L∈X.fs:=hs L (by unfold frs;rw [List.filterMap_cons,hf];exact List.mem_cons_self)
   obtain ⟨sl,e⟩:=I.base.slot L o ho (I.ok.frf L hL) hL λz=>I.ok.exfs L z hL
   exact ⟨hk,⟨L,_,hf,hn,e,hd⟩,ih (λb hb=>hs b (by unfold frs;rw [List.filterMap_cons,hf];exact List.mem_cons_of_mem _ hb)) hr⟩
 exact all X.outer (λ_ hb=>hb) I.ok.funs
theorem Inv.stack (I:Inv X pins σ H s):s.heap.FunFrames X.base X.stack:=by
 rcases I.ok.stk with e|⟨e,hf⟩
 ·rw [e];exact I.funs
 ·rw [e]
  obtain ⟨m,hn,_⟩:=I.loc
  refine .cons (by rw [I.ok.kind];decide) hf hn ?_ I.funs
  exact Heap.get?_none_of_le (Nat.le_trans I.ok.bsz I.ok.above)
theorem Inv.stkSub (I:Inv X pins σ H s):∀b∈frs X.stack,b∈X.env.locals :: X.fs:=λb hb=>by
 rcases I.ok.stk with e|⟨e,hf⟩
 ·rw [e] at hb;exact List.mem_cons_of_mem _ hb
 ·rw [e] at hb
  unfold frs at hb
  rw [List.filterMap_cons,hf] at hb
  exact hb
theorem Inv.stkFree (I:Inv X pins σ H s):∀b∈frs X.stack,H b=none:=λb hb=>by
 rcases List.mem_cons.mp (I.stkSub b hb) with e|hb
 ·rw [e];exact I.free
 ·obtain ⟨_,o,ho,_⟩:=I.ok.funs.mem hb
  exact I.base.free b o ho (I.ok.frf b hb) λz=>I.ok.exfs b z hb
theorem Inv.step {g':Array GenState}{t':Nat}{d':Drawn}{ch:List Addr}(I:Inv X pins σ H s)
  (hch:∀b∈ch,(b∈X.ex\/X.s₀.heap.objs.size<=b)/\b≠X.env.locals/\(∀x c,X.env.cells.lookup x=some c->c≠b)/\∀p∈X.pn++pins,p.1≠b)
  (keep:∀b o,b≠X.env.locals->b ∉ X.fs->b ∉ ch->s.heap.get? b=some o->H b=none->h'.get? b=some o)
  (slot:∀b o,b≠X.env.locals->b∈X.fs->b ∉ ch->s.heap.get? b=some o->H b=none->∃sl,h'.get? b=some { o with slots:=sl }) (free:∀b o,b ∉ ch->s.heap.get? b=some o->H b=none->H' b=none)
  (there:∀b o,b ∉ ch->s.heap.get? b=some o->∃o',h'.get? b=some o')
  (tups:∀b xs,H b=some (.tup xs)->H' b=some (.tup xs)) (frzs:∀b o u,H b=some (.frz o u)->H' b=some (.frz o u)) (tbls:∀b ps,H b=some (.tbl ps)->∃more,H' b=some (.tbl (ps++more)))
  (ns:∀m,s.heap.Ns X.env.locals m->h'.Ns X.env.locals m) (hok:HOk X.prog X.w H' h') (hg:AllBare g') :
  Inv X pins σ H' { s with heap:=h',gens:=g',drawn:=d',toks:=t' }:=by
 have neL:∀b o,X.s₀.heap.get? b=some o->b≠X.env.locals:=λb o e=>Nat.ne_of_lt (Nat.lt_of_lt_of_le (Heap.lt_size e) I.ok.above)
 have neC:∀b o,X.s₀.heap.get? b=some o->b ∉ X.ex->b ∉ ch:=λb o e hx hb=>by
  rcases (hch b hb).1 with z|z
  ·exact hx z
  ·exact absurd (Nat.lt_of_lt_of_le (Heap.lt_size e) z) (Nat.lt_irrefl _)
 have cellK:∀x c,X.env.cells.lookup x=some c->∀v,s.heap.IsCell c v->h'.IsCell c v:=λx c e v hx1_=>by
  obtain ⟨o,ho,hd⟩:=hx1_
  have nch:c ∉ ch:=λz=>(hch c z).2.2.1 x c e rfl
  by_cases hc:c∈X.fs
  ·obtain ⟨sl,q⟩:=slot c o (I.cne x c e) hc nch ho (I.freeC x c e)
   exact ⟨_,q,hd⟩
  ·exact ⟨o,keep c o (I.cne x c e) hc nch ho (I.freeC x c e),hd⟩
 refine ⟨I.ok,I.os,hg,⟨λb o e n hb hx=>?_,λb o e n hb hx=>?_,λb o e n hx=>?_,λb o e hx=>?_,λb xs e=>tups b xs (I.base.tups b xs e),λb o xs e=>frzs b o xs (I.base.frzs b o xs e),λb ps e=>?_⟩,?_,λx c e=>?_,?_,λx c e=>?_,λp hp=>?_,hok,I.len⟩
 ·exact keep b o (neL b o e) hb (neC b o e hx) (I.base.keep b o e n hb hx) (I.base.free b o e n hx)
 ·obtain ⟨sl,e1⟩:=I.base.slot b o e n hb hx
  obtain ⟨sl',e2⟩:=slot b _ (neL b o e) hb (neC b o e hx) e1 (I.base.free b o e n hx)
  exact ⟨sl',e2⟩
 ·obtain ⟨o',e1⟩:=I.base.there b o e hx
  exact free b o' (neC b o e hx) e1 (I.base.free b o e n hx)
 ·obtain ⟨o',e1⟩:=I.base.there b o e hx
  exact there b o' (neC b o e hx) e1
 ·obtain ⟨m1,e1⟩:=I.base.tbls b ps e
  obtain ⟨m2,e2⟩:=tbls b _ e1
  exact ⟨m1++m2,by rw [e2,Array.append_assoc]⟩
 ·obtain ⟨m,hn,hl⟩:=I.loc
  refine ⟨m,ns m hn,λi x v e1 e2 e3=>?_⟩
  obtain ⟨u,r,l⟩:=hl i x v e1 e2 e3
  refine ⟨u,r,?_⟩
  rcases l with l|⟨k,c,e,z⟩
  ·exact .inl l
  ·exact .inr ⟨k,c,e,cellK x c e _ z⟩
 ·obtain ⟨v,z⟩:=I.cell x c e
  exact ⟨v,cellK x c e v z⟩
 ·obtain ⟨m,⟨o,_,_,ho,_⟩,_⟩:=I.loc
  exact free _ o (λz=>(hch _ z).2.1 rfl) ho I.free
 ·obtain ⟨v,o,ho,hd⟩:=I.cell x c e
  exact free c o (λz=>(hch c z).2.2.1 x c e rfl) ho (I.freeC x c e)
 ·obtain ⟨e,n,ne,nf,d⟩:=I.pin p hp
  have nch:p.1 ∉ ch:=λz=>(hch p.1 z).2.2.2 p hp rfl
  exact ⟨keep p.1 p.2 ne nf nch e n,free p.1 p.2 nch e n,ne,nf,d⟩
theorem Inv.un {t':Nat}(I:Inv X pins σ H s) (u:Un X.fs [] H H' s.heap h') (hok:HOk X.prog X.w H' h'):Inv X pins σ H' { s with heap:=h',toks:=t' }:=by
 obtain ⟨m,⟨o,es,ep,ho,r⟩,_⟩:=id I.loc
 obtain ⟨sl,hL⟩:=u.any ho I.free (by simp)
 exact I.step (g':=s.gens) (d':=s.drawn) (ch:=[]) (λ_ z=>nomatch z) (λb o _ hb _ e n=>u.keep b o e n hb (by simp)) (λb o _ hb _ e n=>u.slot b o e n hb (by simp)) (λb o _ e n=>u.free b o e n (by simp)) (λb o _ e=>u.there b o e (by simp)) u.tups u.frzs u.tbls (λm' hm=>by
  obtain ⟨o',es',ep',ho',r'⟩:=hm
  rw [ho] at ho';cases ho'
  exact ⟨_,es',ep',hL,r'⟩) hok I.bare
theorem Inv.call {g':Array GenState}{t':Nat}{d':Drawn}{ch:List Addr}(I:Inv X pins σ H s) (u:Un (frs X.stack) ch H H' s.heap h') (hok:HOk X.prog X.w H' h') (hg:AllBare g')
  (hch:∀b∈ch,(b∈X.ex\/X.s₀.heap.objs.size<=b)/\b≠X.env.locals/\(∀x c,X.env.cells.lookup x=some c->c≠b)/\∀p∈X.pn++pins,p.1≠b) :
  Inv X pins σ H' { s with heap:=h',gens:=g',drawn:=d',toks:=t' }:=by
 obtain ⟨m,⟨o,es,ep,ho,r⟩,_⟩:=id I.loc
 obtain ⟨sl,hL⟩:=u.any ho I.free λz=>(hch _ z).2.1 rfl
 exact I.step (ch:=ch) hch (λb o hL hb hc e n=>u.keep b o e n (λz=>(List.mem_cons.mp (I.stkSub b z)).elim hL hb) hc) (λb o _ _ hc e n=>u.any e n hc) (λb o hc e n=>u.free b o e n hc) (λb o hc e=>u.there b o e hc) u.tups u.frzs u.tbls (λm' hm=>by
  obtain ⟨o',es',ep',ho',r'⟩:=hm
  rw [ho] at ho';cases ho'
  exact ⟨_,es',ep',hL,r'⟩) hok hg
theorem Inv.turned {t':Nat}{it:Addr}(I:Inv X pins σ H s) (k:∀b o,b≠it->s.heap.get? b=some o->h'.get? b=some o) (hn:H it=none) (hL:it≠X.env.locals)
  (h1:it∈X.ex\/X.s₀.heap.objs.size<=it) (h2:∀x c,X.env.cells.lookup x=some c->c≠it) (h3:∀p∈X.pn++pins,p.1≠it):Inv X pins σ H { s with heap:=h',toks:=t' }:=by
 have nit:∀b u,H b=some u->b≠it:=λb u e z=>by rw [z,hn] at e;cases e
 refine I.step (g':=s.gens) (d':=s.drawn) (ch:=[it]) (λb hb=>?_) (λb o _ _ hc e _=>k b o (λz=>hc (by simp [z])) e) (λb o _ _ hc e _=>⟨o.slots,k b o (λz=>hc (by simp [z])) e⟩) (λ_ _ _ _ n=>n)
  (λb o hc e=>⟨o,k b o (λz=>hc (by simp [z])) e⟩) (λ_ _ e=>e) (λ_ _ _ e=>e) (λb ps e=>⟨#[],by rw [e];simp⟩) (λm hm=>?_) (λb u e=>?_) I.bare
 ·have e:b=it:=by simpa using hb
  subst e
  exact ⟨h1,hL,h2,h3⟩
 ·obtain ⟨o,es,ep,ho,r⟩:=hm
  exact ⟨o,es,ep,k _ o (Ne.symm hL) ho,r⟩
 ·refine (I.hok b u e).stay (λc v hc q=>k c v ?_ q) (λ_ q=>q) λ_ _ q=>q
  rcases hc with z|z
  ·rw [z];exact nit b u e
  ·exact nit c _ z
theorem Inv.tok (I:Inv X pins σ H s) (t:Nat):Inv X pins σ H { s with toks:=t }:=I.un (h':=s.heap) (t':=t) Un.refl I.hok
theorem Inv.kept {t':Nat}(I:Inv X pins σ H s) (k:∀b u,s.heap.get? b=some u->h'.get? b=some u):Inv X pins σ H { s with heap:=h',toks:=t' }:=I.un (Un.kept k) (I.hok.kept k)
theorem Inv.laid {a:Addr}{o:HO}{t':Nat}(I:Inv X pins σ H s) (k:∀b u,s.heap.get? b=some u->h'.get? b=some u) (hp:s.heap.objs.size<=a) (new:ObjOk X.prog X.w (upd H a o) h' a o) :
  Inv X pins σ (upd H a o) { s with heap:=h',toks:=t' }:=I.un (Un.laid k hp (I.hok.fresh hp)) (I.hok.laid k hp new)
theorem Inv.write {x e:Addr}{o:HO}{t':Nat}(I:Inv X pins σ H s) (mu:Mut (H x)) (he:e=x\/H e=some (.own x)) (k:∀b u,b≠e->s.heap.get? b=some u->h'.get? b=some u) (heo:∃u,h'.get? e=some u)
  (new:ObjOk X.prog X.w (upd H x o) h' x o):Inv X pins σ (upd H x o) { s with heap:=h',toks:=t' }:=I.un (Un.write mu he k heo) (I.hok.write mu he k heo new)
theorem Inv.pins_of {pins':List (Addr × Obj)}(I:Inv X pins σ H s) (h:∀p∈pins',s.heap.get? p.1=some p.2/\H p.1=none/\p.1≠X.env.locals/\p.1 ∉ X.fs/\∀v,p.2.data≠.cell v):Inv X pins' σ H s :=
 ⟨I.ok,I.os,I.bare,I.base,I.loc,I.cell,I.free,I.freeC,λp hp=>(List.mem_append.mp hp).elim (λz=>I.pin p (List.mem_append_left _ z)) (h p),I.hok,I.len⟩
theorem zke {N:List Str}(hN:N.Nodup) {i j:Nat}{x:Str}(a:N[i]? = some x) (b:N[j]? = some x):i=j:=by
 obtain ⟨h1,e1⟩:=qme a
 obtain ⟨h2,e2⟩:=qme b
 exact (List.getElem_inj hN).mp (e1.trans e2.symm)
theorem zkf {M:Model}{A:Around}{E:Value->Shared->Prop}{i:Nat}{x:Str}{v:V}{u:Value}{Q:Unit->Shared->Prop}(I:Inv X pins σ H s) (hN:X.N.Nodup) (hi:X.N[i]? = some x) (hx:Loc X.env.scope x) (r:RelV v u)
  (h:∀s',Inv X pins (σ.set i (some v)) H s'->(∃a,Heap.SameBut a s.heap s'.heap/\(a=X.env.locals\/X.env.cells.lookup x=some a))->Q () s') (hf:X.fn x=true\/X.env.scope.names.lookup x=some .local:=by first|exact .inl rfl|exact .inr rfl|assumption):wpAny M A (storeName X.env x u) Q E s:=by
 obtain ⟨m,hn,hl⟩:=id I.loc
 have hcls:(X.env.scope.kind == .class || (X.env.scope.kind == .module && X.env.locals != X.env.globals))=false:=by rw [I.ok.kind];rfl
 have hiσ:i<σ.length:=by rw [I.len];exact (qme hi).1
 have cne:=I.cne
 have tracked:∀{a:Addr} {h':Heap},(∃o,s.heap.get? a=some o/\H a=none)->Heap.SameBut a s.heap h'->HOk X.prog X.w H h':=λ{a h'} ha hs b ob e=>by
  obtain ⟨_,_,hfree⟩:=ha
  refine (I.hok b ob e).stay (λc w' hc q=>(hs.2 c ?_).trans q) (λ_ q=>q) λ_ _ q=>q
  rintro rfl
  rcases hc with rfl|hc
  ·rw [hfree] at e;cases e
  ·rw [hfree] at hc;cases hc
 rcases hx with hk|hk
 ·refine wpAny_storeName_local hk hn (λh' hn' hs=>?_) hcls
  obtain ⟨oL,_,_,hoL,_⟩:=id hn
  refine h _ ⟨I.ok,I.os,I.bare,⟨λb o e n hb hx=>?_,λb o e n hb hx=>?_,I.base.free,λb o e hx=>?_,I.base.tups,I.base.frzs,I.base.tbls⟩,⟨_,hn',λj y v' e1 e2 e3=>?_⟩,λy c e=>?_,I.free,I.freeC,λp hp=>?_,tracked ⟨oL,hoL,I.free⟩ hs,by simpa using I.len⟩ ⟨_,hs,.inl rfl⟩
  ·exact (hs.2 b (Nat.ne_of_lt (Nat.lt_of_lt_of_le (Heap.lt_size e) I.ok.above))).trans (I.base.keep b o e n hb hx)
  ·obtain ⟨sl,e1⟩:=I.base.slot b o e n hb hx
   exact ⟨sl,(hs.2 b (Nat.ne_of_lt (Nat.lt_of_lt_of_le (Heap.lt_size e) I.ok.above))).trans e1⟩
  ·obtain ⟨o',e1⟩:=I.base.there b o e hx
   exact ⟨o',(hs.2 b (Nat.ne_of_lt (Nat.lt_of_lt_of_le (Heap.lt_size e) I.ok.above))).trans e1⟩
  ·by_cases hj:j=i
   ·subst hj
    rw [hi] at e1;cases e1
    rw [List.getElem?_set_self hiσ] at e2
    cases e2
    exact ⟨u,r,.inl ⟨hk,by simp⟩⟩
   ·rw [List.getElem?_set_ne (Ne.symm hj)] at e2
    obtain ⟨u',r',q⟩:=hl j y v' e1 e2 e3
    refine ⟨u',r',?_⟩
    rcases q with ⟨k,e⟩|⟨k,c,e,z⟩
    ·refine .inl ⟨k,?_⟩
     have:y≠x:=λe=>hj (zke hN e1 (e ▸ hi))
     simp [this,e]
    ·exact .inr ⟨k,c,e,z.sameBut hs (cne y c e)⟩
  ·obtain ⟨w',z⟩:=I.cell y c e
   exact ⟨w',z.sameBut hs (cne y c e)⟩
  ·obtain ⟨e,n,ne,nf,d⟩:=I.pin p hp
   exact ⟨(hs.2 p.1 ne).trans e,n,ne,nf,d⟩
 ·have hfn:X.fn x=true:=by
   rcases hf with z|z
   ·exact z
   ·rw [z] at hk;cases hk
  obtain ⟨c,hc⟩:=I.ok.has x (.inl hk)
  obtain ⟨w',z⟩:=I.cell x c hc
  refine wpAny_storeName_cell I.ok.kind hk hc z (λh' hc' hs=>?_)
  obtain ⟨oc,hoc,hocd⟩:=id z
  refine h { s with heap:=h' } ⟨I.ok,I.os,I.bare,⟨λb o e n hb hx=>?_,λb o e n hb hx=>?_,I.base.free,λb o e hx=>?_,I.base.tups,I.base.frzs,I.base.tbls⟩,⟨m,hn.sameBut hs (Ne.symm (cne x c hc)),λj y v' e1 e2 e3=>?_⟩,λy c' e=>?_,I.free,I.freeC,λp hp=>?_,tracked ⟨oc,hoc,I.freeC x c hc⟩ hs,by simpa using I.len⟩ ⟨c,hs,.inr hc⟩
  ·exact (hs.2 b (Nat.ne_of_lt (Nat.lt_of_lt_of_le (Heap.lt_size e) (I.ok.cab x c hfn hc)))).trans (I.base.keep b o e n hb hx)
  ·obtain ⟨sl,e1⟩:=I.base.slot b o e n hb hx
   exact ⟨sl,(hs.2 b (Nat.ne_of_lt (Nat.lt_of_lt_of_le (Heap.lt_size e) (I.ok.cab x c hfn hc)))).trans e1⟩
  ·obtain ⟨o',e1⟩:=I.base.there b o e hx
   exact ⟨o',(hs.2 b (Nat.ne_of_lt (Nat.lt_of_lt_of_le (Heap.lt_size e) (I.ok.cab x c hfn hc)))).trans e1⟩
  ·by_cases hj:j=i
   ·subst hj
    rw [hi] at e1;cases e1
    rw [List.getElem?_set_self hiσ] at e2
    cases e2
    exact ⟨u,r,.inr ⟨.inl hk,c,hc,hc'⟩⟩
   ·rw [List.getElem?_set_ne (Ne.symm hj)] at e2
    obtain ⟨u',r',q⟩:=hl j y v' e1 e2 e3
    refine ⟨u',r',?_⟩
    rcases q with q|⟨k,c',e,z'⟩
    ·exact .inl q
    ·refine .inr ⟨k,c',e,z'.sameBut hs ?_⟩
     rintro rfl
     exact hj (zke hN e1 (I.ok.inj _ _ _ e hc ▸ hi))
  ·by_cases hcc:c' = c
   ·subst hcc;exact ⟨_,hc'⟩
   ·obtain ⟨w2,z2⟩:=I.cell y c' e
    exact ⟨w2,z2.sameBut hs hcc⟩
  ·obtain ⟨e,n,ne,nf,d⟩:=I.pin p hp
   refine ⟨(hs.2 p.1 ?_).trans e,n,ne,nf,d⟩
   intro q
   rw [q,hoc] at e
   have q':oc=p.2:=qoi e
   exact d w' (by rw [<-q'];exact hocd)
theorem zkg {M:Model}{A:Around}{E:Value->Shared->Prop}{i:Nat}{x:Str}{v:V}{u:Value}{Q:Unit->Shared->Prop}(I:Inv X pins σ H s) (hN:X.N.Nodup) (hi:X.N[i]? = some x) (hx:Loc X.env.scope x) (r:RelV v u)
  (h:∀s',Inv X pins (σ.set i (some v)) H s'->Q () s') (hf:X.fn x=true\/X.env.scope.names.lookup x=some .local:=by first|exact .inl rfl|exact .inr rfl|assumption):wpAny M A (storeName X.env x u) Q E s :=
 zkf I hN hi hx r (λs' I' _=>h s' I') hf
theorem Inv.call' {s':Shared}{ch:List Addr}(I:Inv X pins σ H s) (ho:s'.os=s.os) (u:Un (frs X.stack) ch H H' s.heap s'.heap) (hok:HOk X.prog X.w H' s'.heap) (hg:AllBare s'.gens)
  (hch:∀b∈ch,(b∈X.ex\/X.s₀.heap.objs.size<=b)/\b≠X.env.locals/\(∀x c,X.env.cells.lookup x=some c->c≠b)/\∀p∈X.pn++pins,p.1≠b):Inv X pins σ H' s':=by
 obtain ⟨h',g',d',t',o'⟩:=s'
 have e:o' = s.os:=ho
 subst e
 exact I.call (g':=g') (t':=t') (d':=d') u hok hg hch
end
abbrev XK:=Value->Option Addr->Hp->Prop
abbrev St:=List (Option V)
abbrev VK:=V->Hp->Prop
abbrev TE:=St->Hp->VK->Prop
abbrev TT:=St->Hp->(Bool->Hp->Prop)->Prop
abbrev TA:=St->Hp->(List V->Hp->Prop)->Prop
structure Ends where
 nx:St->Hp->Prop
 rt:VK
 bk:St->Hp->Prop:=λ_ _=>False
 ct:St->Hp->Prop:=λ_ _=>False
abbrev TS:=Ends->St->Hp->Prop
def EP (X:Cx) (pins:List (Addr × Obj)) (σ:St) (Q:VK) (u:Value) (s':Shared):Prop:=∃v H',Inv X pins σ H' s'/\RelV v u/\Q v H'
def TP (X:Cx) (pins:List (Addr × Obj)) (σ:St) (Q:Bool->Hp->Prop) (b:Bool) (s':Shared):Prop:=∃H',Inv X pins σ H' s'/\Q b H'
def AP (X:Cx) (pins:List (Addr × Obj)) (σ:St) (Q:List V->Hp->Prop) (us:List Value) (s':Shared):Prop:=∃vs H',Inv X pins σ H' s'/\Vals vs us/\Q vs H'
def SP (X:Cx) (pins:List (Addr × Obj)) (D:Ends) (f:Flow) (s':Shared):Prop :=
 match f with
 | .next=>∃σ' H',Inv X pins σ' H' s'/\D.nx σ' H'
 | .brk=>∃σ' H',Inv X pins σ' H' s'/\D.bk σ' H'
 | .cont=>∃σ' H',Inv X pins σ' H' s'/\D.ct σ' H'
 | .ret u=>∃v σ' H',Inv X pins σ' H' s'/\RelV v u/\D.rt v H'
def PE (X:Cx) (e:Expr) (t:TE):Prop :=
 ∀(pins:List (Addr × Obj)) (s:Shared) (σ:St) (H:Hp) (Q:VK),Inv X pins σ H s->t σ H Q->wpAny (model X.prog X.w) X.A (eval e X.env) (EP X pins σ Q) X.xe s
def PT (X:Cx) (e:Expr) (t:TT):Prop :=
 ∀(pins:List (Addr × Obj)) (s:Shared) (σ:St) (H:Hp) (Q:Bool->Hp->Prop),Inv X pins σ H s->t σ H Q->wpAny (model X.prog X.w) X.A (isTrue e X.env (eval e X.env)) (TP X pins σ Q) X.xe s
def PW (X:Cx) (e:Expr) (t:TT):Prop :=
 ∀(whole:Sem Value) (pins:List (Addr × Obj)) (s:Shared) (σ:St) (H:Hp) (Q:Bool->Hp->Prop),Inv X pins σ H s->t σ H Q->wpAny (model X.prog X.w) X.A (isTrue e X.env whole) (TP X pins σ Q) X.xe s
theorem PW.pt {X:Cx}{e:Expr}{t:TT}(h:PW X e t):PT X e t:=h _
def PA (X:Cx) (es:List Expr) (t:TA):Prop :=
 ∀(pos:Pos) (pins:List (Addr × Obj)) (s:Shared) (σ:St) (H:Hp) (Q:List V->Hp->Prop),Inv X pins σ H s->t σ H Q->wpAny (model X.prog X.w) X.A (spliced (backTo pos (starEach es X.env))) (AP X pins σ Q) X.xe s
def PS (X:Cx) (st:Stmt) (t:TS):Prop :=
 ∀(pins:List (Addr × Obj)) (s:Shared) (σ:St) (H:Hp) (D:Ends),Inv X pins σ H s->t D σ H->wpAny (model X.prog X.w) X.A (exec st X.env) (SP X pins D) X.xe s
def PSs (X:Cx) (st:List Stmt) (t:TS):Prop :=
 ∀(pins:List (Addr × Obj)) (s:Shared) (σ:St) (H:Hp) (D:Ends),Inv X pins σ H s->t D σ H->wpAny (model X.prog X.w) X.A (execs st X.env) (SP X pins D) X.xe s
theorem thn {α:Type}{t:Sem α}{Q Q':α->Shared->Prop}{M:Model}{A:Around}{E:Value->Shared->Prop}{s:Shared}(h:wpAny M A t Q E s) (hQ:∀a s,Q a s->Q' a s):wpAny M A t Q' E s:=wpAny_mono h hQ λ_ _ x=>x
section
variable {X:Cx}
def zut (i:Nat):TE:=λσ H Q=>∃v,σ[i]? = some (some v)/\Q v H
def tC (v:V):TE:=λ_ H Q=>Q v H
theorem zuu {i:Nat}{x:Str}{pos:Pos}(hN:X.N[i]? = some x) (hv:Vis X.env.scope x) (hd:(x == ("__debug__":Str))=false:=by decide) (hcd:(x == ("__classdict__":Str))=false:=by decide):PE X (.Name x pos) (zut i):=by
 intro pins s σ H Q I h
 obtain ⟨v,e,h⟩:=h
 obtain ⟨m,hn,hl⟩:=I.loc
 obtain ⟨u,r,l⟩:=hl i x v hN e hv
 have fin:EP X pins σ Q u s:=⟨v,H,I,r,h⟩
 rcases l with ⟨hk,hm⟩|⟨hk,c,hc,hcell⟩
 ·exact wpAny_Name (wpAny_loadName_local I.ok.kind hk hn hm fin) hd
 ·rcases hk with hk|hk
  ·exact wpAny_Name (wpAny_loadName_cell I.ok.kind hk hc hcell fin) hd
  ·exact wpAny_Name (wpAny_loadName_free I.ok.kind hk hc hcell fin hcd) hd
theorem zuv {i j pos}:PE X (.Constant (.int i) j pos) (tC (.int i)):=λ_ _ _ H _ I h=>wpAny_Constant_int ⟨.int i,H,I.tok _,⟨_,rfl⟩,h⟩
theorem zuw {b j pos}:PE X (.Constant (.bool b) j pos) (tC (.bl b)):=λ_ _ _ H _ I h=>Constant_bool ⟨.bl b,H,I,rfl,h⟩
theorem zux {j pos}:PE X (.Constant .none j pos) (tC .non):=λ_ _ _ H _ I h=>Constant_none ⟨.non,H,I,rfl,h⟩
theorem zm6 {x j pos}:PE X (.Constant (.str x) j pos) (tC (.str x)):=λ_ _ _ H _ I h=>Calls.Constant_str ⟨.str x,H,I.tok _,⟨_,rfl⟩,h⟩
def Gl (X:Cx) (x:Str):Prop:=X.env.kindOf x=some .globalImplicit
theorem ziq {E:Value->Shared->Prop}{pins:List (Addr × Obj)}{s:Shared}{σ:St}{H:Hp}{x:Str}{u:Value}{pos:Pos}{Q:Value->Shared->Prop}(I:Inv X pins σ H s) (hg:Gl X x) (hm:X.mg x=some u) (h:Q u s)
  (hd:(x == ("__debug__":Str))=false:=by decide):wpAny (model X.prog X.w) X.A (eval (.Name x pos) X.env) Q E s :=
 Calls.Name_function_global I.ok.kind hg (Calls.loadGlobal_global (by rw [I.ok.glob];exact I.mod.glob.keeps I.bk) hm h) hd
theorem zg6 {E:Value->Shared->Prop}{pins:List (Addr × Obj)}{s:Shared}{σ:St}{H:Hp}{x:Str}{u:Value}{pos:Pos}{Q:Value->Shared->Prop}(I:Inv X pins σ H s) (hg:Gl X x) (hm:X.mg x=none) (hv:bootBuiltins x=some u) (h:Q u s)
  (hn:x≠"__name__":=by decide) (hd:(x == ("__debug__":Str))=false:=by decide):wpAny (model X.prog X.w) X.A (eval (.Name x pos) X.env) Q E s:=by
 obtain ⟨mb,h1,h2⟩:=I.mod.blt
 exact Calls.Name_function_global I.ok.kind hg (Calls.loadGlobal_builtin (by rw [I.ok.glob];exact I.mod.glob.keeps I.bk) hm (by rw [I.ok.blt];exact h1.keeps I.bk) ((h2 x hn).trans hv) h) hd
theorem zuy {x:Str}{v:V}{u:Value}{pos:Pos}(hg:Gl X x) (hm:X.mg x=none) (hv:bootBuiltins x=some u) (r:RelV v u) (hn:x≠"__name__":=by decide) (hd:(x == ("__debug__":Str))=false:=by decide):PE X (.Name x pos) (tC v) :=
 λ_ _ _ H _ I h=>zg6 I hg hm hv ⟨v,H,I,r,h⟩ hn hd
variable {a b:Expr}{ta tb:TE}{pos:Pos}
def tB (t:TE):TT:=λσ H Q=>t σ H λx H1=>∃c,x=.bl c/\Q c H1
theorem zuz {e:Expr}{t:TE}(h:PE X e t) (he:∀whole,isTrue e X.env whole=(do let v <-whole;standAt e.pos;holding [v] (truthy v)):=by intro _;rfl):PT X e (tB t):=by
 intro pins s σ H Q I hw
 refine isTrue_plain (thn (h pins s σ H _ I hw) λv s1 ⟨x,H1,I1,r1,q1⟩=>?_) (he _)
 obtain ⟨d,rfl,q⟩:=q1
 cases r1
 exact wpAny_truthy_bool ⟨H1,I1,q⟩
variable {tA tB':TT}{rest:List Expr}
def tAnd (t u:TT):TT:=λσ H Q=>t σ H λc H1=>if c=true then u σ H1 Q else Q false H1
def tOr (t u:TT):TT:=λσ H Q=>t σ H λc H1=>if c=true then Q true H1 else u σ H1 Q
def zu0 (t:TT):TT:=λσ H Q=>t σ H λc H1=>Q (!c) H1
theorem zu1 (ha:PT X a tA):PW X (.BoolOp .And [a] pos) tA:=by
 intro wh pins s σ H Q I h
 refine isTrue_and (thn (ha pins s σ H Q I h) λc s1 e=>?_)
 cases c with
 | true=>exact isTrue_and_nil e
 | false=>exact e
theorem zu2 (ha:PT X a tA):PW X (.BoolOp .Or [a] pos) tA:=by
 intro wh pins s σ H Q I h
 refine isTrue_or (thn (ha pins s σ H Q I h) λc s1 e=>?_)
 cases c with
 | false=>exact isTrue_or_nil e
 | true=>exact e
theorem zu3 (ha:PT X a tA) (hb:PW X (.BoolOp .And (b :: rest) pos) tB'):PW X (.BoolOp .And (a :: b :: rest) pos) (tAnd tA tB'):=by
 intro wh pins s σ H Q I h
 refine isTrue_and (thn (ha pins s σ H _ I h) λc s1 ⟨H1,I1,q1⟩=>?_)
 cases c with
 | true=>exact hb wh pins s1 σ H1 Q I1 q1
 | false=>exact ⟨H1,I1,q1⟩
theorem zu4 (ha:PT X a tA) (hb:PW X (.BoolOp .Or (b :: rest) pos) tB'):PW X (.BoolOp .Or (a :: b :: rest) pos) (tOr tA tB'):=by
 intro wh pins s σ H Q I h
 refine isTrue_or (thn (ha pins s σ H _ I h) λc s1 ⟨H1,I1,q1⟩=>?_)
 cases c with
 | true=>exact ⟨H1,I1,q1⟩
 | false=>exact hb wh pins s1 σ H1 Q I1 q1
theorem zu5 (ha:PT X a tA):PT X (.UnaryOp .Not a pos) (zu0 tA):=by
 intro pins s σ H Q I h
 exact isTrue_not (ha pins s σ H (λc H1=>Q (!c) H1) I h)
def zu6 (ta tb:TE):TE:=λσ H Q=>ta σ H λx H1=>∃c,x=.bl c/\if c=true then tb σ H1 Q else Q (.bl false) H1
def zu7 (ta:TE):TE:=λσ H Q=>ta σ H λx H1=>∃c,x=.bl c/\Q (.bl (!c)) H1
theorem zu8 {op}{t:TE}(h:PE X a t):PE X (.BoolOp op [a] pos) t:=λpins s σ H Q I hw=>BoolOp_one (h pins s σ H Q I hw)
theorem zu9 (ha:PE X a ta) (hb:PE X (.BoolOp .And (b :: rest) pos) tb):PE X (.BoolOp .And (a :: b :: rest) pos) (zu6 ta tb):=by
 intro pins s σ H Q I h
 refine BoolOp_and (thn (ha pins s σ H _ I h) λv s1 ⟨x,H1,I1,r1,q1⟩=>?_)
 obtain ⟨c,rfl,q1⟩:=q1
 cases r1
 refine wpAny_truthy_bool ?_
 cases c with
 | true=>exact hb pins s1 σ H1 Q I1 q1
 | false=>exact ⟨.bl false,H1,I1,rfl,q1⟩
theorem zva (ha:PE X a ta):PE X (.UnaryOp .Not a pos) (zu7 ta):=by
 intro pins s σ H Q I h
 refine UnaryOp_ (thn (ha pins s σ H _ I h) λv s1 ⟨x,H1,I1,r1,q1⟩=>?_)
 obtain ⟨c,rfl,q1⟩:=q1
 cases r1
 exact not_of (wpAny_truthy_bool ⟨.bl (!c),H1,I1,rfl,q1⟩)
def tIf (t:TT) (ta tb:TE):TE:=λσ H Q=>t σ H λc H1=>if c=true then ta σ H1 Q else tb σ H1 Q
theorem zvb {c:Expr}(hc:PT X c tA) (ha:PE X a ta) (hb:PE X b tb):PE X (.IfExp c a b pos) (tIf tA ta tb):=by
 intro pins s σ H Q I h
 refine wpAny_IfExp (thn (hc pins s σ H _ I h) λd s1 ⟨H1,I1,q1⟩=>?_)
 cases d with
 | true=>exact ha pins s1 σ H1 Q I1 q1
 | false=>exact hb pins s1 σ H1 Q I1 q1
end
def SqL (K:QFg) (H:Hp) (a:Addr) (xs:List V):Prop :=
 Rd H a (.lst xs) \/
  ∃(o:Obj) (its:Array Value) (n:Nat),K.lookup a=some o/\o.cls=.type "list"/\o.dict=none/\o.data=.seq its n/\its.size<=sizeLine/\Vals xs its.toList
def SqT (K:QFg) (H:Hp) (a:Addr) (xs:List V):Prop :=
 Rd H a (.tup xs) \/
  ∃(o:Obj) (its:Array Value) (n:Nat),K.lookup a=some o/\o.cls=.type "tuple"/\o.data=.seq its n/\its.size<=sizeLine/\Vals xs its.toList
noncomputable def zvc:Value->Option V
 | .none=>some .non
 | .bool b=>some (.bl b)
 | .int i _=>some (.int i)
 | .str x _=>some (.str x)
 | .bytes b _=>some (.byt b)
 | .float b _=>some (.flt b)
 | .ref a=>some (.ref a)
 | .type n=>some (.ty n)
 | _=>none
theorem RelV.abs {x:V}{u:Value}(r:RelV x u):zvc u=some x:=by
 cases x with
 | non=>cases r;rfl
 | bl _=>cases r;rfl
 | int _=>obtain ⟨t,rfl⟩:=r;rfl
 | str _=>obtain ⟨t,rfl⟩:=r;rfl
 | byt _=>obtain ⟨t,rfl⟩:=r;rfl
 | flt _=>obtain ⟨t,rfl⟩:=r;rfl
 | ref _=>cases r;rfl
 | ty _=>cases r;rfl
theorem RelV.inj {x y:V}{u:Value}(r:RelV x u) (q:RelV y u):x=y:=qoi (r.abs.symm.trans q.abs)
theorem Vals.inj:∀{xs ys:List V}{us:List Value},Vals xs us->Vals ys us->xs=ys
 | _,_,_,.nil,.nil=>rfl
 | _,_,_,.cons r t,.cons r' t'=>by rw [r.inj r',Vals.inj t t']
section
variable {X:Cx}{pins:List (Addr × Obj)}{σ:St}{H:Hp}{s:Shared}{a:Addr}{xs ys:List V}
theorem SqT.of {K:QFg}(h:H a=some (.tup xs)):SqT K H a xs:=.inl (.inl h)
theorem Inv.list (I:Inv X pins σ H s) (h:SqL X.K H a xs):∃its:List Value,Vals xs its/\PlainL s.heap a its.toArray/\xs.length<=sizeLine:=by
 rcases h with h|⟨o,its,n,hk,hc,hd,hs,hz,r⟩
 ·obtain ⟨z,its,n,r,e⟩:=h.ok I.hok
  exact ⟨its,r,⟨_,n,e,rfl,rfl,rfl⟩,z⟩
 ·refine ⟨its.toList,r,⟨o,n,I.kIn a o hk,hc,hd,by simpa using hs⟩,?_⟩
  have e:=r.length
  simp only [Array.length_toList] at e
  omega
theorem Inv.tuple (I:Inv X pins σ H s) (h:SqT X.K H a xs):∃its:List Value,Vals xs its/\IsTup s.heap a its.toArray/\xs.length<=sizeLine:=by
 rcases h with h|⟨o,its,n,hk,hc,hs,hz,r⟩
 ·obtain ⟨z,its,r,p⟩:=h.ok I.hok
  exact ⟨its,r,p.tup,z⟩
 ·refine ⟨its.toList,r,⟨o,I.kIn a o hk,hc,n,by simpa using hs⟩,?_⟩
  have e:=r.length
  simp only [Array.length_toList] at e
  omega
theorem Inv.list_inj (I:Inv X pins σ H s) (h:SqL X.K H a xs) (h':SqL X.K H a ys):xs=ys:=by
 obtain ⟨its,r,⟨o,n,e,_,_,d⟩,_⟩:=I.list h
 obtain ⟨its',r',⟨o',n',e',_,_,d'⟩,_⟩:=I.list h'
 rw [e] at e';cases e'
 rw [d] at d'
 injection d' with d1 _
 have:its=its':=by simpa using congrArg Array.toList d1
 subst this
 exact r.inj r'
theorem Inv.tuple_inj (I:Inv X pins σ H s) (h:SqT X.K H a xs) (h':SqT X.K H a ys):xs=ys:=by
 obtain ⟨its,r,⟨o,e,_,n,d⟩,_⟩:=I.tuple h
 obtain ⟨its',r',⟨o',e',_,n',d'⟩,_⟩:=I.tuple h'
 rw [e] at e';cases e'
 rw [d] at d'
 injection d' with d1 _
 have:its=its':=by simpa using congrArg Array.toList d1
 subst this
 exact r.inj r'
end
noncomputable abbrev Cx.wish (X:Cx) (E:Value->Shared->Prop):Cx:={ X with xe:=E }
noncomputable abbrev Cx.nox (X:Cx):Cx:=X.wish λ_ _=>False
theorem Cx.Ok.wish {X:Cx}(ok:X.Ok) (E:Value->Shared->Prop):(X.wish E).Ok :=
 ⟨ok.mod,ok.kind,ok.glob,ok.blt,ok.above,ok.inj,ok.has,ok.cab,ok.hd,ok.frames,ok.stk,ok.exf,ok.bs,ok.bsz,ok.noex,ok.exfs,ok.funs,ok.frf⟩
theorem Cx.Ok.unwish {X:Cx}{E:Value->Shared->Prop}(ok:(X.wish E).Ok):X.Ok :=
 ⟨ok.mod,ok.kind,ok.glob,ok.blt,ok.above,ok.inj,ok.has,ok.cab,ok.hd,ok.frames,ok.stk,ok.exf,ok.bs,ok.bsz,ok.noex,ok.exfs,ok.funs,ok.frf⟩
section
variable {X:Cx}{pins:List (Addr × Obj)}{σ:St}{H:Hp}{s:Shared}{E:Value->Shared->Prop}
theorem Inv.wish (I:Inv X pins σ H s) (E:Value->Shared->Prop):Inv (X.wish E) pins σ H s:=⟨I.ok.wish E,I.os,I.bare,I.base,I.loc,I.cell,I.free,I.freeC,I.pin,I.hok,I.len⟩
theorem Inv.unwish (I:Inv (X.wish E) pins σ H s):Inv X pins σ H s:=⟨I.ok.unwish,I.os,I.bare,I.base,I.loc,I.cell,I.free,I.freeC,I.pin,I.hok,I.len⟩
theorem SP.unwish {D:Ends}{f:Flow}{s':Shared}(h:SP (X.wish E) pins D f s'):SP X pins D f s':=by
 cases f with
 | next=>obtain ⟨σ',H',I,q⟩:=h;exact ⟨σ',H',I.unwish,q⟩
 | brk=>obtain ⟨σ',H',I,q⟩:=h;exact ⟨σ',H',I.unwish,q⟩
 | cont=>obtain ⟨σ',H',I,q⟩:=h;exact ⟨σ',H',I.unwish,q⟩
 | ret u=>obtain ⟨v,σ',H',I,r,q⟩:=h;exact ⟨v,σ',H',I.unwish,r,q⟩
theorem PSs.nox {st:List Stmt}{t:TS}(h:PSs X.nox st t):PSs X st t:=λpins s σ H D I hw =>
 wpAny_mono (h pins s σ H D (I.wish _) hw) (λ_ _ q=>q.unwish) λ_ _ z=>False.elim z
end
section
variable {X:Cx}{st:Stmt}{rest:List Stmt}{t u:TS}{e:Expr}{te:TE}{pos:Pos}
def zvd:TS:=λD σ H=>D.nx σ H
def zve (t u:TS):TS:=λD σ H=>t { D with nx:=u D } σ H
theorem zvf:PSs X [] zvd:=λ_ _ σ H _ I h=>wpAny_execs_nil ⟨σ,H,I,h⟩
theorem zm7 (h1:PS X st t) (h2:PSs X rest u):PSs X (st :: rest) (zve t u):=by
 intro pins s σ H D I h
 refine wpAny_execs_cons (thn (h1 pins s σ H { D with nx:=u D } I h) λf s1 q=>?_)
 cases f with
 | next =>
  obtain ⟨σ',H',I',q⟩:=q
  exact h2 pins s1 σ' H' D I' q
 | ret v=>exact q
 | brk=>exact q
 | cont=>exact q
theorem zvg (h1:PS X st t):PSs X [st] t:=by
 intro pins s σ H D I h
 refine wpAny_execs_cons (thn (h1 pins s σ H D I h) λf s1 q=>?_)
 cases f with
 | next=>exact wpAny_execs_nil q
 | ret v=>exact q
 | brk=>exact q
 | cont=>exact q
theorem Inv.quiet {pins:List (Addr × Obj)}{σ:St}{H:Hp}{s:Shared}(I:Inv X pins σ H s):interactive X.env=false:=by simp [interactive,I.ok.kind]
def zvh (te:TE):TS:=λD σ H=>te σ H λ_ H1=>D.nx σ H1
theorem zvi (he:PE X e te) (hs:swapsWith e none pos.line X.env=pure false:=by rfl):PS X (.Expr e pos) (zvh te):=by
 intro pins s σ H D I h
 exact wpAny_Expr_any (thn (he pins s σ H _ I h) λv s1 ⟨x,H1,I1,r1,q1⟩=>⟨σ,H1,I1,q1⟩) I.quiet hs
def zvj (te:TE):TS:=λD σ H=>te σ H D.rt
theorem zvk (he:PE X e te):PS X (.Return (some e) pos) (zvj te):=by
 intro pins s σ H D I h
 exact wpAny_Return_some (thn (he pins s σ H _ I h) λv s1 ⟨x,H1,I1,r1,q1⟩=>⟨x,σ,H1,I1,r1,q1⟩)
def zvl (c:TT) (t u:TS):TS:=λD σ H=>c σ H λb H1=>if b=true then t D σ H1 else u D σ H1
theorem zm8 {c:Expr}{a b:List Stmt}{tc:TT}(hc:PT X c tc) (ha:PSs X a t) (hb:PSs X b u):PS X (.If c a b pos) (zvl tc t u):=by
 intro pins s σ H D I h
 refine wpAny_If (thn (hc pins s σ H _ I h) λd s1 ⟨H1,I1,q1⟩=>?_)
 cases d with
 | true=>exact ha pins s1 σ H1 D I1 q1
 | false=>exact hb pins s1 σ H1 D I1 q1
def zvm:TS:=λ_ _ _=>False
theorem zvn:PS X st zvm:=λ_ _ _ _ _ _ h=>h.elim
end
abbrev TG:=V->St->Hp->(St->Hp->Prop)->Prop
abbrev TGs:=List V->St->Hp->(St->Hp->Prop)->Prop
def PG (X:Cx) (target:Expr) (t:TG):Prop :=
 ∀(pins:List (Addr × Obj)) (s:Shared) (σ:St) (H:Hp) (v:V) (u:Value) (Q:St->Hp->Prop),Inv X pins σ H s->RelV v u->t v σ H Q ->
  wpAny (model X.prog X.w) X.A (assign target X.env u) (λ_ s'=>∃σ' H',Inv X pins σ' H' s'/\Q σ' H') X.xe s
def PGs (X:Cx) (ts:List Expr) (t:TGs):Prop :=
 ∀(pins:List (Addr × Obj)) (s:Shared) (σ:St) (H:Hp) (vs:List V) (us:List Value) (Q:St->Hp->Prop),Inv X pins σ H s->Vals vs us->t vs σ H Q ->
  wpAny (model X.prog X.w) X.A (assignInOrder ((assignEach ts X.env).map (·.2)) us) (λ_ s'=>∃σ' H',Inv X pins σ' H' s'/\Q σ' H') X.xe s
abbrev TSet:=V->V->V->Hp->(Hp->Prop)->Prop
def zm9 (X:Cx) (t:TSet):Prop :=
 ∀(pins:List (Addr × Obj)) (s:Shared) (σ:St) (H:Hp) (o i v:V) (ov iv u:Value) (Q:Hp->Prop),Inv X pins σ H s->RelV o ov->RelV i iv->RelV v u->t o i v H Q ->
  wpAny (model X.prog X.w) X.A (setItem ov iv u) (λ_ s'=>∃H',Inv X pins σ H' s'/\Q H') X.xe s
section
variable {X:Cx}{pos:Pos}
def zir (i:Nat):TG:=λv σ H Q=>Q (σ.set i (some v)) H
theorem zvo {i:Nat}{x:Str}(hN:X.N.Nodup) (hi:X.N[i]? = some x) (hx:Loc X.env.scope x) (hf:X.fn x=true\/X.env.scope.names.lookup x=some .local:=by first|exact .inl rfl|exact .inr rfl|assumption):PG X (.Name x pos) (zir i):=by
 intro pins s σ H v u Q I r h
 exact wpAny_assign_Name (zkg I hN hi hx r (λs' I'=>⟨_,H,I',h⟩) hf)
def zvp:TGs:=λvs σ H Q=>vs=[]/\Q σ H
def zvq (t:TG) (u:TGs):TGs:=λvs σ H Q=>∃v r,vs=v :: r/\t v σ H λσ' H'=>u r σ' H' Q
theorem zvr:PGs X [] zvp:=by
 intro pins s σ H vs us Q I r h
 obtain ⟨e,h⟩:=h
 subst e
 cases r
 exact assignInOrder_nil ⟨σ,H,I,h⟩
theorem zvs {e:Expr}{es:List Expr}{t:TG}{u:TGs}(h1:PG X e t) (h2:PGs X es u)
  (hs:(assignEach (e :: es) X.env).map (·.2)=assign e X.env :: (assignEach es X.env).map (·.2):=by rfl):PGs X (e :: es) (zvq t u):=by
 intro pins s σ H vs us Q I r h
 obtain ⟨v,vr,e1,h⟩:=h
 subst e1
 cases r with
 | cons r rr =>
  rw [hs]
  refine assignInOrder_cons (thn (h1 pins s σ H _ _ _ I r h) λ_ s1 ⟨σ1,H1,I1,q1⟩=>?_)
  exact h2 pins s1 σ1 H1 _ _ Q I1 rr q1
def zvt (K:QFg) (n:Nat) (t:TGs):TG:=λv σ H Q=>∃a xs,v=.ref a/\SqT K H a xs/\xs.length=n/\t xs σ H Q
theorem zna {es:List Expr}{k:Nat}{t:TGs}{n:Nat}(hc:X.calm=true) (h:PGs X es t)
  (hn:(assignEach es X.env).length=n:=by rfl) (hst:(assignEach es X.env).findIdx? (·.1)=none:=by rfl):PG X (.Tuple es k pos) (zvt X.K n t):=by
 intro pins s σ H v u Q I r hw
 obtain ⟨a,xs,e1,hq,hl,hw⟩:=hw
 subst e1
 cases r
 obtain ⟨its,rv,ht,hz⟩:=I.tuple hq
 refine assign_Tuple_tuple (I.ok.hd hc) ht (by simp [hn,<-hl,rv.length]) hst λh' hx=>?_
 have I1:Inv X pins σ H { s with heap:=h' }:=I.kept (t':=s.toks) λb o e=>hx b o (Nat.ne_of_lt (Heap.lt_size e)) e
 exact h pins _ σ H xs _ Q I1 (by simpa using rv) hw
def zvu (to ti:TE) (t:TSet):TG:=λv σ H Q=>to σ H λo H1=>ti σ H1 λi H2=>t o i v H2 λH3=>Q σ H3
theorem zvv {o i:Expr}{to ti:TE}{t:TSet}(ho:PE X o to) (hi:PE X i ti) (hs:zm9 X t)
  (ha:∀v,assign (.Subscript o i pos) X.env v=(do
   let ov <-holding [v] (eval o X.env)
   let iv <-holding [v,ov] (eval i X.env)
   standAt pos
   holding [v,ov,iv] (setItem ov iv v)
   release [v,ov,iv] []):=by intro _;rfl):PG X (.Subscript o i pos) (zvu to ti t):=by
 intro pins s σ H v u Q I r h
 rw [ha]
 refine qwb (wpAny_holding (thn (ho pins s σ H _ I h) λov s1 ⟨x,H1,I1,r1,q1⟩=>?_))
 refine qwb (wpAny_holding (thn (hi pins s1 σ H1 _ I1 q1) λiv s2 ⟨y,H2,I2,r2,q2⟩=>?_))
 refine qwb (wpAny_standAt (qwb (wpAny_holding (thn (hs pins s2 σ H2 x y v ov iv u _ I2 r1 r2 r q2) λ_ s3 ⟨H3,I3,q3⟩=>?_))))
 exact wpAny_release ⟨σ,H3,I3,q3⟩
def zis (te:TE) (g:TG):TS:=λD σ H=>te σ H λx H1=>g x σ H1 D.nx
theorem zvw {tg e:Expr}{te:TE}{g:TG}(he:PE X e te) (hg:PG X tg g) (hs:swapsWithSole [tg] e pos.line X.env=pure false:=by rfl) (hw:swappedStores [tg] e X.env=pure none:=by rfl)
  (h1:(assignEach [tg] X.env).map (·.2)=[assign tg X.env]:=by rfl):PS X (.Assign [tg] e pos) (zis te g):=by
 intro pins s σ H D I h
 refine wpAny_Assign_stores (thn (he pins s σ H _ I h) λv s1 ⟨x,H1,I1,r1,q1⟩=>?_) hs hw
 rw [h1]
 exact thn (hg pins s1 σ H1 x v _ I1 r1 q1) λ_ s2 q=>q
theorem zvx {i:Nat}{x:Str}{e:Expr}{te:TE}{pos':Pos}(hN:X.N.Nodup) (hi:X.N[i]? = some x) (hx:Loc X.env.scope x) (he:PE X e te) (hs:swapsWith e (some (.Name x pos')) pos.line X.env=pure false:=by rfl) (hf:X.fn x=true\/X.env.scope.names.lookup x=some .local:=by first|exact .inl rfl|exact .inr rfl|assumption) :
  PS X (.Assign [.Name x pos'] e pos) (zis te (zir i)):=by
 intro pins s σ H D I h
 refine wpAny_Assign_Name (thn (he pins s σ H _ I h) λv s1 ⟨y,H1,I1,r1,q1⟩=>?_) hs
 exact zkg I1 hN hi hx r1 (λs2 I2=>⟨_,H1,I2,q1⟩) hf
end
section
variable {X:Cx}{pos:Pos}
def zvy (c:TT) (tb:TS):TS:=λD σ H=>∃W:Nat->St->Hp->Prop,(∃m,W m σ H)/\∀m σ H,W m σ H ->
 c σ H λb H1=>if b=true then ∃N:St->Hp->Prop,(∀σ' H',N σ' H'->∃m',m' < m/\W m' σ' H')/\tb { D with nx:=N,ct:=N,bk:=D.nx } σ H1 else D.nx σ H1
theorem zvz {c:Expr}{body:List Stmt}{tc:TT}{tb:TS}(hp:PassesOwn (model X.prog X.w) X.A X.env X.xe) (hc:PT X c tc) (hb:PSs X body tb):PS X (.While c body [] pos) (zvy tc tb):=by
 intro pins s σ H D I h
 obtain ⟨W,⟨m0,w0⟩,turn⟩:=h
 refine wpAny_While (codeAny_whileLoop (λn s'=>∃σ' H',Inv X pins σ' H' s'/\W n σ' H') ?_ m0 ⟨σ,H,I,w0⟩)
 rintro n s1 ⟨σ1,H1,I1,w1⟩
 refine wpAny_passesOwn hp (thn (hc pins s1 σ1 H1 _ I1 (turn n σ1 H1 w1)) λb s2 ⟨H2,I2,q2⟩=>?_)
 cases b with
 | true =>
  obtain ⟨N,hN,q2⟩:=q2
  rw [if_pos rfl]
  refine wpAny_passesOwn hp (thn (hb pins s2 σ1 H2 _ I2 q2) λf s3 q3=>?_)
  cases f with
  | next =>
   obtain ⟨σ3,H3,I3,n3⟩:=q3
   obtain ⟨m',hm,w3⟩:=hN σ3 H3 n3
   exact ⟨m',hm,σ3,H3,I3,w3⟩
  | cont =>
   obtain ⟨σ3,H3,I3,n3⟩:=q3
   obtain ⟨m',hm,w3⟩:=hN σ3 H3 n3
   exact ⟨m',hm,σ3,H3,I3,w3⟩
  | brk=>exact q3
  | ret v=>exact q3
 | false =>
  rw [if_neg Bool.false_ne_true]
  exact wpAny_execs_nil ⟨σ1,H2,I2,q2⟩
end
structure It where
 go:Nat->Hp->Prop
 yld:Nat->Hp->V->Hp->Prop
 stop:Nat->Hp->Prop
def zcn (X:Cx) (pins:List (Addr × Obj)) (H:Hp) (b:Addr):Prop :=
 H b=none/\b≠X.env.locals/\b ∉ X.fs/\(b∈X.ex\/X.s₀.heap.objs.size<=b)/\(∀x c,X.env.cells.lookup x=some c->c≠b)/\∀p∈X.pn++pins,p.1≠b
theorem Inv.fpOk {X:Cx}{pins:List (Addr × Obj)}{σ:St}{H H':Hp}{s:Shared}{b:Addr}(I:Inv X pins σ H s) (hb:s.heap.objs.size<=b) (hn:H' b=none):zcn X pins H' b:=by
 refine ⟨hn,Nat.ne_of_gt (Nat.lt_of_lt_of_le I.lt hb),I.nofs hb,.inr (Nat.le_trans I.sz hb),λx c e z=>?_,λp hp z=>?_⟩
 ·obtain ⟨v,q⟩:=I.cell x c e
  exact absurd (Nat.lt_of_lt_of_le q.lt (by rw [z];exact hb)) (Nat.lt_irrefl _)
 ·exact absurd (Nat.lt_of_lt_of_le (Heap.lt_size (I.pin p hp).1) (by rw [z];exact hb)) (Nat.lt_irrefl _)
structure Turn (P:Program) (w:World) (K:QFg) (tg:Expr) (J:It) (fp:List Addr) (it:Addr) (tn:Nat->Heap->Prop):Prop where
 mem:it∈fp
 obj:∀i h,tn i h->∀b∈fp,∃o,h.get? b=some o/\∀v,o.data≠.cell v
 keep:∀i h h',tn i h->(∀b∈fp,∀o,h.get? b=some o->h'.get? b=some o)->tn i h'
 item:∀(X:Cx),X.prog=P->X.w=w->X.K=K->X.calm=true->∀(i:Nat) (pins:List (Addr × Obj)) (s:Shared) (σ:St) (H:Hp) (E:Value->Shared->Prop),Inv X pins σ H s->(∀b∈fp,zcn X pins H b)->tn i s.heap->J.go i H ->
  wpAny (model P w) X.A (pyNext (.ref it)) (λr s1=>∃u,r=some u /\
   wpAny (model P w) X.A (letOwnedTupleGo tg (.ref it) u) (λ_ s2=>∃x H',Inv X pins σ H' s2/\RelV x u/\J.yld i H x H'/\tn (i+1) s2.heap/\∀b∈fp,H' b=none) E s1) E s
 done:∀(X:Cx),X.prog=P->X.w=w->X.K=K->X.calm=true->∀(i:Nat) (pins:List (Addr × Obj)) (s:Shared) (σ:St) (H:Hp) (E:Value->Shared->Prop),Inv X pins σ H s->(∀b∈fp,zcn X pins H b)->tn i s.heap->J.stop i H ->
  wpAny (model P w) X.A (pyNext (.ref it)) (λr s1=>r=none/\Inv X pins σ H s1) E s
 self:∀(A:Around) (i:Nat) (s:Shared) (Q:Value->Shared->Prop) (E:Value->Shared->Prop),tn i s.heap->Q (.ref it) s->wpAny (model P w) A (pyIter (.ref it)) Q E s
abbrev TI:=St->Hp->(It->Hp->Prop)->Prop
def PIE (X:Cx) (pins:List (Addr × Obj)) (σ:St) (tg:Expr) (R:It->Hp->Prop) (itv:Value) (s2:Shared):Prop :=
 ∃(it:Addr) (fp:List Addr) (tn:Nat->Heap->Prop) (J:It) (H':Hp),itv=.ref it/\Inv X pins σ H' s2/\Turn X.prog X.w X.K tg J fp it tn/\tn 0 s2.heap/\(∀b∈fp,zcn X pins H' b)/\R J H'
def PI (X:Cx) (tg iter:Expr) (wi:TI):Prop :=
 ∀(pins:List (Addr × Obj)) (s:Shared) (σ:St) (H:Hp) (R:It->Hp->Prop),Inv X pins σ H s->wi σ H R ->
  wpAny (model X.prog X.w) X.A (eval iter X.env) (λv s1=>wpAny (model X.prog X.w) X.A (pyIter v) (PIE X pins σ tg R) X.xe s1) X.xe s
theorem zit {M:Model}{A:Around}{E:Value->Shared->Prop}{s:Shared}{tg:Expr}{it:Addr}{u:Value}{o:Obj}{n:String}{vs:Array Value}{Q:Unit->Shared->Prop}(ho:s.heap.get? it=some o) (hc:o.cls=.type n) (hd:o.data=.fields vs)
  (hn:["enumerate","zip","dict_itemiterator","dict_reverseitemiterator","odict_iterator","itertools.zip_longest","itertools.pairwise"].contains n=false) (hQ:Q () s):wpAny M A (letOwnedTupleGo tg (.ref it) u) Q E s:=by
 unfold letOwnedTupleGo
 cases tg <;> first
  | exact qwp hQ
  | (cases u <;> first
    | exact qwp hQ
    | (refine qwb (wpAny_load ho ?_)
       rw [hc,hd]
       show wpAny M A (if (["enumerate","zip","dict_itemiterator","dict_reverseitemiterator","odict_iterator","itertools.zip_longest","itertools.pairwise"].contains n && vs[0]? == some (rawInt _))=true then _ else _) Q E s
       rw [if_neg (by intro h;rw [hn,Bool.false_and] at h;cases h)]
       exact qwp hQ))
noncomputable def Itl (K:QFg) (a:Addr):It :=
 ⟨λi H=>∃xs x,SqL K H a xs/\xs[i]? = some x,λi H x H'=>H' = H/\∀xs,SqL K H a xs->xs[i]? = some x,λi H=>∃xs,SqL K H a xs/\xs.length<=i⟩
noncomputable def Itt (K:QFg) (a:Addr):It :=
 ⟨λi H=>∃xs x,SqT K H a xs/\xs[i]? = some x,λi H x H'=>H' = H/\∀xs,SqT K H a xs->xs[i]? = some x,λi H=>∃xs,SqT K H a xs/\xs.length<=i⟩
noncomputable def Itr (lo:Int) (n:Nat):It:=⟨λi _=>i<n,λi H x H'=>H' = H/\x=.int (lo+i),λi _=>n<=i⟩
theorem zv0 {P:Program}{w:World}{K:QFg}{tg:Expr}(a it:Addr):Turn P w K tg (Itl K a) [it] it (λi h=>h.IsListIter it a i) where
 mem:=by simp
 obj:=λi h st b hb=>by
  have e:b=it:=by simpa using hb
  subst e
  obtain ⟨o,e,c,d⟩:=st
  exact ⟨o,e,λv z=>by rw [d] at z;cases z⟩
 keep:=λi h h' st k=>st.at λo e=>k it (by simp) o e
 item:=by
  intro X hP hw hK hc i pins s σ H E I hf st hg
  subst hP hw hK
  obtain ⟨xs,x,hq,hx⟩:=hg
  obtain ⟨its,rv,p,hz⟩:=I.list hq
  obtain ⟨u,hu,ru⟩:=rv.get hx
  obtain ⟨f0,f1,f2,f3,f4,f5⟩:=hf it (by simp)
  refine wpAny_pyNext_list_item st p.isList (x:=u) (by simpa using hu) λh' st' sb=>?_
  have I1:Inv X pins σ H { s with heap:=h' }:=I.turned (t':=s.toks) (λb o hb e=>(sb.2 b hb).trans e) f0 f1 f3 f4 f5
  obtain ⟨o,e,c,d⟩:=id st'
  exact ⟨u,rfl,zit (s:={ s with heap:=h' }) e c d (by decide) ⟨x,H,I1,ru,⟨rfl,λys hy=>by rw [I.list_inj hy hq];exact hx⟩,st',λb hb=>(hf b hb).1⟩⟩
 done:=by
  intro X hP hw hK hc i pins s σ H E I hf st hg
  subst hP hw hK
  obtain ⟨xs,hq,hx⟩:=hg
  obtain ⟨its,rv,p,hz⟩:=I.list hq
  obtain ⟨f0,f1,f2,f3,f4,f5⟩:=hf it (by simp)
  have hl:=rv.length
  exact wpAny_pyNext_list_end (I.ok.hd hc) st p.isList (by simp;omega) λh' eb=>⟨rfl,I.turned (t':=s.toks) (λb o hb e=>eb b o hb e) f0 f1 f3 f4 f5⟩
 self:=λ_ _ _ _ _ st h=>wpAny_pyIter_listiter st h
theorem zv1 {P:Program}{w:World}{K:QFg}{tg:Expr}(a it:Addr):Turn P w K tg (Itt K a) [it] it (λi h=>h.IsTupleIter it a i) where
 mem:=by simp
 obj:=λi h st b hb=>by
  have e:b=it:=by simpa using hb
  subst e
  obtain ⟨o,e,c,d⟩:=st
  exact ⟨o,e,λv z=>by rw [d] at z;cases z⟩
 keep:=λi h h' st k=>st.at λo e=>k it (by simp) o e
 item:=by
  intro X hP hw hK hc i pins s σ H E I hf st hg
  subst hP hw hK
  obtain ⟨xs,x,hq,hx⟩:=hg
  obtain ⟨its,rv,p,hz⟩:=I.tuple hq
  obtain ⟨u,hu,ru⟩:=rv.get hx
  obtain ⟨f0,f1,f2,f3,f4,f5⟩:=hf it (by simp)
  refine wpAny_pyNext_tuple_item st (show s.heap.IsTuple a its.toArray from p) (x:=u) (by simpa using hu) λh' st' sb=>?_
  have I1:Inv X pins σ H { s with heap:=h' }:=I.turned (t':=s.toks) (λb o hb e=>(sb.2 b hb).trans e) f0 f1 f3 f4 f5
  obtain ⟨o,e,c,d⟩:=id st'
  exact ⟨u,rfl,zit (s:={ s with heap:=h' }) e c d (by decide) ⟨x,H,I1,ru,⟨rfl,λys hy=>by rw [I.tuple_inj hy hq];exact hx⟩,st',λb hb=>(hf b hb).1⟩⟩
 done:=by
  intro X hP hw hK hc i pins s σ H E I hf st hg
  subst hP hw hK
  obtain ⟨xs,hq,hx⟩:=hg
  obtain ⟨its,rv,p,hz⟩:=I.tuple hq
  obtain ⟨f0,f1,f2,f3,f4,f5⟩:=hf it (by simp)
  have hl:=rv.length
  exact wpAny_pyNext_tuple_end (I.ok.hd hc) st (show s.heap.IsTuple a its.toArray from p) (by simp;omega) λh' eb=>⟨rfl,I.turned (t':=s.toks) (λb o hb e=>eb b o hb e) f0 f1 f3 f4 f5⟩
 self:=λ_ _ _ _ _ st h=>wpAny_pyIter_tupleiter st h
theorem zv2 {P:Program}{w:World}{K:QFg}{tg:Expr}(it:Addr) (lo:Int) (n:Nat):Turn P w K tg (Itr lo n) [it] it (λi h=>IsRangeIter h it (lo+(i:Nat)*1) ((n:Int)-(i:Nat)) 1) where
 mem:=by simp
 obj:=λi h st b hb=>by
  have e:b=it:=by simpa using hb
  subst e
  exact ⟨_,st,λv z=>by
   have z':Data.fields _=Data.cell v:=z
   cases z'⟩
 keep:=λi h h' st k=>k it (by simp) _ st
 item:=by
  intro X hP hw hK hc i pins s σ H E I hf st hg
  subst hP hw hK
  obtain ⟨f0,f1,f2,f3,f4,f5⟩:=hf it (by simp)
  have W:=Walks.range (prog:=X.prog) (w:=X.w) (I.ok.hd hc) it lo 1 n
  refine W.item i s _ _ hg st λv h' tk hv st' kk=>?_
  obtain ⟨t,rfl⟩:=hv
  have I1:Inv X pins σ H { s with heap:=h',toks:=tk }:=I.turned (λb o hb e=>kk b o (by simpa using hb) e) f0 f1 f3 f4 f5
  refine ⟨_,rfl,zit (s:={ s with heap:=h',toks:=tk }) (n:="range_iterator") st' rfl rfl (by decide) ⟨.int (lo+i),H,I1,⟨t,?_⟩,⟨rfl,rfl⟩,st',λb hb=>(hf b hb).1⟩⟩
  rw [Int.mul_one]
 done:=by
  intro X hP hw hK hc i pins s σ H E I hf st hg
  subst hP hw hK
  obtain ⟨f0,f1,f2,f3,f4,f5⟩:=hf it (by simp)
  exact wpAny_pyNext_range_end (I.ok.hd hc) st (by have:n<=i:=hg;omega) λh' eb=>⟨rfl,I.turned (t':=s.toks) (λb o hb e=>eb b o hb e) f0 f1 f3 f4 f5⟩
 self:=λ_ _ _ _ _ st h=>wpAny_pyIter_rangeiter st h
section
variable {X:Cx}{tg:Expr}
def zv3 (K:QFg) (tl:TE):TI:=λσ H R=>tl σ H λx H1=>∃a,x=.ref a/\(∃xs,SqL K H1 a xs)/\R (Itl K a) H1
def zv4 (K:QFg) (tl:TE):TI:=λσ H R=>tl σ H λx H1=>∃a,x=.ref a/\(∃xs,SqT K H1 a xs)/\R (Itt K a) H1
theorem znb {l:Expr}{tl:TE}(hl:PE X l tl):PI X tg l (zv3 X.K tl):=by
 intro pins s σ H R I h
 refine thn (hl pins s σ H _ I h) λv s1 ⟨x,H1,I1,r1,q1⟩=>?_
 obtain ⟨a,e,⟨xs,hq⟩,q⟩:=q1
 subst e
 cases r1
 obtain ⟨its,rv,p,hz⟩:=I1.list hq
 refine wpAny_pyIter_list p.isList ?_
 refine ⟨s1.heap.objs.size,[s1.heap.objs.size],_,_,H1,rfl,I1.kept (t':=s1.toks) λb o e=>qps _ e,zv0 a _,⟨_,Heap.get?_push_size _ rfl,rfl,rfl⟩,λb hb=>?_,q⟩
 have e:b=s1.heap.objs.size:=by simpa using hb
 subst e
 exact I1.fpOk (qlr _) (I1.hok.fresh (qlr _))
theorem zkh {l:Expr}{tl:TE}(hl:PE X l tl):PI X tg l (zv4 X.K tl):=by
 intro pins s σ H R I h
 refine thn (hl pins s σ H _ I h) λv s1 ⟨x,H1,I1,r1,q1⟩=>?_
 obtain ⟨a,e,⟨xs,hq⟩,q⟩:=q1
 subst e
 cases r1
 obtain ⟨its,rv,p,hz⟩:=I1.tuple hq
 refine wpAny_pyIter_tuple (show s1.heap.IsTuple a its.toArray from p) ?_
 refine ⟨s1.heap.objs.size,[s1.heap.objs.size],_,_,H1,rfl,I1.kept (t':=s1.toks) λb o e=>qps _ e,zv1 a _,⟨_,Heap.get?_push_size _ rfl,rfl,rfl⟩,λb hb=>?_,q⟩
 have e:b=s1.heap.objs.size:=by simpa using hb
 subst e
 exact I1.fpOk (qlr _) (I1.hok.fresh (qlr _))
theorem znc {pins:List (Addr × Obj)}{σ:St}{H:Hp}{s:Shared}{R:It->Hp->Prop}{E:Value->Shared->Prop}{lo hi:Int}{t u v:Tok}{tk:Nat}(I:Inv X pins σ H s) (h1:-(2 ^ 62)<=lo) (h2:lo<2 ^ 62) (h3:-(2 ^ 62)<=hi) (h4:hi<2 ^ 62)
  (q:R (Itr lo (hi-lo).toNat) H):wpAny (model X.prog X.w) X.A (pyIter (.ref s.heap.objs.size)) (PIE X pins σ tg R) E { s with heap:=s.heap.push { cls:=.type "range",data:=.fields #[.int lo t,.int hi u,.int 1 v] },toks:=tk }:=by
 refine wpAny_pyIter_range (IsRange.new ..) (small_one h1 h2 h3 h4) ?_
 have I1:Inv X pins σ H { s with heap:=s.heap.push { cls:=.type "range",data:=.fields #[.int lo t,.int hi u,.int 1 v] },toks:=tk }:=I.kept λb o e=>qps _ e
 refine ⟨(s.heap.push { cls:=.type "range",data:=.fields #[.int lo t,.int hi u,.int 1 v] }).objs.size,[(s.heap.push { cls:=.type "range",data:=.fields #[.int lo t,.int hi u,.int 1 v] }).objs.size],_,_,H,rfl,
  I1.kept (t':=tk) λb o e=>qps _ e,zv2 _ lo (hi-lo).toNat,?_,λb hb=>?_,q⟩
 ·have e1:lo+((0:Nat):Int)*1=lo:=by simp
  have e2:(((hi-lo).toNat:Nat):Int)-((0:Nat):Int)=Builtin.Range.rangeSize lo hi 1:=by rw [rangeSize_one];split <;> omega
  show IsRangeIter _ _ (lo+((0:Nat):Int)*1) ((((hi-lo).toNat:Nat):Int)-((0:Nat):Int)) 1
  rw [e1,e2]
  exact Heap.get?_push_size _ rfl
 ·have e:b=(s.heap.push { cls:=.type "range",data:=.fields #[.int lo t,.int hi u,.int 1 v] }).objs.size:=by simpa using hb
  subst e
  exact I1.fpOk (qlr _) (I1.hok.fresh (qlr _))
def zv5 (ta:TA):TI:=λσ H R=>ta σ H λvs H1=>∃j:Int,vs=[.int j]/\-(2 ^ 62)<=j/\j<2 ^ 62/\R (Itr 0 j.toNat) H1
def zv6 (ta:TA):TI:=λσ H R=>ta σ H λvs H1=>∃i j:Int,vs=[.int i,.int j]/\(-(2 ^ 62)<=i/\i<2 ^ 62/\-(2 ^ 62)<=j/\j<2 ^ 62)/\R (Itr i (j-i).toNat) H1
theorem znd {a:Expr}{ta:TA}{p pos:Pos}(hg:Gl X "range") (hm:X.mg "range" = none) (ha:PA X [a] ta) (hs:starEach [a] X.env=[(false,eval a X.env)]:=by rfl):PI X tg (.Call (.Name "range" p) [a] [] pos) (zv5 ta):=by
 intro pins s σ H R I h
 refine Call_ (zg6 I hg hm boot_range (PyProof.Rows.callWith_type1 (thn (ha pos pins s σ H _ I h) λus s1 ⟨vs,H1,I1,r1,q1⟩=>?_) hs rfl))
 obtain ⟨j,e,q1,q2,q⟩:=q1
 subst e
 cases r1 with
 | cons r rr =>
  cases rr
  obtain ⟨t,rfl⟩:=r
  exact call_range_1 (znc I1 (by omega) (by omega) q1 q2 (by simpa using q))
theorem zv7 {a b:Expr}{ta:TA}{p pos:Pos}(hg:Gl X "range") (hm:X.mg "range" = none) (ha:PA X [a,b] ta) (hs:starEach [a,b] X.env=[(false,eval a X.env),(false,eval b X.env)]:=by rfl) (hs2:starEach [b] X.env=[(false,eval b X.env)]:=by rfl) :
  PI X tg (.Call (.Name "range" p) [a,b] [] pos) (zv6 ta):=by
 intro pins s σ H R I h
 refine Call_ (zg6 I hg hm boot_range (PyProof.Rows.callWith_type1 (thn (ha pos pins s σ H _ I h) λus s1 ⟨vs,H1,I1,r1,q1⟩=>?_) (by rw [hs,hs2]) (by rw [hs2];rfl)))
 obtain ⟨i,j,e,⟨q1,q2,q3,q4⟩,q⟩:=q1
 subst e
 cases r1 with
 | cons r rr =>
  cases rr with
  | cons r' rr =>
   cases rr
   obtain ⟨t,rfl⟩:=r
   obtain ⟨t',rfl⟩:=r'
   exact call_range_2 (znc I1 q1 q2 q3 q4 q)
def zv8 (wi:TI) (g:TG) (tb:TS):TS:=λD σ H=>wi σ H λJ H1=>∃W:Nat->Nat->St->Hp->Prop,(∃m,W 0 m σ H1)/\∀i m σ H,W i m σ H ->
 (J.stop i H/\D.nx σ H)\/(J.go i H/\∃N:St->Hp->Prop,(∀σ' H',N σ' H'->∃m',m' < m/\W (i+1) m' σ' H')/\∀x H',J.yld i H x H'->g x σ H' λσ2 H2=>tb { D with nx:=N,ct:=N,bk:=D.nx } σ2 H2)
noncomputable def zdc (fp:List Addr) (h:Heap):List (Addr × Obj):=fp.filterMap λb=>(h.get? b).map λo=>(b,o)
theorem zdx {fp:List Addr}{h:Heap}{b:Addr}{o:Obj}(hb:b∈fp) (e:h.get? b=some o):(b,o)∈zdc fp h:=List.mem_filterMap.mpr ⟨b,hb,by rw [e];rfl⟩
theorem zv9 {fp:List Addr}{h:Heap}{p:Addr × Obj}(hp:p∈zdc fp h):p.1∈fp/\h.get? p.1=some p.2:=by
 obtain ⟨b,hb,e⟩:=List.mem_filterMap.mp hp
 cases q:h.get? b with
 | none=>rw [q] at e;cases e
 | some o =>
  rw [q] at e
  have e':(b,o)=p:=qoi e
  subst e'
  exact ⟨hb,q⟩
theorem Inv.pinned {pins:List (Addr × Obj)}{σ:St}{H:Hp}{s:Shared}{fp:List Addr}(I:Inv X pins σ H s) (hf:∀b∈fp,zcn X pins H b) (ho:∀b∈fp,∃o,s.heap.get? b=some o/\∀v,o.data≠.cell v):Inv X (pins++zdc fp s.heap) σ H s :=
 I.pins_of λp hp=>(List.mem_append.mp hp).elim (λz=>I.pin p (List.mem_append_right _ z)) λz=>by
  obtain ⟨hb,e⟩:=zv9 z
  obtain ⟨f0,f1,f2,_⟩:=hf p.1 hb
  obtain ⟨o,e',d⟩:=ho p.1 hb
  rw [e] at e';cases e'
  exact ⟨e,f0,f1,f2,d⟩
theorem Inv.unpinned {pins pl:List (Addr × Obj)}{σ:St}{H:Hp}{s:Shared}(I:Inv X (pins++pl) σ H s):Inv X pins σ H s:=I.pins_of λp hp=>I.pin p (List.mem_append_right _ (List.mem_append_left _ hp))
theorem zne {iter:Expr}{body:List Stmt}{wi:TI}{g:TG}{tb:TS}{pos:Pos}(hp:PassesOwn (model X.prog X.w) X.A X.env X.xe) (hc:X.calm=true) (hi:PI X tg iter wi) (hg:PG X tg g) (hb:PSs X body tb)
  (hs:∀x,foldedSetIterable iter X.env x=pure x:=by intro _;rfl):PS X (.For tg iter body [] pos) (zv8 wi g tb):=by
 intro pins s σ H D I h
 refine wpAny_For (thn (hi pins s σ H _ I h) λv s1 h1=>thn h1 λitv s2 h2=>?_) hs
 obtain ⟨it,fp,tn,J,H2,e,I2,T,st2,f2,W,⟨m0,w0⟩,turn⟩:=h2
 subst e
 have stat:∀{H':Hp},(∀b∈fp,H' b=none)->∀b∈fp,zcn X pins H' b:=λhn b hb=>⟨hn b hb,(f2 b hb).2⟩
 refine codeAny_forLoop_any (λn s'=>∃i σ' H',Inv X pins σ' H' s'/\tn i s'.heap/\(∀b∈fp,H' b=none)/\W i n σ' H') ?_ m0 ⟨0,σ,H2,I2,st2,λb hb=>(f2 b hb).1,w0⟩
 rintro n s3 ⟨i,σ3,H3,I3,st3,fr3,w3⟩
 rcases turn i n σ3 H3 w3 with ⟨stop,qn⟩|⟨go,N,hN,step⟩
 ·refine wpAny_passesOwn hp (thn (T.done X rfl rfl rfl hc i pins s3 σ3 H3 X.xe I3 (stat fr3) st3 stop) λr s4 ⟨hr,I4⟩=>?_)
  subst hr
  exact wpAny_execs_nil ⟨σ3,H3,I4,qn⟩
 ·refine wpAny_passesOwn hp (thn (T.item X rfl rfl rfl hc i pins s3 σ3 H3 X.xe I3 (stat fr3) st3 go) λr s4 ⟨u,hr,h4⟩=>?_)
  subst hr
  refine wpAny_passesOwn hp (thn h4 λ_ s5 ⟨x,H5,I5,r5,y5,st5,fr5⟩=>?_)
  have I5':=I5.pinned (stat fr5) (T.obj _ _ st5)
  refine wpAny_passesOwn hp (thn (hg _ s5 σ3 H5 x u _ I5' r5 (step x H5 y5)) λ_ s6 ⟨σ6,H6,I6,q6⟩=>?_)
  refine wpAny_passesOwn hp (thn (hb _ s6 σ6 H6 _ I6 q6) λf s7 q7=>?_)
  have again:∀{σ7:St} {H7:Hp},Inv X (pins++zdc fp s5.heap) σ7 H7 s7->N σ7 H7->∃m,m<n/\∃i σ' H',Inv X pins σ' H' s7/\tn i s7.heap/\(∀b∈fp,H' b=none)/\W i m σ' H':=λ{σ7 H7} I7 n7=>by
   obtain ⟨m',hm,w7⟩:=hN σ7 H7 n7
   refine ⟨m',hm,i+1,σ7,H7,I7.unpinned,T.keep _ _ _ st5 λb hb o e=>(I7.pin (b,o) (List.mem_append_right _ (List.mem_append_right _ (zdx hb e)))).1,λb hb=>?_,w7⟩
   obtain ⟨o,e,d⟩:=T.obj _ _ st5 b hb
   exact (I7.pin (b,o) (List.mem_append_right _ (List.mem_append_right _ (zdx hb e)))).2.1
  cases f with
  | next=>obtain ⟨σ7,H7,I7,n7⟩:=q7;exact again I7 n7
  | cont=>obtain ⟨σ7,H7,I7,n7⟩:=q7;exact again I7 n7
  | brk=>obtain ⟨σ7,H7,I7,q7⟩:=q7;exact ⟨σ7,H7,I7.unpinned,q7⟩
  | ret v=>obtain ⟨x7,σ7,H7,I7,r7,q7⟩:=q7;exact ⟨x7,σ7,H7,I7.unpinned,r7,q7⟩
end
abbrev R2:=V->V->Hp->VK->Prop
def OpR (X:Cx) (f:Value->Value->Sem Value) (r:R2):Prop :=
 ∀(pins:List (Addr × Obj)) (s:Shared) (σ:St) (H:Hp) (x y:V) (v u:Value) (Q:VK),Inv X pins σ H s->RelV x v->RelV y u->r x y H Q ->
  wpAny (model X.prog X.w) X.A (f v u) (EP X pins σ Q) X.xe s
def CallR (X:Cx) (f:Value) (r:List V->Hp->VK->Prop):Prop :=
 ∀(pins:List (Addr × Obj)) (s:Shared) (σ:St) (H:Hp) (xs:List V) (us:List Value) (Q:VK),Inv X pins σ H s->Vals xs us->r xs H Q ->
  wpAny (model X.prog X.w) X.A (call f us) (EP X pins σ Q) X.xe s
def zwa (X:Cx) (r:V->Hp->(Bool->Hp->Prop)->Prop):Prop :=
 ∀(pins:List (Addr × Obj)) (s:Shared) (σ:St) (H:Hp) (x:V) (v:Value) (Q:Bool->Hp->Prop),Inv X pins σ H s->RelV x v->r x H Q ->
  wpAny (model X.prog X.w) X.A (truthy v) (TP X pins σ Q) X.xe s
def tOp (r:R2) (ta tb:TE):TE:=λσ H Q=>ta σ H λx H1=>tb σ H1 λy H2=>r x y H2 Q
def rI (C:Int->Int->Prop) (g:Int->Int->V):R2:=λx y H Q=>∃i j,x=.int i/\y=.int j/\C i j/\Q (g i j) H
def rI0 (g:Int->Int->V):R2:=λx y H Q=>∃i j,x=.int i/\y=.int j/\Q (g i j) H
section
variable {X:Cx}{a b c:Expr}{ta tb tc:TE}{pos:Pos}
theorem zki (ha:PE X a ta) (hb:PE X b tb) {pins:List (Addr × Obj)}{s:Shared}{σ:St}{H:Hp}{R:V->V->Hp->Prop}(I:Inv X pins σ H s)
  (h:ta σ H λx H1=>tb σ H1 λy H2=>R x y H2) {Q:Value->Shared->Prop} {f:Value->Value->Sem Value}
  (hf:∀v u s2 x y H2,Inv X pins σ H2 s2->RelV x v->RelV y u->R x y H2->wpAny (model X.prog X.w) X.A (f v u) Q X.xe s2) :
  wpAny (model X.prog X.w) X.A (eval a X.env) (λv s₁=>wpAny (model X.prog X.w) X.A (eval b X.env) (λu s₂=>wpAny (model X.prog X.w) X.A (f v u) Q X.xe s₂) X.xe s₁) X.xe s:=by
 refine thn (ha pins s σ H _ I h) λv s1 ⟨x,H1,I1,r1,q1⟩=>?_
 refine thn (hb pins s1 σ H1 _ I1 q1) λu s2 ⟨y,H2,I2,r2,q2⟩=>?_
 exact hf v u s2 x y H2 I2 r1 r2 q2
theorem zwb {op:Operator}{r:R2}(ho:OpR X (binaryOp op) r) (ha:PE X a ta) (hb:PE X b tb):PE X (.BinOp a op b pos) (tOp r ta tb):=by
 intro pins s σ H Q I h
 exact wpAny_BinOp (zki ha hb I h λv u s2 x y H2 I2 rx ry q=>ho pins s2 σ H2 x y v u Q I2 rx ry q)
theorem opI {f:Value->Value->Sem Value}{C:Int->Int->Prop}{g:Int->Int->Int}
  (rule:∀(i j:Int) (t u:Tok) (s:Shared) (Q:Value->Shared->Prop) (E:Value->Shared->Prop),C i j->Q (.int (g i j) s.toks) { s with toks:=s.toks+1 }->wpAny (model X.prog X.w) X.A (f (.int i t) (.int j u)) Q E s) :
  OpR X f (rI C λi j=>.int (g i j)):=by
 intro pins s σ H x y v u Q I rx ry h
 obtain ⟨i,j,rfl,rfl,hc,q⟩:=h
 obtain ⟨t,rfl⟩:=rx
 obtain ⟨t',rfl⟩:=ry
 exact rule i j t t' s _ _ hc ⟨.int (g i j),H,I.tok _,⟨_,rfl⟩,q⟩
theorem zwc {f:Value->Value->Sem Value}{g:Int->Int->Int}
  (rule:∀(i j:Int) (t u:Tok) (s:Shared) (Q:Value->Shared->Prop) (E:Value->Shared->Prop),Q (.int (g i j) s.toks) { s with toks:=s.toks+1 }->wpAny (model X.prog X.w) X.A (f (.int i t) (.int j u)) Q E s) :
  OpR X f (rI0 λi j=>.int (g i j)):=by
 intro pins s σ H x y v u Q I rx ry h
 obtain ⟨i,j,rfl,rfl,q⟩:=h
 obtain ⟨t,rfl⟩:=rx
 obtain ⟨t',rfl⟩:=ry
 exact rule i j t t' s _ _ ⟨.int (g i j),H,I.tok _,⟨_,rfl⟩,q⟩
theorem zkj {f:Value->Value->Sem Value}{g:Int->Int->Bool}
  (rule:∀(i j:Int) (t u:Tok) (s:Shared) (Q:Value->Shared->Prop) (E:Value->Shared->Prop),Q (.bool (g i j)) s->wpAny (model X.prog X.w) X.A (f (.int i t) (.int j u)) Q E s) :
  OpR X f (rI0 λi j=>.bl (g i j)):=by
 intro pins s σ H x y v u Q I rx ry h
 obtain ⟨i,j,rfl,rfl,q⟩:=h
 obtain ⟨t,rfl⟩:=rx
 obtain ⟨t',rfl⟩:=ry
 exact rule i j t t' s _ _ ⟨.bl (g i j),H,I,rfl,q⟩
def ziu (i j:Int):Prop:=0<j/\j<1073741824
def ziv (i j:Int):Prop:=0<=j/\j<=1000000/\i.natAbs<2 ^ 64
def CMul (i j:Int):Prop:=(-(2 ^ 64)<i/\i<2 ^ 64)\/(-(2 ^ 64)<j/\j<2 ^ 64)
theorem CMul.ok {i j:Int}(h:CMul i j):IntMulOk i j:=by
 rcases h with ⟨h1,h2⟩|⟨h1,h2⟩
 ·exact .of_left (intBits_le_64 h1 h2)
 ·exact .of_right (intBits_le_64 h1 h2)
theorem op_add:OpR X (binaryOp .Add) (rI0 λi j=>.int (i+j)):=zwc λ_ _ _ _ _ _ _ q=>add_int q
theorem op_mul:OpR X (binaryOp .Mult) (rI CMul λi j=>.int (i*j)):=opI λ_ _ _ _ _ _ _ hc q=>mul_int q hc.ok
theorem zwd:OpR X (binaryOp .FloorDiv) (rI ziu λi j=>.int (i / j)):=opI λi j _ _ _ _ _ hc q=>by
 have h1:(0:Int)<j:=hc.1
 have h2:j<1073741824:=hc.2
 exact floordiv_int (by omega) (by rw [Int.fdiv_eq_ediv_of_nonneg i (by omega)];exact q) (.inl (PyProof.noPylong_small (by omega)))
theorem zwe:OpR X (binaryOp .Mod) (rI (λ_ j=>0<j) λi j=>.int (i % j)):=opI λi j _ _ _ _ _ hc q=>by
 have h1:(0:Int)<j:=hc
 exact mod_int' (by omega) (by rw [Int.fmod_eq_emod_of_nonneg i (by omega)];exact q)
theorem zwf:OpR X (binaryOp .Pow) (rI ziv λi j=>.int (i ^ j.toNat)):=opI λ_ _ _ _ _ _ _ hc q=>pow_int_small hc.1 hc.2.1 hc.2.2 q
end
noncomputable def zkk:V->V->Bool
 | .non,.non=>true | .non,.int _=>true | .int _,.non=>true | .non,.bl _=>true | .bl _,.non=>true | .non,.str _=>true | .str _,.non=>true
 | .int _,.int _=>true | .bl _,.bl _=>true | .str _,.str _=>true | .byt _,.byt _=>true
 | .int _,.str _=>true | .str _,.int _=>true | .bl _,.str _=>true | .str _,.bl _=>true
 | _,_=>false
def rEq:R2:=λx y H Q=>zkk x y=true/\Q (.bl (decide (x=y))) H
def rNe:R2:=λx y H Q=>zkk x y=true/\Q (.bl (!decide (x=y))) H
theorem znf {i j:Int}:decide (V.int i=V.int j)=(i == j):=by
 rw [Bool.eq_iff_iff]
 simp
theorem zng {i j:Bool}:decide (V.bl i=V.bl j)=(i == j):=by
 rw [Bool.eq_iff_iff]
 simp
theorem znh {i j:Str}:decide (V.str i=V.str j)=(i == j):=by
 rw [Bool.eq_iff_iff]
 simp
theorem zni {i j:Array UInt8}:decide (V.byt i=V.byt j)=(i.toList == j.toList):=by
 rw [Bool.eq_iff_iff]
 cases i
 cases j
 simp
section
variable {X:Cx}{a b c:Expr}{ta tb tc:TE}{pos:Pos}
theorem za7 {pins:List (Addr × Obj)}{σ:St}{H:Hp}{s:Shared}{Q:VK}{k k':Bool}(I:Inv X pins σ H s) (q:Q (.bl k) H) (e:k=k'):EP X pins σ Q (.bool k') s:=by
 subst e
 exact ⟨.bl k,H,I,rfl,q⟩
theorem zwg:OpR X (compareOp .Eq) rEq:=by
 intro pins s σ H x y v u Q I rx ry h
 obtain ⟨hs,q⟩:=h
 cases x with
 | non =>
  cases rx
  cases y with
  | non=>cases ry;exact PySem.EqNone.eq_none_none (za7 I q (by simp))
  | bl j=>cases ry;exact PySem.EqNone.eq_none_bool (za7 I q (by simp))
  | int j=>obtain ⟨t',rfl⟩:=ry;exact PySem.EqNone.eq_none_int (za7 I q (by simp))
  | str j=>obtain ⟨t',rfl⟩:=ry;exact PySem.EqNone.eq_none_str (za7 I q (by simp))
  | _=>exact absurd (show false=true from hs) Bool.false_ne_true
 | bl i =>
  cases rx
  cases y with
  | non=>cases ry;exact PySem.EqNone.eq_bool_none (za7 I q (by simp))
  | bl j=>cases ry;exact eq_bool (za7 I q zng)
  | str j=>obtain ⟨t',rfl⟩:=ry;exact PySem.EqMixed.eq_bool_str (za7 I q (by simp))
  | _=>exact absurd (show false=true from hs) Bool.false_ne_true
 | int i =>
  obtain ⟨t,rfl⟩:=rx
  cases y with
  | non=>cases ry;exact PySem.EqNone.eq_int_none (za7 I q (by simp))
  | int j=>obtain ⟨t',rfl⟩:=ry;exact eq_int (za7 I q znf)
  | str j=>obtain ⟨t',rfl⟩:=ry;exact PySem.EqMixed.eq_int_str (za7 I q (by simp))
  | _=>exact absurd (show false=true from hs) Bool.false_ne_true
 | str i =>
  obtain ⟨t,rfl⟩:=rx
  cases y with
  | non=>cases ry;exact PySem.EqNone.eq_str_none (za7 I q (by simp))
  | bl j=>cases ry;exact PySem.EqMixed.eq_str_bool (za7 I q (by simp))
  | int j=>obtain ⟨t',rfl⟩:=ry;exact PySem.EqMixed.eq_str_int (za7 I q (by simp))
  | str j=>obtain ⟨t',rfl⟩:=ry;exact eq_str (za7 I q znh)
  | _=>exact absurd (show false=true from hs) Bool.false_ne_true
 | byt i =>
  obtain ⟨t,rfl⟩:=rx
  cases y with
  | byt j=>obtain ⟨t',rfl⟩:=ry;exact PySem.W.eq_bytes (za7 I q zni)
  | _=>exact absurd (show false=true from hs) Bool.false_ne_true
 | _=>cases y <;> exact absurd (show false=true from hs) Bool.false_ne_true
theorem znj:OpR X (compareOp .NotEq) rNe:=by
 intro pins s σ H x y v u Q I rx ry h
 obtain ⟨hs,q⟩:=h
 cases x with
 | non =>
  cases rx
  cases y with
  | non=>cases ry;exact PySem.EqNone.ne_none_none (za7 I q (by simp))
  | bl j=>cases ry;exact PySem.EqNone.ne_none_bool (za7 I q (by simp))
  | int j=>obtain ⟨t',rfl⟩:=ry;exact PySem.EqNone.ne_none_int (za7 I q (by simp))
  | str j=>obtain ⟨t',rfl⟩:=ry;exact PySem.EqNone.ne_none_str (za7 I q (by simp))
  | _=>exact absurd (show false=true from hs) Bool.false_ne_true
 | bl i =>
  cases rx
  cases y with
  | non=>cases ry;exact PySem.EqNone.ne_bool_none (za7 I q (by simp))
  | bl j=>cases ry;exact ne_bool (za7 I q (congrArg not zng))
  | str j=>obtain ⟨t',rfl⟩:=ry;exact PySem.EqMixed.ne_bool_str (za7 I q (by simp))
  | _=>exact absurd (show false=true from hs) Bool.false_ne_true
 | int i =>
  obtain ⟨t,rfl⟩:=rx
  cases y with
  | non=>cases ry;exact PySem.EqNone.ne_int_none (za7 I q (by simp))
  | int j=>obtain ⟨t',rfl⟩:=ry;exact ne_int (za7 I q (congrArg not znf))
  | str j=>obtain ⟨t',rfl⟩:=ry;exact PySem.EqMixed.ne_int_str (za7 I q (by simp))
  | _=>exact absurd (show false=true from hs) Bool.false_ne_true
 | str i =>
  obtain ⟨t,rfl⟩:=rx
  cases y with
  | non=>cases ry;exact PySem.EqNone.ne_str_none (za7 I q (by simp))
  | bl j=>cases ry;exact PySem.EqMixed.ne_str_bool (za7 I q (by simp))
  | int j=>obtain ⟨t',rfl⟩:=ry;exact PySem.EqMixed.ne_str_int (za7 I q (by simp))
  | str j=>obtain ⟨t',rfl⟩:=ry;exact ne_str (za7 I q (congrArg not znh))
  | _=>exact absurd (show false=true from hs) Bool.false_ne_true
 | byt i =>
  obtain ⟨t,rfl⟩:=rx
  cases y with
  | byt j=>obtain ⟨t',rfl⟩:=ry;exact PySem.W.ne_bytes (za7 I q (congrArg not zni))
  | _=>exact absurd (show false=true from hs) Bool.false_ne_true
 | _=>cases y <;> exact absurd (show false=true from hs) Bool.false_ne_true
theorem zwh:OpR X (compareOp .Lt) (rI0 λi j=>.bl (decide (i<j))):=zkj λ_ _ _ _ _ _ _ q=>lt_int q
theorem zwi:OpR X (compareOp .Gt) (rI0 λi j=>.bl (decide (j<i))):=zkj λ_ _ _ _ _ _ _ q=>gt_int q
theorem zwj:OpR X (compareOp .GtE) (rI0 λi j=>.bl (decide (j<=i))):=zkj λ_ _ _ _ _ _ _ q=>ge_int q
theorem zwk:OpR X (compareOp .Is) (λx y H Q=>y=.non/\Q (.bl (decide (x=.non))) H):=by
 intro pins s σ H x y v u Q I rx ry h
 obtain ⟨rfl,q⟩:=h
 cases ry
 refine is_none_gen (za7 I q ?_)
 cases x <;> first
  | (cases rx;rfl)
  | (obtain ⟨t,rfl⟩:=rx;rfl)
theorem zwl:OpR X (compareOp .IsNot) (λx y H Q=>y=.non/\Q (.bl (!decide (x=.non))) H):=by
 intro pins s σ H x y v u Q I rx ry h
 obtain ⟨rfl,q⟩:=h
 cases ry
 refine isnot_none_gen (za7 I q ?_)
 cases x <;> first
  | (cases rx;rfl)
  | (obtain ⟨t,rfl⟩:=rx;rfl)
theorem OpR.or {f:Value->Value->Sem Value}{r r':R2}(h:OpR X f r) (h':OpR X f r'):OpR X f (λx y H Q=>r x y H Q\/r' x y H Q):=by
 intro pins s σ H x y v u Q I rx ry q
 rcases q with q|q
 ·exact h pins s σ H x y v u Q I rx ry q
 ·exact h' pins s σ H x y v u Q I rx ry q
theorem zdy (b:Expr) {op:CmpOp}(h:op≠.In:=by decide) (h2:op≠.NotIn:=by decide):behindInMarks op b=false:=by
 have e1:(op == CmpOp.In)=false:=by cases op <;> first|rfl|exact absurd rfl h
 have e2:(op == CmpOp.NotIn)=false:=by cases op <;> first|rfl|exact absurd rfl h2
 cases b <;> simp [behindInMarks,e1,e2]
theorem zwm {op:CmpOp}{r:R2}(ho:OpR X (compareOp op) r) (ha:PE X a ta) (hb:PE X b tb) (hm:behindInMarks op b=false):PE X (.Compare a [op] [b] pos) (tOp r ta tb):=by
 intro pins s σ H Q I h
 exact wpAny_Compare1 (zki ha hb I h λv u s2 x y H2 I2 rx ry q=>ho pins s2 σ H2 x y v u Q I2 rx ry q) hm
def zwn (t:TE):TT:=λσ H Q=>t σ H λx H'=>∃k,x=.bl k/\Q k H'
theorem zwo {op:CmpOp}{r:R2}(ho:OpR X (compareOp op) r) (ha:PE X a ta) (hb:PE X b tb) (hm:behindInMarks op b=false):PT X (.Compare a [op] [b] pos) (zwn (tOp r ta tb)):=by
 intro pins s σ H Q I h
 refine wpAny_isTrue_Compare1 (thn (ha pins s σ H _ I h) λv s1 ⟨x,H1,I1,r1,q1⟩=>thn (hb pins s1 σ H1 _ I1 q1) λu s2 ⟨y,H2,I2,r2,q2⟩ =>
  thn (ho pins s2 σ H2 x y v u _ I2 r1 r2 q2) λc s3 ⟨z,H3,I3,r3,k,e,q3⟩=>?_) hm
 subst e
 cases r3
 exact wpAny_truthy_bool ⟨H3,I3,q3⟩
def znk (K:QFg) (x:V) (H:Hp) (k:Bool):Prop :=
 match x with
 | .non=>k=false
 | .bl b=>k=b
 | .int i=>k=(i != 0)
 | .str y=>y.length<=sizeLine/\k=((y.length:Int) != 0)
 | .byt y=>y.size<=sizeLine/\k=((y.size:Int) != 0)
 | .ref p=>(∃xs,SqL K H p xs/\k = !xs.isEmpty)\/(∃xs,SqT K H p xs/\k = !xs.isEmpty)\/∃kvs,H p=some (.dK kvs)/\k = !kvs.isEmpty
 | _=>False
theorem zwp {κ:Type}{kvs:List (κ × V)}{vs:List (κ × Value)}(r:KV kvs vs):(!vs.isEmpty) = !kvs.isEmpty:=by
 cases r <;> rfl
theorem znl {xs:List V}{its:List Value}(r:Vals xs its):(!its.toArray.isEmpty) = !xs.isEmpty:=by
 cases r <;> simp
theorem zfc:(sizeLine:Nat)<2 ^ 63:=by rw [sizeLine_eq];decide
theorem zwq:zwa X (λx H Q=>∃k,znk X.K x H k/\Q k H):=by
 intro pins s σ H x v Q I rx h
 obtain ⟨k,e,q⟩:=h
 have hl:=zfc
 have hs:sizeLine=16777216:=sizeLine_eq
 cases x with
 | non =>
  cases rx
  have e':k=false:=e
  subst e'
  exact truthy_none ⟨H,I,q⟩
 | bl b =>
  cases rx
  have e':k=b:=e
  subst e'
  exact wpAny_truthy_bool ⟨H,I,q⟩
 | int i =>
  obtain ⟨t,rfl⟩:=rx
  have e':k=(i != 0):=e
  subst e'
  exact PySem.P.truthy_int ⟨H,I,q⟩
 | str y =>
  obtain ⟨t,rfl⟩:=rx
  obtain ⟨hy,e'⟩:y.length<=sizeLine/\k=((y.length:Int) != 0):=e
  subst e'
  exact PySem.P.truthy_str (by omega) ⟨H,I.tok _,q⟩
 | byt y =>
  obtain ⟨t,rfl⟩:=rx
  obtain ⟨hy,e'⟩:y.size<=sizeLine/\k=((y.size:Int) != 0):=e
  subst e'
  exact PySem.W.truthy_bytes (by omega) ⟨H,I.tok _,q⟩
 | ref p =>
  cases rx
  have e':(∃xs,SqL X.K H p xs/\k = !xs.isEmpty)\/(∃xs,SqT X.K H p xs/\k = !xs.isEmpty)\/∃kvs,H p=some (.dK kvs)/\k = !kvs.isEmpty:=e
  rcases e' with ⟨xs,hx,e'⟩|⟨xs,hx,e'⟩|⟨kvs,hx,e'⟩
  ·subst e'
   obtain ⟨its,r,pl,hz⟩:=I.list hx
   have hlen:=r.length
   exact wpAny_truthy_list pl.isList (by simp only [List.size_toArray];omega) ⟨H,I.tok _,by rw [znl r];exact q⟩
  ·subst e'
   obtain ⟨its,r,pl,hz⟩:=I.tuple hx
   have hlen:=r.length
   exact truthy_tuple pl (by simp only [List.size_toArray];omega) ⟨H,I.tok _,by rw [znl r];exact q⟩
  ·subst e'
   obtain ⟨hz,hS,vs,r,m⟩:kvs.length<=sizeLine/\(p == sysModules)=false/\∃vs,KV kvs vs/\s.heap.DictOf (zbr X.prog X.w) p vs:=I.hok p _ hx
   have hlen:kvs.length=vs.length:=Paired.length r
   exact wpAny_truthy_dict hS m (by omega) ⟨H,I.tok _,by rw [zwp r];exact q⟩
 | _=>exact (show False from e).elim
theorem zwr (ha:PE X a ta) (he:∀whole,isTrue a X.env whole=(do let v <-whole;standAt a.pos;holding [v] (truthy v))) :
  PT X a (λσ H Q=>ta σ H λx H'=>∃k,znk X.K x H' k/\Q k H'):=by
 intro pins s σ H Q I h
 exact isTrue_plain (thn (ha pins s σ H _ I h) λv s1 ⟨x,H1,I1,r1,q1⟩=>zwq pins s1 σ H1 x v Q I1 r1 q1) (he _)
theorem op_add_str:OpR X (binaryOp .Add) (λx y H Q=>∃i j,x=.str i/\y=.str j/\i.length+j.length<=sizeLine/\Q (.str (i++j)) H):=by
 intro pins s σ H x y v u Q I rx ry h
 obtain ⟨i,j,rfl,rfl,hz,q⟩:=h
 obtain ⟨t,rfl⟩:=rx
 obtain ⟨t',rfl⟩:=ry
 exact add_str (λt' tk=>⟨.str (i++j),H,I.tok _,⟨_,rfl⟩,q⟩) hz
theorem zcr {x:V}{us:List Value}(r:Vals [x] us):∃u,us=[u]/\RelV x u:=by
 cases r with
 | cons r1 r2=>cases r2;exact ⟨_,rfl,r1⟩
theorem zws:CallR X (.builtin "abs") (λxs H Q=>∃i,xs=[.int i]/\Q (.int (if i<0 then -i else i)) H):=by
 intro pins s σ H xs us Q I r h
 obtain ⟨i,rfl,q⟩:=h
 obtain ⟨u,rfl,t,rfl⟩:=zcr r
 exact call_abs_int λu tk=>⟨.int (if i<0 then -i else i),H,I.tok _,⟨_,rfl⟩,q⟩
theorem zwt:CallR X (.type "int") (λxs H Q=>(∃i,xs=[.int i]/\Q (.int i) H)\/∃k,xs=[.bl k]/\Q (.int (if k then 1 else 0)) H):=by
 intro pins s σ H xs us Q I r h
 rcases h with ⟨i,rfl,q⟩|⟨k,rfl,q⟩
 ·obtain ⟨u,rfl,t,rfl⟩:=zcr r
  exact call_int_int ⟨.int i,H,I,⟨_,rfl⟩,q⟩
 ·obtain ⟨u,rfl,r1⟩:=zcr r
  cases r1
  exact call_int_bool ⟨.int (if k then 1 else 0),H,I.tok _,⟨_,rfl⟩,q⟩
end
section
variable {prog:Program}{w:World}{A:Around}{E:Value->Shared->Prop}{s:Shared}{K:QFg}{x dx C f:Addr}{mA:Str->Option Value}{name:Str}{v:Value}
end
theorem RelO.some_of {v:V}{o:Option Value}(r:RelO (some v) o):∃u,o=some u/\RelV v u:=by
 cases o with
 | none=>exact (show False from r).elim
 | some u=>exact ⟨u,rfl,r⟩
section
variable {P:Program}{w:World}{H H':Hp}{h h':Heap}{a C dx:Addr}{fs fs':List (Str × V)}
end
section
variable {X:Cx}{pins:List (Addr × Obj)}{σ:St}{H:Hp}{s:Shared}{a C dx:Addr}{fs:List (Str × V)}{f:Str}{v:V}{A:Around}{E:Value->Shared->Prop}
end
def zwu (X:Cx) (op:Operator) (rd:V->V->Hp->VK->Prop):Prop :=
 ∀(pins:List (Addr × Obj)) (s:Shared) (σ:St) (H:Hp) (x y:V) (u v:Value) (Q:VK),Inv X pins σ H s->RelV x u->RelV y v->rd x y H Q->wpAny (model X.prog X.w) X.A (inplaceOp op u v) (EP X pins σ Q) X.xe s
section
variable {X:Cx}{o e value:Expr}{f:Str}{pos pos' tpos:Pos}{ta tv:TE}
end
section
variable {X:Cx}{pins:List (Addr × Obj)}{σ:St}{H:Hp}{s:Shared}{A:Around}{E:Value->Shared->Prop}{Q:Value->Shared->Prop}{c:Value}{b:Bool}
end
structure Room (k:Nat) (A:Around):Prop where
 hd:A.handled=none
 dp:A.depth+3*k+5<recursionLimit
 un:A.units+16*k+200<cLine
 gd:A.guards=some []
theorem Room.mono {j k:Nat}{A:Around}(r:Room k A) (h:j<=k):Room j A:=⟨r.hd,by have:=r.dp;omega,by have:=r.un;omega,r.gd⟩
theorem Room.deeper {k:Nat}{A:Around}(r:Room (k+1) A) (env:Env):Room k (A.deeper env) :=
 ⟨r.hd,by have:=r.dp;show A.depth+1+3*k+5<_;omega,by have:=r.un;show A.units+3+16*k+200<_;omega,r.gd⟩
theorem Room.depth {k:Nat}{A:Around}(r:Room k A):A.depth<recursionLimit:=by have:=r.dp;omega
def zwv:TA:=λ_ H Q=>Q [] H
def zww (ta:TE) (tr:TA):TA:=λσ H Q=>ta σ H λx H1=>tr σ H1 λxs H2=>Q (x :: xs) H2
section
variable {X:Cx}{e:Expr}{es:List Expr}{te:TE}{t:TA}{pos:Pos}
theorem zf1:PA X [] zwv:=λ_ _ _ _ H Q I h=>Calls.spliced_nil ⟨[],H,I,.nil,h⟩
theorem zeu (ha:PE X e te) (hr:PA X es t) (hs:starEach (e :: es) X.env=(false,eval e X.env) :: starEach es X.env:=by rfl):PA X (e :: es) (zww te t):=by
 intro pos pins s σ H Q I h
 rw [hs]
 show wpAny _ _ (spliced ((false,eval e X.env) :: backTo pos (starEach es X.env))) _ _ s
 refine Calls.spliced_cons (thn (ha pins s σ H _ I h) λu s1 ⟨x,H1,I1,r1,q1⟩=>?_)
 exact thn (hr pos pins s1 σ H1 _ I1 q1) λus s2 ⟨xs,H2,I2,r2,q2⟩=>⟨x :: xs,H2,I2,.cons r1 r2,q2⟩
def zwx (t:TA):TE:=λσ H Q=>t σ H λxs H1=>xs.length<=sizeLine/\∀p,H1 p=none->Q (.ref p) (upd H1 p (.tup xs))
def zwy (t:TA):TE:=λσ H Q=>t σ H λxs H1=>xs.length<=sizeLine/\∀p,H1 p=none->Q (.ref p) (upd H1 p (.lst xs))
theorem zwz {x1}(h:PA X es t):PE X (.Tuple es x1 pos) (zwx t):=by
 intro pins s σ H Q I hq
 refine wpAny_Tuple_spliced (thn (h pos pins s σ H _ I hq) λus s1 ⟨xs,H1,I1,r,z,q⟩=>⟨by rw [<-r.length];exact z,?_⟩)
 have hf:H1 s1.heap.objs.size=none:=I1.hok.fresh (qlr _)
 refine ⟨.ref s1.heap.objs.size,upd H1 s1.heap.objs.size (.tup xs),I1.laid (t':=s1.toks) (λb u e=>qps _ e) (qlr _) ?_,rfl,q _ hf⟩
 exact ⟨z,us,r,IsTD.new _ _⟩
theorem zw0 (h:PA X es t):PE X (.List es pos) (zwy t):=by
 intro pins s σ H Q I hq
 refine wpAny_List_spliced (thn (h pos pins s σ H _ I hq) λus s1 ⟨xs,H1,I1,r,z,q⟩=>⟨by rw [<-r.length];exact z,?_⟩)
 have hf:H1 s1.heap.objs.size=none:=I1.hok.fresh (qlr _)
 refine ⟨.ref s1.heap.objs.size,upd H1 s1.heap.objs.size (.lst xs),I1.laid (t':=s1.toks) (λb u e=>qps _ e) (qlr _) ?_,rfl,q _ hf⟩
 exact ⟨z,us,0,r,Heap.get?_push_size _ rfl⟩
end
abbrev Sp:=List V->Hp->VK->XK->Prop
abbrev CXT:=List Env->Hp->Shared->XK->Value->Shared->Prop
structure Env0 (P:Program) (w:World) (K:QFg) (mg:Str->Option Value) (base:Heap) (A:Around) (outer:List Env) (s:Shared) (H:Hp):Prop where
 frames:A.frames=some outer
 mod:Mod K mg base
 bs:∀b o,base.get? b=some o->s.heap.get? b=some o/\H b=none
 bsz:base.objs.size<=s.heap.objs.size
 funs:s.heap.FunFrames base outer
 frf:∀b∈frs outer,H b=none
 hok:HOk P w H s.heap
 bare:AllBare s.gens
def CE (outer:List Env) (P:Program) (w:World) (H:Hp) (s:Shared) (Q:VK) (u:Value) (s':Shared):Prop :=
 ∃v H',s'.os=s.os/\AllBare s'.gens/\Un (frs outer) [] H H' s.heap s'.heap/\HOk P w H' s'.heap/\RelV v u/\Q v H'
def CR (CX:CXT) (outer:List Env) (P:Program) (w:World) (H:Hp) (s:Shared) (Q:VK) (E:XK) (r:Result) (s':Shared):Prop :=
 match r with
 | .ok (.ret u)=>CE outer P w H s Q u s'
 | .ok _=>False
 | .error e=>CX outer H s E e s'
structure FnOk (P:Program) (w:World) (K:QFg) (mg:Str->Option Value) (base:Heap) (CX:CXT) (k:Nat) (f:Addr) (fd:FuncData) (ps:List Str) (sp:Sp):Prop where
 len:∀vs H Q E,sp vs H Q E->vs.length=ps.length
 run:∀(A:Around) (outer:List Env) (s:Shared) (H:Hp) (args:Args) (us:List Value) (vs:List V) (Q:VK) (E:XK),Room k A->Env0 P w K mg base A outer s H->BindsTo s fd args (ps.zip us)->Vals vs us->sp vs H Q E ->
  codeAny (model P w) A (.call (.ref f) args) (CR CX outer P w H s Q E) s
section
variable {X:Cx}{pins:List (Addr × Obj)}{σ:St}{H:Hp}{s s':Shared}
theorem Inv.env0 (I:Inv X pins σ H s):Env0 X.prog X.w X.K X.mg X.base X.A X.stack s H :=
 ⟨I.ok.frames,I.ok.mod,I.bs,Nat.le_trans I.ok.bsz I.sz,I.stack,I.stkFree,I.hok,I.bare⟩
theorem Inv.after {Q:VK}{u:Value}(I:Inv X pins σ H s) (h:CE X.stack X.prog X.w H s Q u s'):EP X pins σ Q u s':=by
 obtain ⟨v,H',os,bare,un,hok,r,q⟩:=h
 obtain ⟨hh,g,d,t,os'⟩:=s'
 obtain rfl:os' = s.os:=os
 exact ⟨v,H',I.call (h':=hh) (g':=g) (d':=d) (t':=t) (ch:=[]) un hok bare (λb z=>absurd z (by simp)),r,q⟩
end
def zw1 (sp:Sp) (dvs:List V) (E:XK) (t:TA):TE:=λσ H Q=>t σ H λvs H1=>sp (vs++dvs) H1 Q E
def Binds (K:QFg) (fd:FuncData) (ps:List Str) (ds:List Value):Prop :=
 ∀(s:Shared) (us:List Value),K.In s.heap->(us++ds).length=ps.length->BindsTo s fd ⟨us,[]⟩ (ps.zip (us++ds))
theorem Binds.all {K:QFg}{fd:FuncData}{ps:List Str}(h:∀us:List Value,us.length=ps.length->bindArgs fd ⟨us,[]⟩=pure (ps.zip us)):Binds K fd ps []:=λs us _ hl=>by
 rw [List.append_nil] at hl ⊢
 exact .of_eq (h us hl)
def zkl (CX:CXT) (X:Cx) (E:XK):Prop:=∀(pins:List (Addr × Obj)) (σ:St) (H:Hp) (s:Shared) (e:Value) (s':Shared),Inv X pins σ H s->CX X.stack H s E e s'->X.xe e s'
section
variable {X:Cx}{CX:CXT}{k:Nat}{f C:Addr}{fd:FuncData}{ps:List Str}{sp:Sp}{dvs:List V}{ds:List Value}{E:XK}{x m:Str}{p pos apos:Pos}{e o:Expr}{es:List Expr}{ta:TE}{t:TA}
theorem zw2 {pins:List (Addr × Obj)}{σ:St}{H:Hp}{s:Shared}{Q:VK}{us:List Value}{vs:List V}(F:FnOk X.prog X.w X.K X.mg X.base CX k f fd ps sp) (hr:Room k X.A) (hb:Binds X.K fd ps ds) (hd:Vals dvs ds) (hx:zkl CX X E)
  (I:Inv X pins σ H s) (r:Vals vs us) (h:sp (vs++dvs) H Q E):wpAny (model X.prog X.w) X.A (call (.ref f) us) (EP X pins σ Q) X.xe s:=by
 have r2:Vals (vs++dvs) (us++ds):=r.append hd
 have hl:(us++ds).length=ps.length:=by rw [<-r2.length];exact F.len _ _ _ _ h
 refine wpAny_call (codeAny_mono (F.run X.A X.stack s H ⟨us,[]⟩ (us++ds) (vs++dvs) Q E hr I.env0 (hb s us I.kIn hl) r2 h) λr s' hq=>?_)
 cases r with
 | error e=>exact hx pins σ H s e s' I hq
 | ok fl =>
  cases fl with
  | ret u=>exact I.after hq
  | next=>exact False.elim hq
  | brk=>exact False.elim hq
  | cont=>exact False.elim hq
theorem zw3 (F:FnOk X.prog X.w X.K X.mg X.base CX k f fd ps sp) (hr:Room k X.A) (hg:Gl X x) (hm:X.mg x=some (.ref f)) (hk:PySem.W.keepIn X.K (.ref f)=true) (hb:Binds X.K fd ps ds) (hd:Vals dvs ds) (hx:zkl CX X E)
  (ha:PA X (e :: es) t) (hdb:(x == ("__debug__":Str))=false:=by decide) (he:starEach (e :: es) X.env=(false,eval e X.env) :: starEach es X.env:=by rfl) (hpl:(backTo pos (starEach es X.env)).any (·.1)=false:=by rfl) :
  PE X (.Call (.Name x p) (e :: es) [] pos) (zw1 sp dvs E t):=by
 intro pins s σ H Q I h
 refine wpAny_Call_Name_kw (ziq I hg hm ?_ hdb)
 refine PySem.W.callWith_K (h₀:=X.base) I.ok.mod.kin hk (thn (ha pos pins s σ H _ I h) λus s1 ⟨vs,H1,I1,r,q⟩=>⟨I1.kIn,?_⟩) he hpl
 exact zw2 F hr hb hd hx I1 r q
end
section
variable {X:Cx}{CX:CXT}{k:Nat}{f C:Addr}{fd:FuncData}{ps ks:List Str}{sp:Sp}{E:XK}{x m:Str}{p pos apos kpos:Pos}{e o:Expr}{es:List Expr}{kws:List Keyword}{te ta:TE}{t tk:TA}{nm:Option Str}
variable {g:List Value->List Value->List Value}{gV:List V->List V->List V}
end
structure FnScope (N P:List Str) (sc:Scope):Prop where
 kind:sc.kind=.function
 co:sc.isCoroutine=false
 gen:sc.isGenerator=false
 nd:N.Nodup
 pre:N.take P.length=P
 par:∀x∈P,sc.names.lookup x=some .local\/sc.names.lookup x=some .cell
 nofree:∀y∈sc.names,y.2≠.free
theorem znm {kindOf:Str->Option NameKind}{x:Str}:∀{binds:List (Str × Value)}{m:Str->Option Value},(∀v,(x,v) ∉ binds)->bindL kindOf binds m x=m x
 | [],_,_=>rfl
 | (n,v) :: r,m,h=>by
  unfold bindL
  rw [znm λw hw=>h w (List.mem_cons_of_mem _ hw)]
  split
  ·have:x≠n:=by rintro rfl;exact h v List.mem_cons_self
   simp [this]
  ·rfl
theorem znn {kindOf:Str->Option NameKind}{x:Str}:∀{binds:List (Str × Value)}{m:Str->Option Value},(∀v,(x,v) ∉ binds)->bindC kindOf binds m x=m x
 | [],_,_=>rfl
 | (n,v) :: r,m,h=>by
  unfold bindC
  rw [znn λw hw=>h w (List.mem_cons_of_mem _ hw)]
  split
  ·rfl
  ·have:x≠n:=by rintro rfl;exact h v List.mem_cons_self
   simp [this]
theorem zno {kindOf:Str->Option NameKind}{x:Str}{v:Value}:∀{P:List Str}{vs:List Value}{i:Nat}{m:Str->Option Value},P.Nodup->P[i]? = some x->vs[i]? = some v->kindOf x=some .local ->
  bindL kindOf (P.zip vs) m x=some v
 | [],_,_,_,_,h,_,_=>by simp at h
 | _ :: _,[],_,_,_,_,h,_=>by simp at h
 | p :: P,w :: vs,0,m,nd,h1,h2,hk=>by
  simp at h1 h2;subst h1;subst h2
  show bindL kindOf ((p,w) :: P.zip vs) m p=_
  unfold bindL
  rw [znm λv hv=>(List.nodup_cons.mp nd).1 (List.of_mem_zip hv).1,if_pos hk]
  simp
 | p :: P,w :: vs,i+1,m,nd,h1,h2,hk=>by
  show bindL kindOf ((p,w) :: P.zip vs) m x=_
  unfold bindL
  exact zno (i:=i) (List.nodup_cons.mp nd).2 (by simpa using h1) (by simpa using h2) hk
theorem znp {kindOf:Str->Option NameKind}{x:Str}{v:Value}:∀{P:List Str}{vs:List Value}{i:Nat}{m:Str->Option Value},P.Nodup->P[i]? = some x->vs[i]? = some v->kindOf x≠some .local ->
  bindC kindOf (P.zip vs) m x=some v
 | [],_,_,_,_,h,_,_=>by simp at h
 | _ :: _,[],_,_,_,_,h,_=>by simp at h
 | p :: P,w :: vs,0,m,nd,h1,h2,hk=>by
  simp at h1 h2;subst h1;subst h2
  show bindC kindOf ((p,w) :: P.zip vs) m p=_
  unfold bindC
  rw [znn λv hv=>(List.nodup_cons.mp nd).1 (List.of_mem_zip hv).1,if_neg hk]
  simp
 | p :: P,w :: vs,i+1,m,nd,h1,h2,hk=>by
  show bindC kindOf ((p,w) :: P.zip vs) m x=_
  unfold bindC
  exact znp (i:=i) (List.nodup_cons.mp nd).2 (by simpa using h1) (by simpa using h2) hk
noncomputable def start (N:List Str) (vs:List V):St:=vs.map some++List.replicate (N.length-vs.length) none
noncomputable def zb2 (CX:CXT) (P:Program) (w:World) (K:QFg) (mg:Str->Option Value) (base:Heap) (N:List Str) (qual:Str) (scope:Scope) (f:Addr) (cd:Value) (A:Around) (outer:List Env) (s:Shared) (H:Hp) (E:XK):Cx where
 prog:=P
 w:=w
 K:=K
 mg:=mg
 base:=base
 A:=A.deeper (envOfC qual scope s.heap.objs.size f cd)
 N:=N
 s₀:=s
 H₀:=H
 env:=envOfC qual scope s.heap.objs.size f cd
 outer:=outer
 stack:=envOfC qual scope s.heap.objs.size f cd :: outer
 ex:=[]
 calm:=true
 fn:=λ_=>true
 pn:=[]
 xe:=λe s'=>wpAny (model P w) (A.deeper (envOfC qual scope s.heap.objs.size f cd)) (leaving (envOfC qual scope s.heap.objs.size f cd) e) (λ_ s''=>CX outer H s E e s'') (λe' s''=>CX outer H s E e' s'') s'
theorem znq {sc:Scope}{n:Nat}{x:Str}(h:sc.names.lookup x=some .cell):∃c,(cellsFrom n sc.names []).lookup x=some c:=by
 have q:=PySem.W.cellsFrom_some sc.names n [] (.inl h)
 exact Option.isSome_iff_exists.mp q
theorem zw4 {CX:CXT}{P:Program}{w:World}{K:QFg}{mg:Str->Option Value}{base:Heap}{N ps:List Str}{qual:Str}{scope:Scope}{f:Addr}{cd:Value}{A:Around}{outer:List Env}{s s1:Shared}{H:Hp}{E:XK}{us:List Value}{vs:List V}
  (S:FnScope N ps scope) (hd:A.handled=none) (e0:Env0 P w K mg base A outer s H) (hl:vs.length=ps.length) (r:Vals vs us)
  (x:InCallC s s.heap.objs.size (bindL (envOfC qual scope s.heap.objs.size f cd).kindOf (ps.zip us) λ_=>none) (cellsFrom (s.heap.objs.size+1) scope.names []) (bindC (envOfC qual scope s.heap.objs.size f cd).kindOf (ps.zip us) λ_=>none) s1) :
  Inv (zb2 CX P w K mg base N qual scope f cd A outer s H E) [] (start N vs) H s1:=by
 have hpl:ps.length<=N.length:=by have:=congrArg List.length S.pre;rw [List.length_take] at this;omega
 obtain ⟨h1,tk,rfl,hk⟩:=x.done
 have noA:∀b:Addr,b ∉ (zb2 CX P w K mg base N qual scope f cd A outer s H E).ex:=λb z=>absurd (show b∈([]:List Addr) from z) (by simp)
 refine ⟨⟨e0.mod,S.kind,rfl,rfl,qlr _,λy z c h1 h2=>?_,λy hy=>?_,λy c _ h=>?_,λ_=>hd,Around.frames_deeper e0.frames,.inr ⟨rfl,rfl⟩,λb z=>absurd z (noA b),e0.bs,e0.bsz,λb _ _=>noA b,λb z=>absurd z (noA b),e0.funs,e0.frf⟩,
  rfl,e0.bare,Un.kept hk,⟨_,x.toInCall.ns,λi y v h1 h2 h3=>?_⟩,λy c h=>⟨_,x.cell y c h⟩,e0.hok.fresh (qlr _),λy c h=>?_,λp hp=>absurd (show p∈([]:List (Addr × Obj)) from hp) (by simp),e0.hok.kept hk,?_⟩
 ·exact name_of_addr x.apart (PySem.mem_of_lookup h1) (PySem.mem_of_lookup h2)
 ·have hy:scope.names.lookup y=some .cell\/scope.names.lookup y=some .free:=hy
  rcases hy with hy|hy
  ·exact znq hy
  ·exact absurd rfl (S.nofree _ (PySem.mem_of_lookup hy))
 ·exact Nat.le_of_lt (x.above y c (PySem.mem_of_lookup h))
 ·have hi:i<vs.length:=by
   unfold start at h2
   by_cases hi:i<vs.length
   ·exact hi
   ·rw [List.getElem?_append_right (by simpa using hi)] at h2
    rw [List.getElem?_replicate] at h2
    split at h2 <;> cases h2
  have ha:vs[i]? = some v:=by
   unfold start at h2
   rw [List.getElem?_append_left (by simpa using hi),qgm] at h2
   cases e:vs[i]? with
   | none=>rw [e] at h2;cases h2
   | some a=>rw [e] at h2;cases h2;rfl
  obtain ⟨u,hu,rv⟩:=r.get ha
  have hp:ps[i]? = some y:=by
   rw [<-S.pre,List.getElem?_take_of_lt (by omega)];exact h1
  have ndP:ps.Nodup:=by rw [<-S.pre];exact S.nd.sublist (List.take_sublist _ _)
  refine ⟨u,rv,?_⟩
  rcases S.par y (qmg hp) with k|k
  ·exact .inl ⟨k,zno ndP hp hu k⟩
  ·obtain ⟨c,e⟩:=znq (n:=s.heap.objs.size+1) k
   refine .inr ⟨.inl k,c,e,?_⟩
   have q:=x.cell y c e
   rw [znp ndP hp hu (by show scope.names.lookup y≠_;rw [k];decide)] at q
   exact q
 ·exact e0.hok.fresh (Nat.le_of_lt (x.above y c (PySem.mem_of_lookup h)))
 ·unfold start
  show _=N.length
  rw [qla,qlm,List.length_replicate]
  omega
theorem znr {CX:CXT}{P:Program}{w:World}{K:QFg}{mg:Str->Option Value}{base:Heap}{k:Nat}{f:Addr}{name qual:Str}{params:Arguments}{body:List Stmt}{scope:Scope}{dV kV doc pm cdv ct oc:Value}{an od:Option Addr}
  {osl:Array (Option Value)} {N ps:List Str} {sp:Sp} (lk:K.lookup f=some ⟨oc,od,.func (PySem.W.fnOf name qual params body scope dV kV doc pm an cdv ct),osl⟩) (hcd:PySem.W.codeIn K cdv qual=true) (S:FnScope N ps scope)
  (len:∀vs H Q E,sp vs H Q E->vs.length=ps.length)
  (hbody:∀(A:Around) (outer:List Env) (s:Shared) (H:Hp) (vs:List V) (Q:VK) (E:XK),Room k (A.deeper (envOfC qual scope s.heap.objs.size f cdv))->sp vs H Q E ->
   ∃t,PSs (zb2 CX P w K mg base N qual scope f cdv A outer s H E) body t/\t { nx:=λ_ H'=>Q .non H',rt:=Q } (start N vs) H) :
  FnOk P w K mg base CX (k+1) f (PySem.W.fnOf name qual params body scope dV kV doc pm an cdv ct) ps sp:=by
 refine ⟨len,λA outer s H args us vs Q E hr e0 hb r hsp=>?_⟩
 have hl:=len _ _ _ _ hsp
 have KX:K.In s.heap:=e0.mod.kin.keeps λb o e=>(e0.bs b o e).1
 have lim:s.heap.NoLimit:=e0.mod.nolimit.keeps λb o e=>(e0.bs b o e).1
 have hkind:∀y∈ps.zip us,scope.names.lookup y.1=some .local\/(scope.names.lookup y.1=some .cell/\((cellsFrom (s.heap.objs.size+1) scope.names []).lookup y.1).isSome=true):=λhx2_ hy=>by
  obtain ⟨n,v⟩:=hx2_
  rcases S.par n (List.of_mem_zip hy).1 with q|q
  ·exact .inl q
  ·exact .inr ⟨q,PySem.W.cellsFrom_some _ _ _ (.inl q)⟩
 refine codeAny_call_function hr.depth (KX _ _ lk) rfl S.co S.gen rfl (PySem.W.codeRec_of KX hcd) (hb _ _ _ _ ?_)
 refine wpAny_newFunctionEnv_cells S.kind hkind λenv he s1 x=>?_
 subst he
 refine ⟨lim.keeps x.toInCall.keep,codeAny_func ?_⟩
 obtain ⟨t,ht,hq⟩:=hbody A outer s H vs Q E (hr.deeper _) hsp
 have I:Inv (zb2 CX P w K mg base N qual scope f cdv A outer s H E) [] (start N vs) H s1:=zw4 S hr.hd e0 hl r x
 refine wpAny_mono (ht [] s1 (start N vs) H _ I hq) (λfl s' hs=>?_) λe s' hs=>hs
 have fin:∀{σ':St} {H':Hp} {v:V} {u:Value},Inv (zb2 CX P w K mg base N qual scope f cdv A outer s H E) [] σ' H' s'->RelV v u->Q v H'->CE outer P w H s Q u s' :=
  λ{σ' H' v u} J rv q=>⟨v,H',J.os,J.bare,J.base,J.hok,rv,q⟩
 cases fl with
 | ret u =>
  obtain ⟨v,σ',H',J,rv,q⟩:=hs
  exact fin J rv q
 | next =>
  obtain ⟨σ',H',J,q⟩:=hs
  exact fin (v:=V.non) (u:=Value.none) J rfl q
 | brk =>
  obtain ⟨_,_,_,q⟩:=hs
  exact False.elim q
 | cont =>
  obtain ⟨_,_,_,q⟩:=hs
  exact False.elim q
section
variable {X:Cx}{x:Str}{p pos:Pos}{e:Expr}{es:List Expr}{t:TA}{id T:String}{r:List V->Hp->VK->Prop}
def tCB (r:List V->Hp->VK->Prop) (t:TA):TE:=λσ H Q=>t σ H λvs H1=>r vs H1 Q
theorem ziw (hc:CallR X (.builtin id) r) (hg:Gl X x) (hm:X.mg x=none) (hv:bootBuiltins x=some (.builtin id)) (ha:PA X (e :: es) t) (hn:x≠"__name__":=by decide) (hdb:(x == ("__debug__":Str))=false:=by decide)
  (he:starEach (e :: es) X.env=(false,eval e X.env) :: starEach es X.env:=by rfl) (hpl:(backTo pos (starEach es X.env)).any (·.1)=false:=by rfl):PE X (.Call (.Name x p) (e :: es) [] pos) (tCB r t):=by
 intro pins s σ H Q I h
 refine wpAny_Call_Name_kw (zg6 I hg hm hv ?_ hn hdb)
 exact PyProof.Rows.callWith_builtin1 (thn (ha pos pins s σ H _ I h) λus s1 ⟨vs,H1,I1,r1,q1⟩=>hc pins s1 σ H1 vs us Q I1 r1 q1) he hpl
theorem zkm (hc:CallR X (.type T) r) (hg:Gl X x) (hm:X.mg x=none) (hv:bootBuiltins x=some (.type T)) (ha:PA X (e :: es) t) (hn:x≠"__name__":=by decide) (hdb:(x == ("__debug__":Str))=false:=by decide)
  (he:starEach (e :: es) X.env=(false,eval e X.env) :: starEach es X.env:=by rfl) (hpl:(backTo pos (starEach es X.env)).any (·.1)=false:=by rfl):PE X (.Call (.Name x p) (e :: es) [] pos) (tCB r t):=by
 intro pins s σ H Q I h
 refine wpAny_Call_Name_kw (zg6 I hg hm hv ?_ hn hdb)
 exact PyProof.Rows.callWith_type1 (thn (ha pos pins s σ H _ I h) λus s1 ⟨vs,H1,I1,r1,q1⟩=>hc pins s1 σ H1 vs us Q I1 r1 q1) he hpl
end
end L2
namespace HT
open PySem PyProof.Rows
section
open PySem.SeqAt
open PySem.AutoSeq1 (wpAny_loadPart')
open PySem.MeetsSeq PySem.MeetsSeq2 PySem.MeetsSeq3
end
section
variable {prog:Program}{w:World}{A:Around}{E:Value->Shared->Prop}{s:Shared}
theorem cat_tup {t b:Addr}{vs ws:List Value}{Q:Value->Shared->Prop}(ht:IsTup s.heap t vs.toArray) (hb:IsTup s.heap b ws.toArray) (hv:vs≠[])
  (h1:ws=[]->Q (.ref t) s) (h2:ws≠[]->Q (.ref s.heap.objs.size) { s with heap:=s.heap.push { cls:=.type "tuple",data:=.seq (vs++ws).toArray } })
  (hsz:vs.length+ws.length<=sizeLine):wpAny (model prog w) A (binaryOp .Add (.ref t) (.ref b)) Q E s:=by
 obtain ⟨⟨cls,dd,data,sl⟩,ho,hc,n,hd⟩:=id ht
 obtain ⟨⟨cls2,dd2,data2,sl2⟩,ho2,hc2,n2,hd2⟩:=id hb
 simp only at hc hd hc2 hd2
 subst hc hd hc2 hd2
 have e:vs.toArray++ws.toArray=(vs++ws).toArray:=by simp
 by_cases hw:ws=[]
 ·exact concat_meets ⟨_,ho,rfl⟩ ⟨_,ho2,rfl⟩ noFill_tuple_add seq_tuple_add PySem.F.slot_tuple_add PySem.F.entry_tuple_add (PySem.F.args_tuple_add_2 _ _)
   (tuple_addW1 t b vs.toArray ws.toArray n n2 dd dd2 sl sl2 (by simpa using hv) (by simp [hw])) ⟨ho,ho2,h1 hw⟩
 ·refine concat_meets ⟨_,ho,rfl⟩ ⟨_,ho2,rfl⟩ noFill_tuple_add seq_tuple_add PySem.F.slot_tuple_add PySem.F.entry_tuple_add (PySem.F.args_tuple_add_2 _ _)
   (tuple_addW2 t b vs.toArray ws.toArray n n2 dd dd2 sl sl2 (by simpa using hv) (by simpa using hw) (by rw [List.size_toArray,List.size_toArray];exact hsz)) ⟨ho,ho2,?_⟩
  rw [e]
  exact h2 hw
noncomputable def sIx (n d:Nat):Option Int->Nat
 | none=>d
 | some v=>if v<0 then (v+(n:Int)).toNat else min v.toNat n
theorem sIx_none (n d:Nat):sIx n d none=d:=rfl
theorem sIx_nat (n d k:Nat):sIx n d (some (k:Int))=min k n:=by
 show (if (k:Int)<0 then ((k:Int)+(n:Int)).toNat else min (k:Int).toNat n)=min k n
 rw [if_neg (by omega),Int.toNat_natCast]
theorem zw5 (n d:Nat) (hd:d<=n) (o:Option Int):sIx n d o<=n:=by
 cases o with
 | none=>exact hd
 | some v =>
  show (if v<0 then (v+(n:Int)).toNat else min v.toNat n)<=n
  by_cases hv:v<0
  ·rw [if_pos hv];omega
  ·rw [if_neg hv];exact Nat.min_le_right _ _
theorem zns (v:Int) (n d:Nat):(if v<0 then max (v+(n:Int)) 0 else min v (n:Int))=((sIx n d (some v):Nat):Int):=by
 show (if v<0 then max (v+(n:Int)) 0 else min v (n:Int))=(((if v<0 then (v+(n:Int)).toNat else min v.toNat n):Nat):Int)
 by_cases hv:v<0
 ·simp only [if_pos hv];omega
 ·simp only [if_neg hv];omega
theorem zw6 (lo hi:Option Int) (n:Nat):Builtin.Slice.sliceAdjust lo hi 1 (n:Int)=(((sIx n 0 lo:Nat):Int),((sIx n n hi:Nat):Int)):=by
 have h1:¬((1:Int)<0):=by omega
 unfold Builtin.Slice.sliceAdjust
 simp only [h1,if_false]
 refine Prod.ext ?_ ?_
 ·cases lo with
  | none=>rfl
  | some v=>exact zns v n 0
 ·cases hi with
  | none=>rfl
  | some v=>exact zns v n n
theorem zw7 (i j:Nat):Builtin.Slice.slicePlaces (i:Int) (j:Int) 1=j-i:=by
 unfold Builtin.Slice.slicePlaces
 have h1:(1:Int) > 0:=by omega
 simp only [h1,if_true,Int.ediv_one]
 split <;> omega
theorem znt {v:Value}{o:Option Int}{Q:Option Int->Shared->Prop}(p:IsPart v o) (h:Q o s):wpAny (model prog w) A (Builtin.Slice.slicePartIndex v) Q E s:=by
 cases p with
 | none=>exact slicePart_none h
 | int i t=>exact slicePart_int h
theorem znu {sl:Addr}{vl vu:Value}{lo hi:Option Int}{n:Nat}{Q:Int × Int × Nat->Shared->Prop}(hs:s.heap.IsSliceOf sl vl vu .none) (pl:IsPart vl lo) (pu:IsPart vu hi)
  (h:Q (((sIx n 0 lo:Nat):Int),1,sIx n n hi-sIx n 0 lo) s):wpAny (model prog w) A (Builtin.Slice.sliceApplied (.ref sl) (pure (n:Int))) Q E s:=by
 obtain ⟨os,hos,hcs,hds⟩:=id hs
 unfold Builtin.Slice.sliceApplied Builtin.Slice.sliceFields
 refine qwb (qwb (wpAny_field hos hds (x:=vl) rfl (qwb (wpAny_field hos hds (x:=vu) rfl (qwb (wpAny_field hos hds (x:=.none) rfl (qwp ?_)))))))
 refine qwb (slicePart_none ?_)
 show wpAny _ _ (if ((1:Int) == 0)=true then _ else _) _ _ s
 rw [if_neg (by decide)]
 refine qwb (znt pl (qwb (znt pu (qwb (qwp ?_)))))
 show wpAny _ _ (match Builtin.Slice.sliceAdjust lo hi 1 (n:Int) with|(lo,hi)=>pure (lo,(1:Int),Builtin.Slice.slicePlaces lo hi 1)) _ _ s
 rw [zw6 lo hi n]
 show wpAny _ _ (pure (((sIx n 0 lo:Nat):Int),(1:Int),Builtin.Slice.slicePlaces ((sIx n 0 lo:Nat):Int) ((sIx n n hi:Nat):Int) 1)) _ _ s
 rw [zw7]
 exact qwp h
theorem zw8 (xs:Array Value) (i k:Nat):((List.range k).filterMap λ(m:Nat)=>xs[((i:Int)+(m:Int)*1).toNat]?).toArray=((xs.toList.drop i).take k).toArray:=by
 have e:(λ(m:Nat)=>xs[((i:Int)+(m:Int)*1).toNat]?)=λm=>xs[i+m]?:=by
  funext m
  have:((i:Int)+(m:Int)*1).toNat=i+m:=by omega
  rw [this]
 rw [e]
 have:=pick_run xs i k
 rw [List.filterMap_map] at this
 have e2:((λx=>xs[x]?) ∘ λx=>i+x)=λm=>xs[i+m]?:=rfl
 rw [e2] at this
 rw [this]
theorem getItem_tuple_cut {t sl:Addr}{items:Array Value}{vl vu:Value}{lo hi:Option Int}{Q:Value->Shared->Prop}(ht:IsTup s.heap t items) (hs:s.heap.IsSliceOf sl vl vu .none) (pl:IsPart vl lo) (pu:IsPart vu hi)
  (hw:¬(sIx items.size 0 lo=0/\sIx items.size items.size hi=items.size))
  (h:Q (.ref s.heap.objs.size) { s with heap:=s.heap.push { cls:=.type "tuple",data:=.seq ((items.toList.drop (sIx items.size 0 lo)).take (sIx items.size items.size hi-sIx items.size 0 lo)).toArray } })
  (hsz:items.size<=sizeLine):wpAny (model prog w) A (getItem (.ref t) (.ref sl)) Q E s:=by
 have htake:sizeOk (.seq ((items.toList.drop (sIx items.size 0 lo)).take (sIx items.size items.size hi-sIx items.size 0 lo)).toArray):=by
  show ((items.toList.drop (sIx items.size 0 lo)).take (sIx items.size items.size hi-sIx items.size 0 lo)).toArray.size<=sizeLine
  rw [List.size_toArray,List.length_take,List.length_drop,Array.length_toList]
  omega
 have hj:sIx items.size items.size hi<=items.size:=zw5 _ _ (qlr _) hi
 obtain ⟨os,hos,hcs,hds⟩:=id hs
 have hTs:s.TypeIs (.ref sl) "slice":=⟨os,hos,hcs⟩
 unfold getItem
 try with_reducible refine wpAny_holding ?_
 first|refine qwb (qwp ?_)|skip
 refine qwb (wpAny_sequenceKey ht.typeIs (by decide) ?_)
 refine qwb (wpAny_callSpecial?_slot (name:=Str.ofString "__getitem__") ht.typeIs PyProof.Rows.slot_tuple_getitem
  (wpAny_call_entry PyProof.Rows.slot_tuple_getitem ht.typeIs entry_tuple_getitem ?_ (args_tuple_getitem _ _)))
 show wpAny _ _ (Builtin.Tuple.tupleItemsOf (.ref t) >>= _) _ _ s
 refine qwb (tupleItemsOf_ ht ?_)
 refine qwb (wpAny_typeOf hTs ?_)
 rw [if_pos (by decide)]
 refine qwb (znu hs pl pu ?_)
 have hno:¬((((sIx items.size 0 lo:Nat):Int) == 0 && (1:Int) == 1 && (sIx items.size items.size hi-sIx items.size 0 lo) == items.size)=true):=by
  intro q
  rw [Bool.and_eq_true,Bool.and_eq_true] at q
  have q1:((sIx items.size 0 lo:Nat):Int)=0:=eq_of_beq q.1.1
  have q2:sIx items.size items.size hi-sIx items.size 0 lo=items.size:=eq_of_beq q.2
  exact hw ⟨by omega,by omega⟩
 show wpAny _ _ (if (((sIx items.size 0 lo:Nat):Int) == 0 && (1:Int) == 1 && (sIx items.size items.size hi-sIx items.size 0 lo) == items.size)=true then _ else _) _ _ s
 rw [if_neg hno,zw8]
 first
  | exact qwb (m:=Builtin.Tuple.tupleExact _) (wpAny_newObj_type (qwp ⟨_,rfl,qwp h⟩) htake)
  | exact qwb (m:=Builtin.Tuple.tupleExact _) (wpAny_newObj_type (qwb (qwp (qwp ⟨_,rfl,qwp h⟩))) htake)
  | exact qwb (qwb (m:=Builtin.Tuple.tupleExact _) (wpAny_newObj_type (qwp (qwp ⟨_,rfl,qwp h⟩)) htake))
  | exact qwb (qwb (m:=Builtin.Tuple.tupleExact _) (wpAny_newObj_type (qwp ⟨_,rfl,qwp h⟩) htake))
end
end HT
namespace L2
open PySem PySem.Spec PyProof.Rows
abbrev TO:=St->Hp->(Option Int->Hp->Prop)->Prop
def PO (X:Cx) (e:Option Expr) (t:TO):Prop :=
 ∀(pins:List (Addr × Obj)) (s:Shared) (σ:St) (H:Hp) (Q:Option Int->Hp->Prop),Inv X pins σ H s->t σ H Q ->
  wpAny (model X.prog X.w) X.A (evalPart e X.env) (λu s'=>∃o H',Inv X pins σ H' s'/\IsPart u o/\Q o H') X.xe s
def zw9:TO:=λ_ H Q=>Q none H
def zxa (t:TE):TO:=λσ H Q=>t σ H λx H1=>∃i,x=.int i/\Q (some i) H1
section
variable {X:Cx}{e:Expr}{te:TE}{lo hi:Option Expr}{tl th:TO}{pos p2:Pos}
theorem zxb:PO X none zw9:=by
 intro pins s σ H Q I h
 rw [evalPart_none]
 exact qwp ⟨none,H,I,.none,h⟩
theorem zxc (h:PE X e te):PO X (some e) (zxa te):=by
 intro pins s σ H Q I hw
 rw [evalPart_some]
 refine thn (h pins s σ H _ I hw) λu s1 ⟨x,H1,I1,r1,q1⟩=>?_
 obtain ⟨i,rfl,q⟩:=q1
 obtain ⟨t,rfl⟩:=r1
 exact ⟨some i,H1,I1,.int i t,q⟩
def SlR (X:Cx) (r:V->Option Int->Option Int->Hp->VK->Prop):Prop :=
 ∀(pins:List (Addr × Obj)) (s:Shared) (σ:St) (H:Hp) (x:V) (v vl vu:Value) (lo hi:Option Int) (sl:Addr) (Q:VK),Inv X pins σ H s->RelV x v->s.heap.IsSliceOf sl vl vu .none->IsPart vl lo->IsPart vu hi->r x lo hi H Q ->
  ∃T id,typeLookup (.type T) "__getitem__" = pure (some (.builtin id))/\s.TypeIs v T/\wpAny (model X.prog X.w) X.A (getItem v (.ref sl)) (EP X pins σ Q) X.xe s
theorem SlR.or {r r':V->Option Int->Option Int->Hp->VK->Prop}(h:SlR X r) (h':SlR X r'):SlR X (λx lo hi H Q=>r x lo hi H Q\/r' x lo hi H Q):=by
 intro pins s σ H x v vl vu lo hi sl Q I rx hs pl pu q
 rcases q with q|q
 ·exact h pins s σ H x v vl vu lo hi sl Q I rx hs pl pu q
 ·exact h' pins s σ H x v vl vu lo hi sl Q I rx hs pl pu q
def tSl (r:V->Option Int->Option Int->Hp->VK->Prop) (te:TE) (tl th:TO):TE:=λσ H Q=>te σ H λx H1=>tl σ H1 λl H2=>th σ H2 λu H3=>r x l u H3 Q
theorem zxd {r:V->Option Int->Option Int->Hp->VK->Prop}(hr:SlR X r) (he:PE X e te) (hl:PO X lo tl) (hu:PO X hi th):PE X (.Subscript e (.Slice lo hi none p2) pos) (tSl r te tl th):=by
 intro pins s σ H Q I h
 refine Subscript_ (thn (he pins s σ H _ I h) λv s1 ⟨x,H1,I1,r1,q1⟩=>?_)
 refine wpAny_Slice (thn (hl pins s1 σ H1 _ I1 q1) λvl s2 ⟨l,H2,I2,pl,q2⟩=>thn (hu pins s2 σ H2 _ I2 q2) λvu s3 ⟨u,H3,I3,pu,q3⟩=>?_)
 rw [evalPart_none]
 refine qwp ?_
 have I4:Inv X pins σ H3 { s3 with heap:=s3.heap.push { cls:=.type "slice",data:=.fields #[vl,vu,.none] } }:=I3.kept (t':=s3.toks) λb ob q=>qps _ q
 obtain ⟨T,id,hT,ht,hg⟩:=hr pins { s3 with heap:=s3.heap.push { cls:=.type "slice",data:=.fields #[vl,vu,.none] } } σ H3 x v vl vu l u s3.heap.objs.size Q I4 r1 (Heap.IsSliceOf.new ..) pl pu q3
 show wpAny (model X.prog X.w) X.A (subscriptTail e (.Slice lo hi none p2) v (.ref s3.heap.objs.size)) (EP X pins σ Q) X.xe { s3 with heap:=s3.heap.push { cls:=.type "slice",data:=.fields #[vl,vu,.none] } }
 exact tail_any (ops:=[.ref s3.heap.objs.size,v]) ht hT hg (by with_unfolding_all rfl)
noncomputable def zdz (xs:List V) (lo hi:Option Int):List V:=(xs.drop (HT.sIx xs.length 0 lo)).take (HT.sIx xs.length xs.length hi-HT.sIx xs.length 0 lo)
theorem znv (xs:List V) (lo hi:Option Int):(zdz xs lo hi).length<=xs.length:=by
 unfold zdz
 rw [List.length_take,List.length_drop]
 omega
def zxe (K:QFg):V->Option Int->Option Int->Hp->VK->Prop:=λx lo hi H Q=>∃a xs,x=.ref a/\SqT K H a xs /\
 ¬(HT.sIx xs.length 0 lo=0/\HT.sIx xs.length xs.length hi=xs.length)/\∀p,H p=none->Q (.ref p) (upd H p (.tup (zdz xs lo hi)))
theorem sl_tup:SlR X (zxe X.K):=by
 intro pins s σ H x v vl vu lo hi sl Q I rx hs pl pu h
 obtain ⟨a,xs,rfl,hx,hw,q⟩:=h
 cases rx
 obtain ⟨its,r,ht,hz⟩:=I.tuple hx
 have hlen:its.toArray.size=xs.length:=by rw [List.size_toArray];exact r.length.symm
 refine ⟨"tuple",_,PyProof.Rows.slot_tuple_getitem.lookup,ht.typeIs,?_⟩
 refine HT.getItem_tuple_cut ht hs pl pu (by rw [hlen];exact hw) ?_ (by rw [hlen];exact hz)
 rw [hlen]
 refine ⟨.ref s.heap.objs.size,_,I.laid (t':=s.toks) (o:=.tup (zdz xs lo hi)) (λb ob q=>qps _ q) (qlr _) ?_,rfl,q _ (I.hok.fresh (qlr _))⟩
 exact ⟨Nat.le_trans (znv xs lo hi) hz,_,(r.drop (HT.sIx xs.length 0 lo)).take (HT.sIx xs.length xs.length hi-HT.sIx xs.length 0 lo),IsTD.new _ _⟩
def zg7 (K:QFg):R2:=λx y H Q=>∃a b xs ys,x=.ref a/\y=.ref b/\SqT K H a xs/\SqT K H b ys/\xs≠[]/\xs.length+ys.length<=sizeLine /\
 (ys=[]->Q (.ref a) H)/\(ys≠[]->∀p,H p=none->Q (.ref p) (upd H p (.tup (xs++ys))))
theorem Vals.nil_iff {xs:List V}{us:List Value}(r:Vals xs us):us=[]↔xs=[]:=by
 cases r with
 | nil=>simp
 | cons _ _=>simp
theorem op_catT:OpR X (binaryOp .Add) (zg7 X.K):=by
 intro pins s σ H x y v u Q I rx ry h
 obtain ⟨a,b,xs,ys,rfl,rfl,ha,hb,hx,hz,q1,q2⟩:=h
 cases rx
 cases ry
 obtain ⟨its,r1,p1,_⟩:=I.tuple ha
 obtain ⟨its2,r2,p2,_⟩:=I.tuple hb
 refine HT.cat_tup p1 p2 (λz=>hx (r1.nil_iff.mp z)) (λz=>⟨.ref a,H,I,rfl,q1 (r2.nil_iff.mp z)⟩) (λz=>?_) (by rw [<-r1.length,<-r2.length];exact hz)
 refine ⟨.ref s.heap.objs.size,_,I.laid (t':=s.toks) (o:=.tup (xs++ys)) (λb ob q=>qps _ q) (qlr _) ?_,rfl,q2 (λw=>z (r2.nil_iff.mpr w)) _ (I.hok.fresh (qlr _))⟩
 exact ⟨by rw [qla];exact hz,_,r1.append r2,IsTD.new _ _⟩
end
noncomputable def ixN (n:Nat) (i:Int):Option Nat:=if 0<=i then (if i<n then some i.toNat else none) else if -(n:Int)<=i then some (i+n).toNat else none
noncomputable def atI {α:Type}(xs:List α) (i:Int):Option α:=(ixN xs.length i).bind λj=>xs[j]?
theorem znw {n:Nat}{i:Int}{j:Nat}(h:ixN n i=some j):seqIndex? i n=some j/\j<n/\-(n:Int)<=i/\i<n:=by
 unfold ixN at h
 by_cases h0:0<=i
 ·rw [if_pos h0] at h
  by_cases h1:i<n
  ·rw [if_pos h1] at h
   have e:i.toNat=j:=qoi h
   exact ⟨by rw [seqIndex_of h0 h1,e],by omega,by omega,h1⟩
  ·rw [if_neg h1] at h;cases h
 ·rw [if_neg h0] at h
  by_cases h1:-(n:Int)<=i
  ·rw [if_pos h1] at h
   have e:(i+n).toNat=j:=qoi h
   exact ⟨by rw [seqIndex_neg (by omega) h1,e],by omega,h1,by omega⟩
  ·rw [if_neg h1] at h;cases h
theorem atI_get {α:Type}{xs:List α}{i:Int}{v:α}(h:atI xs i=some v):∃j,seqIndex? i xs.length=some j/\xs[j]? = some v/\j<xs.length/\-(xs.length:Int)<=i/\i<xs.length:=by
 unfold atI at h
 cases e:ixN xs.length i with
 | none=>rw [e] at h;cases h
 | some j =>
  rw [e] at h
  obtain ⟨h1,h2,h3,h4⟩:=znw e
  exact ⟨j,h1,h,h2,h3,h4⟩
def znx (b:Expr):Prop:=∀o i,subscripted b false o i=operate [o,i] (getItem o i)
def IxR (X:Cx) (r:R2):Prop :=
 ∀(value slice:Expr) (pins:List (Addr × Obj)) (s:Shared) (σ:St) (H:Hp) (x y:V) (v u:Value) (Q:VK),Inv X pins σ H s->RelV x v->RelV y u->r x y H Q ->
  subscripted slice false v u=operate [v,u] (getItem v u)->wpAny (model X.prog X.w) X.A (subscriptTail value slice v u) (EP X pins σ Q) X.xe s
def MtR (X:Cx) (id:String) (r:V->List V->Hp->VK->Prop):Prop :=
 ∀(pins:List (Addr × Obj)) (s:Shared) (σ:St) (H:Hp) (x:V) (xs:List V) (v:Value) (us:List Value) (Q:VK),Inv X pins σ H s->RelV x v->Vals xs us->r x xs H Q ->
  wpAny (model X.prog X.w) X.A (call (.builtin id) (v :: us)) (EP X pins σ Q) X.xe s
section
variable {X:Cx}{a b:Expr}{ta tb:TE}{pos:Pos}
theorem IxR.or {r r':R2}(h:IxR X r) (h':IxR X r'):IxR X (λx y H Q=>r x y H Q\/r' x y H Q):=by
 intro value slice pins s σ H x y v u Q I rx ry q hs
 rcases q with q|q
 ·exact h value slice pins s σ H x y v u Q I rx ry q hs
 ·exact h' value slice pins s σ H x y v u Q I rx ry q hs
theorem zxf {r:R2}(hr:IxR X r) (ha:PE X a ta) (hb:PE X b tb) (hs:znx b):PE X (.Subscript a b pos) (tOp r ta tb):=by
 intro pins s σ H Q I h
 exact Subscript_ (zki ha hb I h λv u s2 x y H2 I2 rx ry q=>hr a b pins s2 σ H2 x y v u Q I2 rx ry q (hs _ _))
def zny (K:QFg):R2:=λx y H Q=>∃p xs i v,x=.ref p/\y=.int i/\SqL K H p xs/\atI xs i=some v/\Q v H
def znz (K:QFg):R2:=λx y H Q=>∃p xs i v,x=.ref p/\y=.int i/\SqT K H p xs/\atI xs i=some v/\Q v H
def zkn:R2:=λx y H Q=>∃z i c,x=.str z/\y=.int i/\z.length<=sizeLine/\atI z.cps.toList i=some c/\Q (.str ⟨#[c]⟩) H
theorem ix_list:IxR X (zny X.K):=by
 intro value slice pins s σ H x y v u Q I rx ry h hs
 obtain ⟨p,xs,i,z,rfl,rfl,hq,he,q⟩:=h
 cases rx
 obtain ⟨t,rfl⟩:=ry
 obtain ⟨its,r,pl,hz⟩:=I.list hq
 obtain ⟨j,h1,h2,h3,h4,h5⟩:=atI_get he
 obtain ⟨w,ew,rw'⟩:=r.get h2
 have hl:=r.length
 have hn:=zfc
 have fin:EP X pins σ Q w s:=⟨z,H,I,rw',q⟩
 by_cases h0:0<=i
 ·have hj:i.toNat=j:=by
   rw [seqIndex_of h0 h5] at h1
   exact qoi h1
  exact item_listR pl.isList h0 (by omega) (by rw [hj];simpa using ew) fin hs
 ·have hj:(i+(its.toArray.size:Int)).toNat=j:=by
   rw [seqIndex_neg (by omega) h4] at h1
   rw [List.size_toArray,<-hl]
   exact qoi h1
  exact subscriptTail_builtinR (x:=w) pl.isList.typeIs slot_list_getitem.lookup
   (wpAny_getItem_list_neg (Q:=λr s'=>r=w/\EP X pins σ Q r s') pl.isList (by omega) (by rw [List.size_toArray] <;> omega) (by omega) (by rw [hj];simpa using ew) ⟨rfl,fin⟩) hs
theorem ix_tup:IxR X (znz X.K):=by
 intro value slice pins s σ H x y v u Q I rx ry h hs
 obtain ⟨p,xs,i,z,rfl,rfl,hq,he,q⟩:=h
 cases rx
 obtain ⟨t,rfl⟩:=ry
 obtain ⟨its,r,pl,hz⟩:=I.tuple hq
 obtain ⟨j,h1,h2,h3,h4,h5⟩:=atI_get he
 obtain ⟨w,ew,rw'⟩:=r.get h2
 have hl:=r.length
 have hn:=zfc
 have fin:EP X pins σ Q w s:=⟨z,H,I,rw',q⟩
 exact subscriptTail_builtinR (x:=w) pl.typeIs slot_tuple_getitem.lookup
  (getItem_tuple (j:=j) (Q:=λr s'=>r=w/\EP X pins σ Q r s') pl (by omega) (by omega) (by rw [List.size_toArray,<-hl];exact h1) (by simpa using ew) ⟨rfl,fin⟩) hs
theorem zxg:IxR X zkn:=by
 intro value slice pins s σ H x y v u Q I rx ry h hs
 obtain ⟨z,i,c,rfl,rfl,hz,he,q⟩:=h
 obtain ⟨t,rfl⟩:=rx
 obtain ⟨t',rfl⟩:=ry
 obtain ⟨j,h1,h2,h3,h4,h5⟩:=atI_get he
 have hl:z.cps.toList.length=z.length:=by simp [Str.length]
 rw [hl] at h1 h4 h5
 have hn:=zfc
 exact tail_any (typeIs_str s z t) slot_str_getitem.lookup (getItem_str (c:=c) (by
  have e1:decide (i < -(2 ^ 63:Int))=false:=decide_eq_false (by omega)
  have e2:decide (i ≥ 2 ^ 63)=false:=decide_eq_false (by omega)
  rw [e1,e2,Bool.or_false]) (by rw [h1];simpa using h2) ⟨.str ⟨#[c]⟩,H,I.tok _,⟨_,rfl⟩,q⟩) hs
def rIx (K:QFg):R2:=λx y H Q=>zny K x y H Q\/znz K x y H Q\/zkn x y H Q
theorem zxh:IxR X (rIx X.K):=ix_list.or (ix_tup.or zxg)
theorem zxi (its:List Value) (n j:Nat) (u:Value):Obj.mapSeq (·.setIfInBounds j u) { cls:=.type "list",data:=.seq its.toArray n }={ cls:=.type "list",data:=.seq (its.set j u).toArray n }:=by
 simp [Obj.mapSeq]
theorem Inv.lst {pins:List (Addr × Obj)}{σ:St}{H:Hp}{s:Shared}{p:Addr}{xs:List V}(I:Inv X pins σ H s) (h:H p=some (.lst xs)) :
  ∃(its:List Value) (n:Nat),Vals xs its/\s.heap.get? p=some { cls:=.type "list",data:=.seq its.toArray n }/\xs.length<=sizeLine:=by
 obtain ⟨z,its,n,r,e⟩:=I.hok p _ h
 exact ⟨its,n,r,e,z⟩
theorem Inv.lstUpd {pins:List (Addr × Obj)}{σ:St}{H:Hp}{s:Shared}{p:Addr}{xs ys:List V}{its its':List Value}{n n':Nat}{f:Obj->Obj}(I:Inv X pins σ H s) (h:H p=some (.lst xs))
  (ho:s.heap.get? p=some { cls:=.type "list",data:=.seq its.toArray n }) (hf:f { cls:=.type "list",data:=.seq its.toArray n }={ cls:=.type "list",data:=.seq its'.toArray n' }) (r:Vals ys its') (hz:ys.length<=sizeLine) (t:Nat) :
  Inv X pins σ (upd H p (.lst ys)) { s with heap:=s.heap.update p f,toks:=t }:=by
 have e:(s.heap.update p f).get? p=some { cls:=.type "list",data:=.seq its'.toArray n' }:=by
  rw [Heap.get?_update_self f ho (by rw [hf] <;> rfl),hf]
 refine I.write (x:=p) (e:=p) (by rw [h];trivial) (.inl rfl) (λb u hb q=>(Heap.get?_update_other _ _ (Ne.symm hb)).trans q) ⟨_,e⟩ ?_
 exact ⟨hz,its',n',r,e⟩
def rSetL:V->V->V->Hp->(Hp->Prop)->Prop:=λo i v H Q=>∃p xs k j,o=.ref p/\i=.int k/\H p=some (.lst xs)/\ixN xs.length k=some j/\Q (upd H p (.lst (xs.set j v)))
theorem zxj:zm9 X rSetL:=by
 intro pins s σ H o i v ov iv u Q I ro ri rv h
 obtain ⟨p,xs,k,j,rfl,rfl,hp,hj,q⟩:=h
 cases ro
 obtain ⟨t,rfl⟩:=ri
 obtain ⟨its,n,r,ho,hz⟩:=I.lst hp
 obtain ⟨h1,h2,h3,h4⟩:=znw hj
 have hl:=r.length
 have hn:=zfc
 have I':Inv X pins σ (upd H p (.lst (xs.set j v))) { s with heap:=s.heap.update p (Obj.mapSeq (·.setIfInBounds j u)) } :=
  I.lstUpd hp ho (zxi its n j u) (r.set rv j) (by rw [List.length_set];exact hz) s.toks
 by_cases h0:0<=k
 ·have hk:k.toNat=j:=by
   rw [seqIndex_of h0 h4] at h1
   exact qoi h1
  exact PySem.W.ki_setAt ho h0 (by omega) (by rw [List.size_toArray,<-hl];exact h4) (by rw [hk];exact ⟨_,I',q⟩)
 ·have hk:(k+(its.toArray.size:Int)).toNat=j:=by
   rw [seqIndex_neg (by omega) h3] at h1
   rw [List.size_toArray,<-hl]
   exact qoi h1
  exact PySem.W.ki_setBack ho (by omega) (by rw [List.size_toArray,<-hl];exact h3) (by omega) (by rw [hk];exact ⟨_,I',q⟩)
theorem zxk (lo hi:Option Int) (n:Nat):(sliceBounds lo hi none n).1=((HT.sIx n 0 lo:Nat):Int)/\(sliceBounds lo hi none n).2.1=((HT.sIx n n hi:Nat):Int)/\(sliceBounds lo hi none n).2.2=1:=by
 refine ⟨?_,?_,rfl⟩
 ·cases lo with
  | none=>simp [sliceBounds,HT.sIx]
  | some i =>
   simp only [sliceBounds,HT.sIx,Option.getD_none,show (1:Int) > 0 by decide,if_true]
   by_cases h:i<0
   ·simp only [h,if_true] <;> omega
   ·simp only [h,if_false] <;> omega
 ·cases hi with
  | none=>simp [sliceBounds,HT.sIx]
  | some i =>
   simp only [sliceBounds,HT.sIx,Option.getD_none,show (1:Int) > 0 by decide,if_true]
   by_cases h:i<0
   ·simp only [h,if_true] <;> omega
   ·simp only [h,if_false] <;> omega
theorem zxl (its:List Value) (lo hi:Option Int):slicePick its.toArray lo hi none=((its.drop (HT.sIx its.length 0 lo)).take (HT.sIx its.length its.length hi-HT.sIx its.length 0 lo)).toArray:=by
 obtain ⟨h1,h2,h3⟩:=zxk lo hi its.toArray.size
 unfold slicePick
 rw [h1,h2,h3]
 simp only [sliceRange_one,pick_run,List.size_toArray] <;> rfl
def zxm (K:QFg):V->Option Int->Option Int->Hp->VK->Prop:=λx lo hi H Q=>∃a xs,x=.ref a/\SqL K H a xs/\∀p,H p=none->Q (.ref p) (upd H p (.lst (zdz xs lo hi)))
theorem zxn:SlR X (zxm X.K):=by
 intro pins s σ H x v vl vu lo hi sl Q I rx hs pl pu h
 obtain ⟨a,xs,rfl,hx,q⟩:=h
 cases rx
 obtain ⟨its,r,ht,hz⟩:=I.list hx
 have hlen:=r.length
 refine ⟨"list",_,slot_list_getitem.lookup,ht.isList.typeIs,?_⟩
 refine wpAny_getItem_list_slice ht.isList hs pl pu .none (by simp) ?_ (by rw [List.size_toArray] <;> omega)
 rw [zxl,<-hlen]
 refine ⟨.ref s.heap.objs.size,_,I.laid (t':=s.toks) (o:=.lst (zdz xs lo hi)) (λb ob q=>qps _ q) (qlr _) ?_,rfl,q _ (I.hok.fresh (qlr _))⟩
 exact ⟨Nat.le_trans (znv xs lo hi) hz,_,0,(r.drop (HT.sIx xs.length 0 lo)).take (HT.sIx xs.length xs.length hi-HT.sIx xs.length 0 lo),Heap.get?_push_size _ rfl⟩
noncomputable def zd0:V->Bool
 | .non=>true
 | .bl _=>true
 | .int _=>true
 | .str _=>true
 | _=>false
noncomputable def eqV:V->V->Bool
 | .non,.non=>true
 | .bl a,.bl b=>a == b
 | .bl a,.int b=>(if a then 1 else 0) == b
 | .int a,.bl b=>a == (if b then 1 else 0)
 | .int a,.int b=>a == b
 | .str a,.str b=>a == b
 | _,_=>false
theorem zxo {A:Around}{s:Shared}{y x:V}{u v:Value}(ry:RelV y u) (rx:RelV x v) (fy:zd0 y=true) (fx:zd0 x=true):SeqAt.EqAt A s u v (eqV y x):=by
 cases y with
 | non =>
  cases ry
  cases x with
  | non=>cases rx;exact SeqAt.EqAt.same _
  | bl b=>cases rx;exact SeqAt.EqAt.none_bool b
  | int b=>obtain ⟨t,rfl⟩:=rx;exact SeqAt.EqAt.none_int b t
  | str b=>obtain ⟨t,rfl⟩:=rx;exact SeqAt.EqAt.none_str b t
  | _=>exact absurd (show false=true from fx) Bool.false_ne_true
 | bl a =>
  cases ry
  cases x with
  | non=>cases rx;exact SeqAt.EqAt.bool_none a
  | bl b=>cases rx;exact SeqAt.EqAt.bool_bool a b
  | int b=>obtain ⟨t,rfl⟩:=rx;exact SeqAt.EqAt.bool_int a b t
  | str b=>obtain ⟨t,rfl⟩:=rx;exact SeqAt.EqAt.bool_str a b t
  | _=>exact absurd (show false=true from fx) Bool.false_ne_true
 | int a =>
  obtain ⟨t',rfl⟩:=ry
  cases x with
  | non=>cases rx;exact SeqAt.EqAt.int_none a t'
  | bl b=>cases rx;exact SeqAt.EqAt.int_bool a t' b
  | int b=>obtain ⟨t,rfl⟩:=rx;exact SeqAt.EqAt.int_int a t' b t
  | str b=>obtain ⟨t,rfl⟩:=rx;exact SeqAt.EqAt.int_str a t' b t
  | _=>exact absurd (show false=true from fx) Bool.false_ne_true
 | str a =>
  obtain ⟨t',rfl⟩:=ry
  cases x with
  | non=>cases rx;exact SeqAt.EqAt.str_none a t'
  | bl b=>cases rx;exact SeqAt.EqAt.str_bool a t' b
  | int b=>obtain ⟨t,rfl⟩:=rx;exact SeqAt.EqAt.str_int a t' b t
  | str b=>obtain ⟨t,rfl⟩:=rx;exact SeqAt.EqAt.str_str a t' b t
  | _=>exact absurd (show false=true from fx) Bool.false_ne_true
 | _=>exact absurd (show false=true from fy) Bool.false_ne_true
noncomputable def eqU (x:V) (u:Value):Bool:=match u with
 | .none=>eqV .non x
 | .bool b=>eqV (.bl b) x
 | .int i _=>eqV (.int i) x
 | .str z _=>eqV (.str z) x
 | _=>false
theorem zn0 {x y:V}{u:Value}(r:RelV y u) (f:zd0 y=true):eqU x u=eqV y x:=by
 cases y with
 | non=>cases r;rfl
 | bl b=>cases r;rfl
 | int i=>obtain ⟨t,rfl⟩:=r;rfl
 | str z=>obtain ⟨t,rfl⟩:=r;rfl
 | _=>exact absurd (show false=true from f) Bool.false_ne_true
theorem zko {x:V}:∀{xs:List V}{us:List Value},Vals xs us->xs.all zd0=true->us.any (eqU x)=xs.any λy=>eqV y x
 | _,_,.nil,_=>rfl
 | y :: xs,u :: us,.cons r t,f=>by
  rw [List.all_cons,Bool.and_eq_true] at f
  rw [List.any_cons,List.any_cons,zn0 r f.1,zko t f.2]
theorem zkp {A:Around}{s:Shared}{x:V}{v:Value}(rx:RelV x v) (fx:zd0 x=true):∀{xs:List V}{us:List Value},Vals xs us->xs.all zd0=true->∀u∈us,SeqAt.EqAt A s u v (eqU x u)
 | _,_,.nil,_=>λu hu=>by cases hu
 | y :: xs,u :: us,.cons r t,f=>λu' hu=>by
  rw [List.all_cons,Bool.and_eq_true] at f
  rcases List.mem_cons.mp hu with rfl|hu
  ·rw [zn0 r f.1];exact zxo r rx f.1 fx
  ·exact zkp rx fx t f.2 u' hu
noncomputable def inV (x:V) (xs:List V):Bool:=xs.any λy=>eqV y x
def rIn (K:QFg) (neg:Bool):R2:=λx y H Q=>∃p xs,y=.ref p/\(SqL K H p xs\/SqT K H p xs)/\zd0 x=true/\xs.all zd0=true/\Q (.bl (if neg then !inV x xs else inV x xs)) H
theorem zn1:OpR X (compareOp .NotIn) (rIn X.K true):=by
 intro pins s σ H x y v u Q I rx ry h
 obtain ⟨p,xs,rfl,hq,fx,fs,q⟩:=h
 cases ry
 rcases hq with hq|hq
 ·obtain ⟨its,r,pl,hz⟩:=I.list hq
  refine SeqAt.notIn_listAt (eqU x) pl.isList (λw hw=>zkp rx fx r fs w (by simpa using hw)) ⟨.bl _,H,I,rfl,?_⟩
  rw [show its.toArray.any (eqU x)=its.any (eqU x) by simp,zko r fs]
  exact q
 ·obtain ⟨its,r,pl,hz⟩:=I.tuple hq
  refine SeqAt.notIn_tupleAt (eqU x) pl (λw hw=>zkp rx fx r fs w (by simpa using hw)) ⟨.bl _,H,I,rfl,?_⟩
  rw [show its.toArray.any (eqU x)=its.any (eqU x) by simp,zko r fs]
  exact q
theorem call_len_seq:CallR X (.builtin "len") (λxs H Q=>∃p ys,xs=[.ref p]/\(SqL X.K H p ys\/SqT X.K H p ys)/\Q (.int ys.length) H):=by
 intro pins s σ H xs us Q I r h
 obtain ⟨p,ys,rfl,hq,q⟩:=h
 obtain ⟨u,rfl,rx⟩:=zcr r
 cases rx
 have hn:=zfc
 rcases hq with hq|hq
 ·obtain ⟨its,r',pl,hz⟩:=I.list hq
  have hlen:=r'.length
  exact Calls.call_len_list pl.isList (by simp only [List.size_toArray] <;> omega) ⟨.int ys.length,H,I.tok _,⟨s.toks+1,by rw [List.size_toArray,hlen]⟩,q⟩
 ·obtain ⟨its,r',pl,hz⟩:=I.tuple hq
  have hlen:=r'.length
  exact len_tuple pl (by simp only [List.size_toArray] <;> omega) ⟨.int ys.length,H,I.tok _,⟨s.toks+1,by rw [List.size_toArray,hlen]⟩,q⟩
theorem zxp:CallR X (.builtin "len") (λxs H Q=>∃z,xs=[.str z]/\z.length<=sizeLine/\Q (.int z.length) H):=by
 intro pins s σ H xs us Q I r h
 obtain ⟨z,rfl,hz,q⟩:=h
 obtain ⟨u,rfl,t,rfl⟩:=zcr r
 have hn:=zfc
 exact len_str (by omega) ⟨.int z.length,H,I.tok _,⟨_,rfl⟩,q⟩
theorem CallR.or {f:Value}{r r':List V->Hp->VK->Prop}(h:CallR X f r) (h':CallR X f r'):CallR X f (λxs H Q=>r xs H Q\/r' xs H Q):=by
 intro pins s σ H xs us Q I rs q
 rcases q with q|q
 ·exact h pins s σ H xs us Q I rs q
 ·exact h' pins s σ H xs us Q I rs q
theorem zxq:CallR X (.type "tuple") (λxs H Q=>∃p ys,xs=[.ref p]/\((SqL X.K H p ys/\∀l,H l=none->Q (.ref l) (upd H l (.tup ys)))\/(SqT X.K H p ys/\Q (.ref p) H))):=by
 intro pins s σ H xs us Q I r h
 obtain ⟨p,ys,rfl,h⟩:=h
 obtain ⟨u,rfl,rx⟩:=zcr r
 cases rx
 rcases h with ⟨hq,q⟩|⟨hq,q⟩
 ·obtain ⟨its,r',pl,hz⟩:=I.list hq
  have hlen:=r'.length
  refine call_tuple_list pl.isList (λh' kp=>?_) (by simp only [List.size_toArray] <;> omega)
  have I1:Inv X pins σ H { s with heap:=h' }:=I.kept (t':=s.toks) kp
  have I2:Inv X pins σ (upd H h'.objs.size (.tup ys)) { s with heap:=h'.push { cls:=.type "tuple",data:=.seq its.toArray } } :=
   I1.laid (t':=s.toks) (λb o e=>qps _ e) (qlr _) (show ObjOk X.prog X.w _ _ _ (.tup ys) from ⟨hz,its,r',IsTD.new _ _⟩)
  exact ⟨.ref h'.objs.size,_,I2,rfl,q _ (I1.hok.fresh (qlr _))⟩
 ·obtain ⟨its,r',pl,hz⟩:=I.tuple hq
  exact call_tuple_same pl ⟨.ref p,H,I,rfl,q⟩
def tyV (K:QFg) (T:String) (x:V) (H:Hp):Prop:=match x with
 | .str _=>T = "str"
 | .int _=>T = "int"
 | .ref p=>(T = "list"/\∃xs,SqL K H p xs)\/(T = "tuple"/\∃o,K.lookup p=some o/\o.cls=.type "tuple"/\o.dict=none) \/
   (T = "dict"/\((∃kvs,H p=some (.dK kvs))\/∃kvs,H p=some (.dT kvs)))\/(T = "set"/\∃S n,H p=some (.set S n))
 | _=>False
theorem zn2 {pins:List (Addr × Obj)}{σ:St}{H:Hp}{s:Shared}{T:String}{x:V}{v:Value}(I:Inv X pins σ H s) (r:RelV x v) (ty:tyV X.K T x H) :
  s.TypeIs v T/\∀a,v=.ref a->∃ob,s.heap.get? a=some ob/\ob.dict=none:=by
 cases x with
 | str z =>
  obtain ⟨t,rfl⟩:=r
  cases (show T = "str" from ty)
  exact ⟨typeIs_str s z t,λ_ e=>nomatch e⟩
 | int i =>
  obtain ⟨t,rfl⟩:=r
  cases (show T = "int" from ty)
  exact ⟨typeIs_int s i t,λ_ e=>nomatch e⟩
 | ref p =>
  cases r
  rcases ty with ⟨rfl,xs,hq⟩|⟨rfl,o,hk,hc,hd⟩|⟨rfl,hk⟩|⟨rfl,S,n,hk⟩
  ·obtain ⟨its,_,pl,_⟩:=I.list hq
   refine ⟨pl.isList.typeIs,λa e=>?_⟩
   cases e
   obtain ⟨o,n,e,c,hd,_⟩:=pl
   exact ⟨o,e,hd⟩
  ·refine ⟨⟨o,I.kIn p o hk,hc⟩,λa e=>?_⟩
   cases e
   exact ⟨o,I.kIn _ o hk,hd⟩
  ·have z:∃o,s.heap.get? p=some o/\o.ExactDict:=by
    rcases hk with ⟨kvs,hk⟩|⟨kvs,hk⟩
    ·obtain ⟨_,_,_,_,o,_,_,e,ex,_⟩:=I.hok p _ hk
     exact ⟨o,e,ex⟩
    ·obtain ⟨_,_,_,_,o,_,_,e,ex,_⟩:=I.hok p _ hk
     exact ⟨o,e,ex⟩
   obtain ⟨o,e,ex⟩:=z
   refine ⟨⟨o,e,ex.1⟩,λa e2=>?_⟩
   cases e2
   exact ⟨o,e,ex.2.1⟩
  ·obtain ⟨o,_,_,_,e,ex,_⟩:=I.hok p _ hk
   refine ⟨⟨o,e,ex.1⟩,λa e2=>?_⟩
   cases e2
   exact ⟨o,e,ex.2.1⟩
 | _=>exact False.elim ty
def zxr (K:QFg) (T:String) (r:V->List V->Hp->VK->Prop) (to:TE):TE:=λσ H Q=>to σ H λx H1=>tyV K T x H1/\r x [] H1 Q
def tBM (K:QFg) (T:String) (r:V->List V->Hp->VK->Prop) (to:TE) (t:TA):TE:=λσ H Q=>to σ H λx H1=>tyV K T x H1/\t σ H1 λxs H2=>r x xs H2 Q
variable {o e:Expr}{es:List Expr}{to:TE}{t:TA}{name:Str}{apos cpos:Pos}{T id:String}{r:V->List V->Hp->VK->Prop}
theorem zn3 (pa:PlainAttrs T) (slot:Slot T name id) (hty:typeOf (.builtin id)=pure (.type "method_descriptor")) (hm:MtR X id r) (ho:PE X o to)
  (hbase:attributeBase o name X.env (eval o X.env)=eval o X.env:=by rfl) (hline:(apos.endLine == cpos.line)=true:=by rfl):PE X (.Call (.Attribute o name apos) [] [] cpos) (zxr X.K T r to):=by
 intro pins s σ H Q I h
 refine wpAny_Call_method0_late hbase hline (thn (ho pins s σ H _ I h) λv s1 ⟨x,H1,I1,r1,ty,q1⟩=>?_)
 obtain ⟨h1,h2⟩:=zn2 I1 r1 ty
 exact ⟨T,id,pa,slot,hty,h1,h2,Calls.callWith_builtin rfl (PySem.evalArgs_none (hm pins s1 σ H1 x [] v [] Q I1 r1 .nil q1))⟩
theorem zxs (pa:PlainAttrs T) (slot:Slot T name id) (hty:typeOf (.builtin id)=pure (.type "method_descriptor")) (hm:MtR X id r) (ho:PE X o to) (ha:PA X (e :: es) t)
  (hbase:attributeBase o name X.env (eval o X.env)=eval o X.env:=by rfl)
  (hfew:((backTo cpos (starEach (e :: es) X.env)).all (λx=>!x.1) && (backToKw cpos (keywordEach [] X.env)).all (λx=>x.1.isSome)
   && decide ((e :: es).length+([]:List Keyword).length+(if ([]:List Keyword).isEmpty then 0 else 1)<30))=true:=by rfl)
  (hline:(apos.endLine == cpos.line)=true:=by rfl) (hs:starEach (e :: es) X.env=(false,eval e X.env) :: starEach es X.env:=by rfl) (hplain:(backTo cpos (starEach es X.env)).any (·.1)=false:=by rfl) :
  PE X (.Call (.Attribute o name apos) (e :: es) [] cpos) (tBM X.K T r to t):=by
 intro pins s σ H Q I h
 refine wpAny_Call_method_late hbase hfew hline rfl (thn (ho pins s σ H _ I h) λv s1 ⟨x,H1,I1,r1,ty,q1⟩=>?_)
 obtain ⟨h1,h2⟩:=zn2 I1 r1 ty
 refine ⟨T,id,pa,slot,hty,h1,h2,?_⟩
 have hA:=ha cpos pins s1 σ H1 _ I1 q1
 rw [hs] at hA ⊢
 refine Calls.callWith_builtin (by show (false || (backTo cpos (starEach es X.env)).any (·.1))=false;rw [hplain] <;> rfl) (Calls.evalArgs_plain ?_)
 exact thn hA λus s2 ⟨vs,H2,I2,r2,q2⟩=>hm pins s2 σ H2 x vs v us Q I2 r1 r2 q2
end
def MtM (X:Cx) (id:String) (r:V->List V->Hp->VK->Prop):Prop :=
 ∀(pins:List (Addr × Obj)) (s:Shared) (σ:St) (H:Hp) (x:V) (xs:List V) (v:Value) (us:List Value) (Q:VK),Inv X pins σ H s->RelV x v->Vals xs us->r x xs H Q ->
  wpAny (model X.prog X.w) X.A (call (.builtin id) (v :: us)) (EP X pins σ Q) X.xe s
theorem Vals.one:∀{x:V}{us:List Value},Vals [x] us->∃u,us=[u]/\RelV x u
 | _,_,.cons r .nil=>⟨_,rfl,r⟩
theorem Vals.two {x y:V}{us:List Value}(h:Vals [x,y] us):∃u v,us=[u,v]/\RelV x u/\RelV y v:=by
 cases h with
 | cons r t =>
  cases t with
  | cons q t2=>cases t2;exact ⟨_,_,rfl,r,q⟩
theorem Vals.zero:∀{us:List Value},Vals [] us->us=[]
 | _,.nil=>rfl
theorem Vals.dropLast {xs:List V}{us:List Value}(h:Vals xs us):Vals xs.dropLast us.dropLast:=by
 induction h with
 | nil=>exact .nil
 | cons r t ih =>
  cases t with
  | nil=>exact .nil
  | cons q t'=>exact .cons r ih
theorem Vals.reverse {xs:List V}{us:List Value}(h:Vals xs us):Vals xs.reverse us.reverse:=by
 induction h with
 | nil=>exact .nil
 | cons r t ih=>rw [List.reverse_cons,List.reverse_cons];exact Vals.append ih (.cons r .nil)
theorem Vals.rep {xs:List V}{us:List Value}(h:Vals xs us):∀k:Nat,Vals (List.replicate k xs).flatten (List.replicate k us).flatten
 | 0=>.nil
 | k+1=>by
  rw [List.replicate_succ,List.replicate_succ,List.flatten_cons,List.flatten_cons]
  exact Vals.append h (Vals.rep h k)
theorem zxt {α:Type}(l:List α):l.eraseIdx (l.length-1)=l.dropLast:=by
 induction l with
 | nil=>rfl
 | cons a r ih =>
  cases r with
  | nil=>rfl
  | cons b r =>
   have e:(a :: b :: r).length-1=((b :: r).length-1)+1:=by
    have h1:(a :: b :: r).length=r.length+2:=rfl
    have h2:(b :: r).length=r.length+1:=rfl
    omega
   rw [e,List.eraseIdx_cons_succ,ih]
   all_goals rfl
theorem zkq (its:List Value):∀(k:Nat) (acc:List Value),
  List.foldl (λx1 x2=>x1++x2) acc.toArray (List.replicate k its.toArray)=(acc++(List.replicate k its).flatten).toArray
 | 0,acc=>by simp
 | k+1,acc=>by
  have e:acc.toArray++its.toArray=(acc++its).toArray:=by simp
  have e2:(acc++its)++(List.replicate k its).flatten=acc++(List.replicate (k+1) its).flatten:=by
   rw [List.replicate_succ,List.flatten_cons,List.append_assoc]
  rw [<-e2,<-zkq its k (acc++its),<-e,List.replicate_succ,List.foldl_cons]
section
variable {X:Cx}{pins:List (Addr × Obj)}{σ:St}{H:Hp}{s:Shared}{l b:Addr}{xs ys zs:List V}
theorem Inv.lset {its its':List Value}{n:Nat}{f:Array Value->Array Value}{t':Nat}(I:Inv X pins σ H s) (hH:H l=some (.lst xs))
  (e:s.heap.get? l=some { cls:=.type "list",data:=.seq its.toArray n }) (hf:f its.toArray=its'.toArray) (hv:Vals ys its') (hz:ys.length<=sizeLine) :
  Inv X pins σ (upd H l (.lst ys)) { s with heap:=s.heap.update l (Obj.mapSeq f),toks:=t' }:=by
 have q:=PySem.IsL.update e f
 rw [hf] at q
 refine I.write (x:=l) (e:=l) (by rw [hH];exact trivial) (.inl rfl) (λb' u hb hu=>(Heap.get?_update_other s.heap (Obj.mapSeq f) (Ne.symm hb)).trans hu) ⟨_,q⟩ ?_
 exact ⟨hz,its',_,hv,q⟩
theorem Inv.lnew {its:List Value}{t':Nat}(I:Inv X pins σ H s) (hv:Vals ys its) (hz:ys.length<=sizeLine) :
  Inv X pins σ (upd H s.heap.objs.size (.lst ys)) { s with heap:=s.heap.push { cls:=.type "list",data:=.seq its.toArray },toks:=t' } :=
 I.laid (λ_ _ q=>qps _ q) (qlr _) ⟨hz,its,0,hv,Heap.get?_push_size _ rfl⟩
theorem Inv.fresh (I:Inv X pins σ H s):H s.heap.objs.size=none:=I.hok.fresh (qlr _)
theorem Inv.lstM (I:Inv X pins σ H s) (hH:H l=some (.lst xs)):xs.length<=sizeLine/\∃(its:List Value) (n:Nat),Vals xs its/\xs.length=its.length/\s.heap.get? l=some { cls:=.type "list",data:=.seq its.toArray n }:=by
 obtain ⟨z,its,n,r,e⟩:=I.hok l _ hH
 exact ⟨z,its,n,r,r.length,e⟩
theorem zxu {n:Nat}(h:n<=sizeLine):Builtin.List.listTooLong n=false:=by
 unfold Builtin.List.listTooLong
 exact decide_eq_false (by omega)
end
section
variable {X:Cx}
def zn4:V->List V->Hp->VK->Prop:=λx vs H Q=>∃l xs y,x=.ref l/\vs=[y]/\H l=some (.lst xs)/\xs.length<sizeLine/\Q .non (upd H l (.lst (xs++[y])))
theorem zkr:MtM X "list.append" zn4:=by
 intro pins s σ H x vs v us Q I rx rv h
 obtain ⟨l,xs,y,rfl,rfl,hH,hz,q⟩:=h
 cases rx
 obtain ⟨u,rfl,ru⟩:=rv.one
 obtain ⟨z,its,n,r,hl,e⟩:=I.lstM hH
 refine call_meets F.slot_list_append ⟨_,e,rfl⟩ F.entry_list_append (F.args_list_append_2 _ _) (PySem.list_append l its.toArray n u (by rw [List.size_toArray];omega)) ⟨e,?_⟩
 refine ⟨.non,_,I.lset (its':=its++[u]) hH e (by simp) (r.append (.cons ru .nil)) ?_,rfl,q⟩
 rw [qla,List.length_singleton]
 omega
def zn5:V->List V->Hp->VK->Prop:=λx vs H Q=>∃l xs y,x=.ref l/\vs=[]/\H l=some (.lst xs)/\xs[xs.length-1]? = some y/\Q y (upd H l (.lst xs.dropLast))
theorem zxv:MtM X "list.pop" zn5:=by
 intro pins s σ H x vs v us Q I rx rv h
 obtain ⟨l,xs,y,rfl,rfl,hH,hy,q⟩:=h
 cases rx
 have hus:=rv.zero
 subst hus
 obtain ⟨z,its,n,r,hl,e⟩:=I.lstM hH
 obtain ⟨u,hu,ru⟩:=r.get hy
 have hy':its.toArray[its.toArray.size-1]? = some u:=by
  show its.toArray[its.length-1]? = some u
  rw [<-Array.getElem?_toList,<-hl]
  exact hu
 refine call_meets F.slot_list_pop ⟨_,e,rfl⟩ F.entry_list_pop (F.args_list_pop_1 _) (MeetsSeq.list_pop_last l its.toArray n u hy' (by rw [List.size_toArray];omega)) ⟨e,?_⟩
 refine ⟨y,_,I.lset (its':=its.dropLast) hH e ?_ r.dropLast ?_,ru,q⟩
 ·show its.toArray.eraseIdxIfInBounds (its.toArray.size-1)=its.dropLast.toArray
  rw [List.size_toArray,List.eraseIdxIfInBounds_toArray,zxt]
 ·rw [List.length_dropLast]
  omega
def zn6:V->List V->Hp->VK->Prop:=λx vs H Q=>∃l xs,x=.ref l/\vs=[]/\H l=some (.lst xs)/\Q .non (upd H l (.lst xs.reverse))
theorem zxw:MtM X "list.reverse" zn6:=by
 intro pins s σ H x vs v us Q I rx rv h
 obtain ⟨l,xs,rfl,rfl,hH,q⟩:=h
 cases rx
 have hus:=rv.zero
 subst hus
 obtain ⟨z,its,n,r,hl,e⟩:=I.lstM hH
 refine call_meets F.slot_list_reverse ⟨_,e,rfl⟩ F.entry_list_reverse (F.args_list_reverse_1 _) (AutoSeq1.list_reverse_list_0 l its.toArray n (by rw [List.size_toArray];omega)) ⟨e,?_⟩
 refine ⟨.non,_,I.lset (its':=its.reverse) hH e (by simp) r.reverse ?_,rfl,q⟩
 rw [List.length_reverse]
 omega
def zn7:R2:=λx y H Q=>∃l b xs zs,x=.ref l/\y=.ref b/\H l=some (.lst xs)/\H b=some (.lst zs)/\xs.length+zs.length<=sizeLine/\∀p,H p=none->Q (.ref p) (upd H p (.lst (xs++zs)))
theorem zxx:OpR X (binaryOp .Add) zn7:=by
 intro pins s σ H x y v u Q I rx ry h
 obtain ⟨l,b,xs,zs,rfl,rfl,hH,hB,hz,q⟩:=h
 cases rx
 cases ry
 obtain ⟨z,its,n,r,hl,e⟩:=I.lstM hH
 obtain ⟨z2,its2,n2,r2,hl2,e2⟩:=I.lstM hB
 refine PySem.P.add_list e e2 ?_ (by rw [List.size_toArray,List.size_toArray];omega)
 have ea:its.toArray++its2.toArray=(its++its2).toArray:=by simp
 rw [ea]
 exact ⟨.ref _,_,I.lnew (t':=s.toks) (r.append r2) (by rw [qla];omega),rfl,q _ I.fresh⟩
def zn8:R2:=λx y H Q=>∃l k xs,x=.ref l/\y=.int k/\H l=some (.lst xs)/\-(2 ^ 63)<=k/\k<2 ^ 63/\xs.length*k.toNat<=sizeLine /\
 ∀p,H p=none->Q (.ref p) (upd H p (.lst (List.replicate k.toNat xs).flatten))
theorem zks {α:Type}(xs:List α) (k:Nat):(List.replicate k xs).flatten.length=k*xs.length:=by
 induction k with
 | zero=>simp
 | succ k ih=>rw [List.replicate_succ,List.flatten_cons,qla,ih,Nat.succ_mul,Nat.add_comm]
theorem zxy:OpR X (binaryOp .Mult) zn8:=by
 intro pins s σ H x y v u Q I rx ry h
 obtain ⟨l,k,xs,rfl,rfl,hH,h1,h2,hz,q⟩:=h
 cases rx
 obtain ⟨t,rfl⟩:=ry
 obtain ⟨z,its,n,r,hl,e⟩:=I.lstM hH
 have hlen:its.toArray.size*k.toNat<=sizeLine:=by rw [List.size_toArray,<-hl];exact hz
 have hcap:¬its.toArray.size*k.toNat > (2 ^ 63-1) / 8:=by
  have:(sizeLine:Nat)<=(2 ^ 63-1) / 8:=by decide
  omega
 have hfit:¬(!Builtin.List.listFitsIndex k)=true:=by
  rw [fitsIndex_both h1 h2]
  exact Bool.false_ne_true
 have hlong:¬Builtin.List.listTooLong (its.toArray.size*k.toNat)=true:=by
  rw [zxu hlen]
  exact Bool.false_ne_true
 have hnew:List.foldl (λx1 x2=>x1++x2) #[] (List.replicate (if its.toArray.isEmpty=true then 0 else k.toNat) its.toArray)=(List.replicate k.toNat its).flatten.toArray:=by
  have f0:∀m:Nat,List.foldl (λx1 x2=>x1++x2) #[] (List.replicate m its.toArray)=(List.replicate m its).flatten.toArray:=λm=>by
   have:=zkq its m []
   rw [List.nil_append] at this
   exact this
  rw [f0]
  cases its with
  | nil=>simp
  | cons a r'=>rw [if_neg (by simp)]
 refine wpAny_binaryOp_repeat_ref (T:="list") (U:="int") (by decide) ⟨_,e,rfl⟩ (λs'=>typeIs_int s' k t) noFill_list_mul F.fills_int_mul F.slot_int_rmul repeat_list F.slot_int_index.lookup
  (call_meets F.slot_int_rmul (typeIs_int s k t) F.entry_int_rmul (F.args_int_rmul_2 _ _) (int___rmul___int_list k t l its.toArray n)
   ⟨e,rfl,⟨_,e,rfl⟩,call_meets F.slot_list_mul ⟨_,e,rfl⟩ F.entry_list_mul (F.args_list_mul_2 _ _) (AutoListH.list___mul___list_int_3 l its.toArray n k t hfit hcap hlong) ⟨e,?_⟩⟩)
 rw [hnew]
 exact ⟨.ref _,_,I.lnew (t':=s.toks) (r.rep k.toNat) (by rw [zks,Nat.mul_comm];exact hz),rfl,q _ I.fresh⟩
end
section
variable {prog:Program}{w:World}{A:Around}{E:Value->Shared->Prop}{s:Shared}
end
section
variable {X:Cx}
end
end L2
namespace Att
open PySem PySem.W PySem.Calls PyProof.Rows
theorem zxz {P:Params}{h:Heap}:∀(ns:List Int) (vs:List Value),WellAll P h vs (ns.map WData.int)->IntsAre vs ns:=by
 intro ns
 induction ns with
 | nil =>
  intro vs w
  rw [List.map_nil] at w
  cases w
  exact .nil
 | cons n ns ih =>
  intro vs w
  rw [List.map_cons] at w
  cases w with
  | cons a b =>
   cases a
   exact .cons _ _ (ih _ b)
theorem zx0 {l:OpenLaw}{n:Nat}(hn:l.most=some n) {P:Params}{h:Heap}{args:List WData}{vals:List Value}
  (hpre:l.row.toRowW.claim.pre args=true) (hwl:WellAll P h vals args) :
  ∃a vs ns,vals=[Value.ref a]/\args=[WData.list (ns.map WData.int)]/\h.get? a=some { cls:=.type "list",data:=.seq vs.toArray }/\IntsAre vs ns/\ns.length<=n:=by
 have hsh:WShape.hasAll [] args [.list .int]=true:=(pre_splitW hpre).1
 have hc:l.pre.holds [] { args:=args }=true:=(pre_splitW hpre).2
 obtain ⟨d,r,rfl,h1,h2⟩:=hasAllW_cons hsh
 obtain rfl:=hasAllW_nil h2
 obtain ⟨xs,rfl,h3⟩:=hasW_list h1
 obtain ⟨ns,rfl⟩:=items_int h3
 have hlen:ns.length<=n:=by
  unfold OpenLaw.pre at hc
  have h4:(WTm.not (.lt (.lit (.int (n:Int))) (.len (.arg 0)))).holds [] { args:=[.list (ns.map .int)] }=true:=by
   have h4:=(holds_andW hc).1
   rw [hn] at h4
   exact h4
  have h5:=condW_of h4 (w_not (w_lt w_lit (w_len_list (w_arg rfl))))
  rw [qlm] at h5
  refine Nat.le_of_not_lt λq=>?_
  have q':(n:Int)<((ns.length:Nat):Int):=by omega
  first
   | (rw [decide_eq_true q'] at h5;exact absurd h5 (by decide))
   | (simp at h5;omega)
 cases hwl with
 | cons w1 w2 =>
  cases w2
  cases w1 with
  | list ho hall=>exact ⟨_,_,ns,rfl,rfl,ho,zxz ns _ hall,hlen⟩
theorem zx1 (l:OpenLaw) (args:List WData):l.row.toRowW.claim.post args (.bool true) args=true :=
 postW_of (r:=l.row.toRowW) (X:=(true == true))
  (show WShape.has [] (.bool true) .bool=true by first|rfl|decide|simp [WShape.has,WShape.arms,WShape.armsAll])
  (show (WTm.eq .res (.lit (.bool true))).value [] { args:=args,res:=some (.bool true),after:=args }=some (.bool (true == true)) from w_eq_bool (w_res rfl) w_lit) rfl
theorem attach_call {l:OpenLaw}{n:Nat}{q:Program}{loose:List Str}{XP:(Str->Option Value)->Heap->Prop}{YP:World->Heap->Prop}{d:DefRec}
  (hn:l.most=some n) (hdf:d.params.defaults=[])
  (call:∀(w:World) (s₀ s₁:Shared) (mg mb:Str->Option Value) (fa:Addr) (o:Obj) (pm cd doc:Value) (a:Addr) (vs:List Value) (ns:List Int),
   Ground q loose [] XP w s₀ mg mb s₁.heap->YP w s₁.heap ->
   s₁.heap.get? fa=some o->o.data=.func (docDef d.name d.params d.body d.scope pm cd doc)->s₁.heap.CodeRec cd d.name->mg d.name=some (.ref fa) ->
   s₁.heap.get? a=some { cls:=.type "list",data:=.seq vs.toArray }->IntsAre vs ns->ns.length<=n->s₁.gens = #[] ->
   codeAny (model l.prog w) callerA (.call (.ref fa) ⟨[.ref a],[]⟩) (λr s'=>r=.ok (.ret (.bool true))/\OldK s₁.heap s'.heap/\s'.os=s₁.os/\AllBare s'.gens) s₁) :
  WalkO q loose XP YP l.row.toRowW d [] (λf vs=>PySem.call f vs):=by
 intro w s₀ s₁ mg mb G Y fa o pm cd doc dV kV ho hd hcd hD hmg hg args vals as hpre hlay hrd hwl hlo
 obtain rfl:dV=.none:=Dflts.none hD hdf
 obtain rfl:kV=.none:=Dflts.noKw hD
 obtain ⟨a,vs,ns,rfl,rfl,hobj,hints,hlen⟩:=zx0 hn hpre hwl
 refine enter_call (codeAny_mono (call w s₀ s₁ mg mb fa o pm cd doc a vs ns G Y ho (fd_plain hd) hcd hmg hobj hints hlen hg) λr s' hq=>?_)
 obtain ⟨rfl,h2,h3,h4⟩:=hq
 exact ⟨.inl ⟨.bool true,.bool true,[],rfl,λ_=>rfl,.bool true,zx1 l _,λ_=>⟨List.Pairwise.nil,λ_ hm=>(nomatch hm)⟩⟩,h2,h3,h4⟩
section
variable {prog:Program}{w:World}{A:Around}{E:Value->Shared->Prop}{s:Shared}{K:Frag}
end
end Att
namespace L2
open PySem PySem.Spec PyProof.Rows
theorem zn9:∀{vs:List Value}{ns:List Int},IntsAre vs ns->Vals (ns.map V.int) vs
 | _,_,.nil=>.nil
 | _,_,.cons n t h=>.cons ⟨t,rfl⟩ (zn9 h)
def zix (H:Hp):Prop:=∀b,H b=none\/∃o xs,H b=some (.frz o (.lst xs))
theorem zx2 {P:Program}{w:World}{K:QFg}{mg mb:Str->Option Value}{CX:CXT}{k:Nat}{fa a:Addr}{fd:FuncData}{x:Str}{sp:Sp}{s₁:Shared}{vs:List Value}{ns:List Int}
  (KX:K.In s₁.heap) (hbm:BMd mg s₁.heap) (hns:s₁.heap.Ns mainGlobals mg) (hb:s₁.heap.Ns builtinsNs mb) (hbb:∀x:Str,x≠"__name__"->mb x=bootBuiltins x) (hlim:s₁.heap.NoLimit) (hg:s₁.gens = #[])
  (ha:s₁.heap.get? a=some { cls:=.type "list",data:=.seq vs.toArray }) (hi:IntsAre vs ns) (hl:ns.length<=sizeLine) (hr:Room k callerA)
  (F:∀base:Heap,K.In base->base.Ns mainGlobals mg->FnOk P w K mg base CX k fa fd [x] sp) (hbind:∀(s:Shared) (u:Value),BindsTo s fd ⟨[u],[]⟩ [(x,u)])
  (hsp:∀H:Hp,zix H->SqL K H a (ns.map V.int)->sp [.ref a] H (λv _=>v=.bl true) λ_ _ _=>False)
  (hCX:∀H e s',CX [] H s₁ (λ_ _ _=>False) e s'->False) :
  codeAny (model P w) callerA (.call (.ref fa) ⟨[.ref a],[]⟩) (λr s'=>r=.ok (.ret (.bool true))/\OldK s₁.heap s'.heap/\s'.os=s₁.os/\AllBare s'.gens) s₁:=by
 have rv:=zn9 hi
 have lenV:=hi.length
 have core:∀H:Hp,zix H->SqL K H a (ns.map V.int)->HOk P w H s₁.heap->(∀b,H b≠none->b=a)->(H a≠none->K.lookup a=none) ->
   codeAny (model P w) callerA (.call (.ref fa) ⟨[.ref a],[]⟩) (λr s'=>r=.ok (.ret (.bool true))/\OldK s₁.heap s'.heap/\s'.os=s₁.os/\AllBare s'.gens) s₁:=by
  intro H hO hS hok hA hK
  have base_of:∀{b:Addr} {o:Obj},s₁.heap.get? b=some o->H b=none->(zee s₁.heap H).get? b=some o:=λe n=>zup e n
  have noA:∀{b:Addr} {o:Obj} {es:Array DictEntry} {ep:Nat},s₁.heap.get? b=some o->o.data=.dict es ep->H b=none:=λ{b o es ep} e d=>by
   cases q:H b with
   | none=>rfl
   | some u =>
    have e':b=a:=hA b (by rw [q];simp)
    subst e'
    rw [ha] at e;cases e
    have d':Data.seq vs.toArray _=Data.dict es ep:=d
    cases d'
  have nsK:∀{b:Addr} {m:Str->Option Value},s₁.heap.Ns b m->(zee s₁.heap H).Ns b m:=λ{b m} ⟨o,es,ep,e,d,r⟩=>⟨o,es,ep,base_of e (noA e d),d,r⟩
  have hKb:K.In (zee s₁.heap H):=λb o e=>base_of (KX b o e) (by
   cases q:H b with
   | none=>rfl
   | some u =>
    have e':b=a:=hA b (by rw [q];simp)
    subst e'
    rw [hK (by rw [q];simp)] at e;cases e)
  have hM:Mod K mg (zee s₁.heap H):=⟨hKb,nsK hns,⟨mb,nsK hb,hbb⟩,let ⟨mc,h1,h2⟩:=hlim;⟨mc,nsK h1,h2⟩,by
   obtain ⟨bm,ob,b1,b2,b3,b4,b5⟩:=hbm
   refine ⟨bm,ob,b1,b2,base_of b3 ?_,b4,b5⟩
   cases q:H bm with
   | none=>rfl
   | some u =>
    have e':bm=a:=hA bm (by rw [q];simp)
    subst e'
    rw [ha] at b3;cases b3;exact absurd (show Value.type "list" = Value.type "module" from b4) (by decide)⟩
  have e0:Env0 P w K mg (zee s₁.heap H) callerA [] s₁ H:=⟨rfl,hM,λb o e=>zuq e,Nat.le_of_eq (zuo _ _),trivial,λb hb=>absurd (show b∈([]:List Addr) from hb) (by simp),hok,.of_eq hg⟩
  refine codeAny_mono ((F _ hKb (nsK hns)).run callerA [] s₁ H ⟨[.ref a],[]⟩ [.ref a] [.ref a] _ _ hr e0 (hbind s₁ (.ref a)) (.cons rfl .nil) (hsp H hO hS)) λr s' h=>?_
  cases r with
  | error e=>exact (hCX H e s' h).elim
  | ok fl =>
   cases fl with
   | next=>exact False.elim h
   | brk=>exact False.elim h
   | cont=>exact False.elim h
   | ret u =>
    obtain ⟨v,H',os,bare,un,hok',r',q⟩:=h
    have q':v=.bl true:=q
    subst q'
    obtain rfl:u=Value.bool true:=r'
    refine ⟨rfl,OldK.of_keep λb o e=>?_,os,bare⟩
    cases q:H b with
    | none=>exact un.keep b o e q (by intro z;exact absurd (show b∈([]:List Addr) from z) (by simp)) (by simp)
    | some u =>
     rcases hO b with z|⟨ob,xs,z⟩
     ·rw [q] at z;cases z
     ·have z2:=un.frzs b ob _ z
      obtain ⟨e1,_⟩:=hok b _ z
      obtain ⟨e2,_⟩:=hok' b _ z2
      rw [e] at e1;cases e1
      exact e2
 cases hk:K.lookup a with
 | some o =>
  have e:=KX a o hk
  rw [ha] at e
  cases e
  refine core (λ_=>none) (λ_=>.inl rfl) (.inr ⟨_,vs.toArray,_,hk,rfl,rfl,rfl,by rw [List.size_toArray,lenV];exact hl,by simpa using rv⟩) (λb u z=>by have z':(none:Option HO)=some u:=z;cases z') (λb z=>absurd rfl z) λz=>absurd rfl z
 | none =>
  refine core (λb=>if b=a then some (.frz { cls:=.type "list",data:=.seq vs.toArray } (.lst (ns.map V.int))) else none) (λb=>?_) (.inl (.inr ⟨{ cls:=.type "list",data:=.seq vs.toArray },if_pos rfl⟩)) (λb u z=>?_) (λb z=>?_) λ_=>hk
  ·by_cases hb:b=a
   ·exact .inr ⟨_,_,if_pos hb⟩
   ·exact .inl (if_neg hb)
  ·by_cases hb:b=a
   ·have z':=(if_pos hb).symm.trans z
    cases z'
    subst hb
    exact ⟨ha,by rw [qlm];exact hl,vs,_,rv,ha⟩
   ·have z':=(if_neg hb).symm.trans z
    cases z'
  ·by_cases hb:b=a
   ·exact hb
   ·exact absurd (if_neg hb) z
theorem walk_of {l:PySem.W.OpenLaw}{n k:Nat}{q:Program}{loose:List Str}{XP:(Str->Option Value)->Heap->Prop}{YP:World->Heap->Prop}{d:DefRec}{K:Params->QFg}{CX:World->CXT}{sp:World->Sp}{x:Str}
  (hn:l.most=some n) (hn2:n<=sizeLine) (hdf:d.params.defaults=[]) (hr:Room k callerA)
  (hY:∀(w:World) (h:Heap),YP w h->(K w.params).In h)
  (F:∀(w:World) (mg:Str->Option Value) (fa:Addr) (h:Heap),(K w.params).In h->h.Ns mainGlobals mg->mg d.name=some (.ref fa) ->
   ∃fd:FuncData,(∀(s:Shared) (u:Value),BindsTo s fd ⟨[u],[]⟩ [(x,u)]) /\
    ∀base:Heap,(K w.params).In base->base.Ns mainGlobals mg->FnOk l.prog w (K w.params) mg base (CX w) k fa fd [x] (sp w))
  (hsp:∀(w:World) (H:Hp) (a:Addr) (ns:List Int),ns.length<=n->zix H->SqL (K w.params) H a (ns.map V.int)->sp w [.ref a] H (λv _=>v=.bl true) λ_ _ _=>False)
  (hCX:∀(w:World) (H:Hp) (s:Shared) (e:Value) (s':Shared),CX w [] H s (λ_ _ _=>False) e s'->False) :
  PySem.W.WalkO q loose XP YP l.row.toRowW d [] (λf vs=>PySem.call f vs):=by
 refine Att.attach_call hn hdf λw s₀ s₁ mg mb fa o pm cd doc a vs ns G Y ho hd hcd hmg hobj hints hlen hg=>?_
 have KX:=hY w _ Y
 obtain ⟨fd,hb,hF⟩:=F w mg fa _ KX G.T.g hmg
 exact zx2 KX G.T.bmain G.T.g G.T.b G.T.builtins G.T.nolimit hg hobj hints (Nat.le_trans hlen hn2) hr hF hb (λH hO hS=>hsp w H a ns hlen hO hS) λH e s'=>hCX w H s₁ e s'
noncomputable def zfd (s:Stmt):Arguments:=match s with
 | .FunctionDef _ a _ _ _ _ _ _ _ _=>a
 | _=>{ posonlyargs:=[],args:=[],vararg:=none,kwonlyargs:=[],kw_defaults:=[],kwarg:=none,defaults:=[] }
noncomputable def zdd (s:Stmt):List Stmt:=match s with
 | .FunctionDef _ _ b _ _ _ _ _ _ _=>b
 | _=>[]
noncomputable def zaq (s:Stmt):Scope:=match s with
 | .FunctionDef _ _ _ _ _ _ sc _ _ _=>sc
 | _=>{ kind:=.function,names:=[],isGenerator:=false,isCoroutine:=false }
abbrev CX0:CXT:=λ_ _ _ _ _ _=>False
abbrev E0:XK:=λ_ _ _=>False
theorem zx3 {X:Cx}:zkl CX0 X E0:=λ_ _ _ _ _ _ _ h=>h.elim
structure Fun (K:QFg) (x qual:Str) (st:Stmt) (f:Addr) (fd:FuncData):Prop where
 ex:∃(oc:Value) (od:Option Addr) (kV doc pm:Value) (an:Option Addr) (cdv ct:Value) (osl:Array (Option Value)),
  fd=PySem.W.fnOf x qual (zfd st) (zdd st) (zaq st) .none kV doc pm an cdv ct/\K.lookup f=some ⟨oc,od,.func fd,osl⟩/\PySem.W.codeIn K cdv qual=true
 kp:PySem.W.keepIn K (.ref f)=true
section
variable {P:Program}{w:World}{K:QFg}{mg:Str->Option Value}{base:Heap}
theorem Fun.binds {x qual:Str}{st:Stmt}{f:Addr}{fd:FuncData}{ps:List Str}(F:Fun K x qual st f fd)
  (h:∀(kV doc pm:Value) (an:Option Addr) (cdv ct:Value) (us:List Value),us.length=ps.length->bindArgs (PySem.W.fnOf x qual (zfd st) (zdd st) (zaq st) .none kV doc pm an cdv ct) ⟨us,[]⟩=pure (ps.zip us)):Binds K fd ps []:=by
 obtain ⟨oc,od,kV,doc,pm,an,cdv,ct,osl,rfl,lk,hcd⟩:=F.ex
 exact .all (h kV doc pm an cdv ct)
theorem zx4 {x qual:Str}{st:Stmt}{f:Addr}{oc:Value}{od an:Option Addr}{osl:Array (Option Value)}{kV doc pm cdv ct:Value}(l:K.lookup f=some ⟨oc,od,.func (PySem.W.fnOf x qual (zfd st) (zdd st) (zaq st) .none kV doc pm an cdv ct),osl⟩)
  (c:PySem.W.codeIn K cdv qual=true) (k:PySem.W.keepIn K (.ref f)=true):Fun K x qual st f (PySem.W.fnOf x qual (zfd st) (zdd st) (zaq st) .none kV doc pm an cdv ct):=⟨⟨oc,od,kV,doc,pm,an,cdv,ct,osl,rfl,l,c⟩,k⟩
end
section
variable {X:Cx}
end
theorem zc1 {A B:Prop}(h:B):if false=true then A else B:=by
 rw [if_neg Bool.false_ne_true]
 exact h
theorem zc2 {A B:Prop}(h:A):if true=true then A else B:=by
 rw [if_pos rfl]
 exact h
section
variable {κ:Type} [DecidableEq κ]
noncomputable def zbu (kvs:List (κ × V)) (k:κ):Option V:=(kvs.find? λkv=>decide (kv.1=k)).map (·.2)
noncomputable def zbs (kvs:List (κ × V)) (k:κ) (v:V):List (κ × V) :=
 if (kvs.any λkv=>decide (kv.1=k))=true then kvs.map (λkv=>if kv.1=k then (kv.1,v) else kv) else kvs++[(k,v)]
theorem zg8 {p:κ × V}{r:List (κ × V)}{k:κ}(e:p.1=k):zbu (p :: r) k=some p.2:=by simp [zbu,List.find?_cons,e]
theorem zg9 {p:κ × V}{r:List (κ × V)}{k:κ}(e:¬p.1=k):zbu (p :: r) k=zbu r k:=by simp [zbu,List.find?_cons,e]
theorem zoa (k:κ):∀kvs:List (κ × V),(kvs.any λkv=>decide (kv.1=k))=(zbu kvs k).isSome
 | []=>rfl
 | p :: r=>by
  rw [List.any_cons]
  by_cases e:p.1=k
  ·simp only [zg8 e,decide_eq_true e,Bool.true_or,Option.isSome_some]
  ·rw [zg9 e,decide_eq_false e,Bool.false_or];exact zoa k r
theorem ziy (kvs:List (κ × V)) (k:κ) (v:V):(zbs kvs k v).length<=kvs.length+1:=by
 unfold zbs
 split
 ·rw [qlm];omega
 ·rw [qla,List.length_cons,List.length_nil];omega
theorem RelO.isSome_eq (r:RelO o u):o.isSome=u.isSome:=by
 cases o with
 | none=>cases u with
  | none=>rfl
  | some _=>exact (show False from r).elim
 | some _=>cases u with
  | none=>exact (show False from r).elim
  | some _=>rfl
theorem RelO.getD (r:RelO o u) (rd:RelV d d'):RelV (o.getD d) (u.getD d'):=by
 cases o with
 | none=>cases u with
  | none=>exact rd
  | some _=>exact (show False from r).elim
 | some _=>cases u with
  | none=>exact (show False from r).elim
  | some _=>exact r
theorem KV.val (r:KV kvs vs) (k:κ):RelO (zbu kvs k) (valueAt vs k):=by
 unfold KV at r
 induction r with
 | nil=>exact True.intro
 | @cons p q ps qs h t ih =>
  obtain ⟨h1,h2⟩:=h
  by_cases e:p.1=k
  ·have e':q.1=k:=h1.symm.trans e
   have b:valueAt (q :: qs) k=some q.2:=by simp [valueAt,List.find?_cons,e']
   rw [zg8 e,b];exact h2
  ·have e':¬q.1=k:=λz=>e (h1.trans z)
   have b:valueAt (q :: qs) k=valueAt qs k:=by simp [valueAt,List.find?_cons,e']
   rw [zg9 e,b];exact ih
theorem KV.any (r:KV kvs vs) (k:κ):(kvs.any λkv=>decide (kv.1=k))=vs.any λkv=>decide (kv.1=k):=by
 unfold KV at r
 induction r with
 | nil=>rfl
 | cons h t ih=>rw [List.any_cons,List.any_cons,ih,h.1]
theorem KV.repl (r:KV kvs vs) (k:κ) (ry:RelV y u) :
  KV (kvs.map λkv=>if kv.1=k then (kv.1,y) else kv) (vs.map λkv=>if kv.1=k then (kv.1,u) else kv):=by
 unfold KV at r ⊢
 induction r with
 | nil=>exact .nil
 | @cons p q ps qs h t ih =>
  rw [List.map_cons,List.map_cons]
  refine .cons ?_ ih
  obtain ⟨h1,h2⟩:=h
  by_cases e:p.1=k
  ·rw [if_pos e,if_pos (h1.symm.trans e)];exact ⟨h1,ry⟩
  ·rw [if_neg e,if_neg (λz=>e (h1.trans z))];exact ⟨h1,h2⟩
theorem KV.put (r:KV kvs vs) (k:κ) (ry:RelV y u):KV (zbs kvs k y) (stored vs k u):=by
 unfold zbs stored
 rw [r.any k]
 by_cases e:(vs.any λkv=>decide (kv.1=k))=true
 ·rw [if_pos e,if_pos e];exact r.repl k ry
 ·rw [if_neg e,if_neg e];exact Paired.snoc r ⟨rfl,ry⟩
theorem KV.keys {kvs:List (κ × V)}{vs:List (κ × Value)}(r:KV kvs vs):kvs.map (·.1)=vs.map (·.1):=by
 unfold KV at r
 induction r with
 | nil=>rfl
 | cons h t ih=>rw [List.map_cons,List.map_cons,ih,h.1]
theorem KV.length (r:KV kvs vs):kvs.length=vs.length:=Paired.length r
end
theorem zha (r:RelV (kV k) u):(zbr P w).is k u=true:=by
 cases k with
 | inl i=>obtain ⟨t,e⟩:=(show ∃t,u=Value.int i t from r);subst e;exact zum P w i t
 | inr x=>obtain ⟨t,e⟩:=(show ∃t,u=Value.str x t from r);subst e;exact zun P w x t
theorem zob:∀{ks:List Key}{us:List Value},Vals (ks.map kV) us->ItemsAre (zbr P w) ks us
 | [],_,r=>by rw [List.map_nil] at r;cases r;exact .nil
 | k :: ks,_,r=>by
  rw [List.map_cons] at r
  cases r with
  | cons h t=>exact .cons (zha h) (zob t)
abbrev KT (H:Hp):List (List Key × V)->List (List Key × Addr × Value)->Prop:=Paired λp q=>p.1=q.1/\H q.2.1=some (.tup (p.1.map kV))/\RelV p.2 q.2.2
theorem KT.val (r:KT H kvs xs) (k:List Key):RelO (zbu kvs k) ((atKey xs k).map (·.2)):=by
 induction r with
 | nil=>exact True.intro
 | @cons p q ps qs h t ih =>
  obtain ⟨h1,_,h2⟩:=h
  by_cases e:p.1=k
  ·have e':q.1=k:=h1.symm.trans e
   have b:atKey (q :: qs) k=some q.2:=by simp [atKey,List.find?_cons,e']
   rw [zg8 e,b];exact h2
  ·have e':¬q.1=k:=λz=>e (h1.trans z)
   have b:atKey (q :: qs) k=atKey qs k:=by simp [atKey,List.find?_cons,e']
   rw [zg9 e,b];exact ih
theorem KT.repl (r:KT H kvs xs) (k:List Key) (ry:RelV y u) :
  KT H (kvs.map λkv=>if kv.1=k then (kv.1,y) else kv) (xs.map (putAt k u)):=by
 induction r with
 | nil=>exact .nil
 | @cons p q ps qs h t ih =>
  rw [List.map_cons,List.map_cons]
  refine .cons ?_ ih
  obtain ⟨h1,h2,h3⟩:=h
  unfold putAt
  by_cases e:p.1=k
  ·rw [if_pos e,if_pos (h1.symm.trans e)];exact ⟨h1,h2,ry⟩
  ·rw [if_neg e,if_neg (λz=>e (h1.trans z))];exact ⟨h1,h2,h3⟩
theorem KT.put (r:KT H kvs xs) (k:List Key) (hb:H b=some (.tup (k.map kV))) (ry:RelV y u) :
  KT H (zbs kvs k y) (storedH xs k b u):=by
 have e:(kvs.any λkv=>decide (kv.1=k))=(atKey xs k).isSome:=by
  rw [zoa,(r.val k).isSome_eq,Option.isSome_map]
 unfold zbs storedH
 rw [e]
 by_cases q:(atKey xs k).isSome=true
 ·rw [if_pos q,if_pos q];exact r.repl k ry
 ·rw [if_neg q,if_neg q];exact Paired.snoc r ⟨rfl,hb,ry⟩
theorem KT.keeps (r:KT H kvs xs) (ht:∀b ys,H b=some (.tup ys)->H' b=some (.tup ys)):KT H' kvs xs :=
 Paired.mapP r λ_ _ z=>⟨z.1,ht _ _ z.2.1,z.2.2⟩
section
theorem zoc (ok:HOk P w H h) (e:Rd H a u):ObjOk P w H h a u:=e.ok ok
theorem zhb (ok:HOk P w H h) (e:Rd H a (.dK kvs)):kvs.length<=sizeLine/\(a == sysModules)=false/\∃vs,KV kvs vs/\h.DictOf (zbr P w) a vs :=
 show ObjOk P w H h a (.dK kvs) from zoc ok e
theorem ziz (ok:HOk P w H h) (e:H a=some (.dK kvs)):kvs.length<=sizeLine/\(a == sysModules)=false/\∃vs,KV kvs vs/\h.DictOf (zbr P w) a vs:=zhb ok (.inl e)
theorem zfe (ok:HOk P w H h) (e:H a=some (.tup (ks.map kV))):(tupleKind (zbr P w)).is h ks a:=by
 obtain ⟨_,its,r,o,h1,h2,n,h3,_⟩:=(show ObjOk P w H h a (.tup (ks.map kV)) from ok a _ e)
 exact ⟨o,its.toArray,n,h1,h2,h3,by simpa using zob r⟩
theorem zhc (ok:HOk P w H h) (e:Rd H a (.dT kvs)):kvs.length<=sizeLine/\(a == sysModules)=false /\
  ∃xs,KT H kvs xs/\h.DictOfH (tupleKind (zbr P w)) a xs:=by
 obtain ⟨z,y,xs,r,o,es,ep,h1,h2,h3,h4,h5⟩:=(show ObjOk P w H h a (.dT kvs) from zoc ok e)
 refine ⟨z,y,xs,r,o,es,ep,h1,h2,h3,h4,λx hx=>?_,h5⟩
 have all:∀{l:List (List Key × V)} {m:List (List Key × Addr × Value)},KT H l m->∀x∈m,(tupleKind (zbr P w)).is h x.1 x.2.1:=by
  intro l m q
  induction q with
  | nil=>intro x hx;exact nomatch hx
  | @cons p q ps qs hq t ih =>
   intro x hx
   rcases List.mem_cons.mp hx with e|hx
   ·subst e
    exact zfe ok (by rw [<-hq.1];exact hq.2.1)
   ·exact ih x hx
 exact all r x hx
theorem zkt (ok:HOk P w H h) (e:H a=some (.dT kvs)):kvs.length<=sizeLine/\(a == sysModules)=false /\
  ∃xs,KT H kvs xs/\h.DictOfH (tupleKind (zbr P w)) a xs:=zhc ok (.inl e)
end
def DGet (H:Hp) (a:Addr) (y:V) (r:Option V):Prop :=
 (∃kvs k,Rd H a (.dK kvs)/\y=kV k/\r=zbu kvs k)\/∃kvs k b,Rd H a (.dT kvs)/\y=.ref b/\H b=some (.tup (k.map kV))/\r=zbu kvs k
def DPut (H:Hp) (a:Addr) (y v:V) (H':Hp):Prop :=
 (∃kvs k,H a=some (.dK kvs)/\y=kV k/\kvs.length<sizeLine/\H' = upd H a (.dK (zbs kvs k v))) \/
 ∃kvs k b,H a=some (.dT kvs)/\y=.ref b/\H b=some (.tup (k.map kV))/\kvs.length<sizeLine/\H' = upd H a (.dT (zbs kvs k v))
theorem DGet.k {kvs:List (Key × V)}{k:Key}(e:H a=some (.dK kvs)):DGet H a (kV k) (zbu kvs k):=.inl ⟨kvs,k,.inl e,rfl,rfl⟩
theorem DPut.k {kvs:List (Key × V)}{k:Key}(e:H a=some (.dK kvs)) (hl:kvs.length<sizeLine):DPut H a (kV k) v (upd H a (.dK (zbs kvs k v))):=.inl ⟨kvs,k,e,rfl,hl,rfl⟩
theorem DPut.t {kvs:List (List Key × V)}{k:List Key}(e:H a=some (.dT kvs)) (eb:H b=some (.tup (k.map kV))) (hl:kvs.length<sizeLine) :
  DPut H a (.ref b) v (upd H a (.dT (zbs kvs k v))):=.inr ⟨kvs,k,b,e,rfl,eb,hl,rfl⟩
section
theorem Inv.big (I:Inv X pins σ H s):sysModules<s.heap.objs.size:=by
 have h:mainGlobals<s.heap.objs.size:=(I.mod.glob.keeps I.bk).lt
 exact Nat.lt_trans (by decide) h
theorem zx5 (hu:A.units+1<cLine) (I:Inv X pins σ H s) (g:DGet H a y (some v)) (ry:RelV y u) (h:∀w' s',Inv X pins σ H s'->RelV v w'->Q w' s') :
  wpAny (model X.prog X.w) A (getItem (.ref a) u) Q E s:=by
 rcases g with ⟨kvs,k,e,ey,l⟩|⟨kvs,k,b,e,ey,eb,l⟩
 ·subst ey
  obtain ⟨z,hd,vs,rel,dd⟩:=zhb I.hok e
  obtain ⟨w',hw,rw'⟩:=RelO.some_of (v:=v) (o:=valueAt vs k) (by rw [l];exact rel.val k)
  exact wpAny_getItem_of (zha ry) dd.mapOf hw (h w' _ (I.tok _) rw')
 ·subst ey
  cases (show u=Value.ref b from ry)
  obtain ⟨z,hd,xs,rel,dd⟩:=zhc I.hok e
  obtain ⟨w',hw,rw'⟩:=RelO.some_of (v:=v) (o:=(atKey xs k).map (·.2)) (by rw [l];exact rel.val k)
  obtain ⟨p,hp,hp2⟩:=Option.map_eq_some_iff.mp hw
  refine wpAny_getItem_heap (tupleKind_room_in1 hu) (zfe I.hok eb) dd hp ?_
  rw [hp2]
  exact h w' _ (I.tok _) rw'
theorem zx6 (hu:A.units+1<cLine) (I:Inv X pins σ H s) (g:DGet H a y o) (ry:RelV y u) (h:∀s',Inv X pins σ H s'->Q (.bool (!o.isSome)) s') :
  wpAny (model X.prog X.w) A (compareOp .NotIn u (.ref a)) Q E s:=by
 rcases g with ⟨kvs,k,e,ey,l⟩|⟨kvs,k,b,e,ey,eb,l⟩
 ·subst ey
  obtain ⟨z,hd,vs,rel,dd⟩:=zhb I.hok e
  refine wpAny_notIn_of (zha ry) hd dd.mapOf ?_
  rw [<-(rel.val k).isSome_eq,<-l]
  exact h _ (I.tok _)
 ·subst ey
  cases (show u=Value.ref b from ry)
  obtain ⟨z,hd,xs,rel,dd⟩:=zhc I.hok e
  refine wpAny_notIn_heap (tupleKind_room_in1 hu) (zfe I.hok eb) hd dd ?_
  have q:=(rel.val k).isSome_eq
  rw [Option.isSome_map] at q
  rw [<-q,<-l]
  exact h _ (I.tok _)
theorem zi0 (I:Inv X pins σ H s) (mu:Mut (H a)) (hs:Heap.SameBut a s.heap h') (he:∃q,h'.get? a=some q) (new:ObjOk X.prog X.w (upd H a ob) h' a ob) :
  Inv X pins σ (upd H a ob) { s with heap:=h',toks:=t' } :=
 I.write (x:=a) (e:=a) mu (.inl rfl) (λb q hb z=>(hs.2 b hb).trans z) he new
theorem zx7 (z:kvs.length<=sizeLine) (hd:(a == sysModules)=false) (rel:KV kvs vs) (dd:h'.DictOf (zbr P w) a vs) :
  ObjOk P w H' h' a (.dK kvs):=⟨z,hd,vs,rel,dd⟩
theorem zod (hu:A.units+1<cLine) (I:Inv X pins σ H s) (g:DPut H a y v H') (ry:RelV y u) (rv:RelV v r) (h:∀s',Inv X pins σ H' s'->Q () s') :
  wpAny (model X.prog X.w) A (setItem (.ref a) u r) Q E s:=by
 rcases g with ⟨kvs,k,e,ey,l,eH⟩|⟨kvs,k,b,e,ey,eb,l,eH⟩
 ·subst ey eH
  obtain ⟨z,hd,vs,rel,dd⟩:=ziz I.hok e
  have hz:vs.length<=sizeLine:=by rw [<-rel.length];exact z
  have hl:(zbs kvs k v).length<=sizeLine:=by have:=ziy kvs k v;omega
  refine wpAny_setItem_pairs (hsz:=hz) (zha ry) dd λh' dd' hs=>h _ ?_
  have he:∃q,h'.get? a=some q:=let ⟨q,_,_,hq,_⟩:=dd';⟨q,hq⟩
  exact zi0 I (by rw [e];exact True.intro) hs he (zx7 hl hd (rel.put k rv) dd')
 ·subst ey eH
  cases (show u=Value.ref b from ry)
  obtain ⟨z,hd,xs,rel,dd⟩:=zkt I.hok e
  have hz:xs.length<=sizeLine:=by rw [<-Paired.length rel];exact z
  have hl:(zbs kvs k v).length<=sizeLine:=by have:=ziy kvs k v;omega
  refine wpAny_setItem_heap (hsz:=hz) (tupleKind_room_in1 hu) (zfe I.hok eb) dd λh' dd' hs=>h _ ?_
  obtain ⟨q,es,ep,hq,h2,h3,h4,_,h5⟩:=dd'
  refine zi0 I (by rw [e];exact True.intro) hs ⟨q,hq⟩ ⟨hl,hd,_,(rel.put k eb rv).keeps λc ys ec=>?_,q,es,ep,hq,h2,h3,h4,h5⟩
  rw [zaj (zcm ec e (λz=>nomatch z))]
  exact ec
end
section
end
def zx8 (td ty tv:TE):TS:=λD σ H=>tv σ H λv H1=>td σ H1 λx H2=>ty σ H2 λy H3=>∃a H4,x=.ref a/\DPut H3 a y v H4/\D.nx σ H4
def zx9 (td ty tv:TE) (rd:V->V->Hp->VK->Prop):TS:=λD σ H=>td σ H λx H1=>ty σ H1 λy H2=>∃a v,x=.ref a/\DGet H2 a y (some v) /\
 tv σ H2 λy2 H3=>rd v y2 H3 λz H4=>∃H5,DPut H4 a y z H5/\D.nx σ H5
section
theorem zya (hu:X.A.units+1<cLine) (ho:PE X o td) (hi:PE X i ty) (hv:PE X value tv) (hs:swapsWith value (some (.Subscript o i pos')) pos.line X.env=pure false) :
  PS X (.Assign [.Subscript o i pos'] value pos) (zx8 td ty tv):=by
 intro pins s σ H D I h
 refine wpAny_Assign_Subscript (thn (hv pins s σ H _ I h) λr s1 ⟨v,H1,I1,rv,q1⟩=>thn (ho pins s1 σ H1 _ I1 q1) λu s2 ⟨x,H2,I2,rx,q2⟩=>thn (hi pins s2 σ H2 _ I2 q2) λiv s3 ⟨y,H3,I3,ry,a,H4,ex,g,q3⟩=>?_) hs
 subst ex
 obtain rfl:u=Value.ref a:=rx
 exact zod hu I3 g ry rv λs4 I4=>⟨σ,H4,I4,q3⟩
theorem zyb (hu:X.A.units+1<cLine) (ho:PE X o td) (hi:PE X i ty) (hv:PE X value tv) (hop:zwu X op rd)
  (ha:∀ov iv new,augStore i ov iv new=(do holding [new,ov,iv] (setItem ov iv new);release [new,ov,iv] [];pure .next)):PS X (.AugAssign (.Subscript o i tpos) op value pos) (zx9 td ty tv rd):=by
 intro pins s σ H D I h
 refine wpAny_AugAssign_SubscriptAny (thn (ho pins s σ H _ I h) λu s1 ⟨x,H1,I1,rx,q1⟩=>thn (hi pins s1 σ H1 _ I1 q1) λiv s2 ⟨y,H2,I2,ry,a,v,ex,g,q2⟩=>?_) ha
 subst ex
 obtain rfl:u=Value.ref a:=rx
 refine zx5 hu I2 g ry λw' s3 I3 rw'=>thn (hv pins s3 σ H2 _ I3 q2) λw2 s4 ⟨y2,H3,I4,ry2,q3⟩=>thn (hop pins s4 σ H3 v y2 w' w2 _ I4 rw' ry2 q3) λw3 s5 ⟨z,H4,I5,rz,H5,g5,q4⟩=>?_
 exact zod hu I5 g5 ry rz λs6 I6=>⟨σ,H5,I6,q4⟩
end
theorem zoe (h:Heap) (hb:sysModules<h.objs.size):ObjOk P w H (h.push { cls:=.type "dict",data:=.dict #[] }) h.objs.size (.dT []) :=
 ⟨Nat.zero_le _,beq_eq_false_iff_ne.mpr (Ne.symm (Nat.ne_of_lt hb)),[],.nil,_,#[],0,Heap.get?_push_size _ rfl,⟨rfl,rfl,rfl⟩,rfl,rfl,List.nodup_nil⟩
def zyc:TE:=λ_ H Q=>∀p,H p=none->Q (.ref p) (upd H p (.dT []))
section
theorem zyd:PE X (.Dict [] [] pos) zyc:=λpins s σ H Q I h =>
 wpAny_Dict_empty ⟨.ref s.heap.objs.size,_,I.laid (a:=s.heap.objs.size) (o:=.dT []) (t':=s.toks) (λ_ _ q=>qps _ q) (qlr _) (zoe s.heap I.big),rfl,h _ (I.hok.fresh (qlr _))⟩
end
structure M2 (X:Cx) (o:Expr) (m:Str) (apos:Pos) (e f:Expr) (cpos:Pos):Prop where
 base:attributeBase o m X.env (eval o X.env)=eval o X.env
 few:((backTo cpos (starEach [e,f] X.env)).all (λx=>!x.1) && (backToKw cpos (keywordEach [] X.env)).all (λx=>x.1.isSome)
  && decide (([e,f]:List Expr).length+([]:List Keyword).length+(if ([]:List Keyword).isEmpty then 0 else 1)<30))=true
 line:(apos.endLine == cpos.line)=true
 trees:backTo cpos (starEach [e,f] X.env)=[(false,eval e X.env),(false,eval f X.env)]
def IsD (H:Hp) (a:Addr):Prop:=(∃kvs,Rd H a (.dK kvs))\/∃kvs,Rd H a (.dT kvs)
theorem zof (I:Inv X pins σ H s) (d:IsD H a) :
  s.TypeIs (.ref a) "dict"/\(∀b,Value.ref a=.ref b->∃ob,s.heap.get? b=some ob/\ob.dict=none)/\(a == sysModules)=false:=by
 rcases d with ⟨kvs,e⟩|⟨kvs,e⟩
 ·obtain ⟨_,hd,vs,_,dd⟩:=zhb I.hok e
  refine ⟨dd.typeIs,λb q=>?_,hd⟩
  cases q
  obtain ⟨ob,_,_,h1,h2,_⟩:=dd
  exact ⟨ob,h1,h2.2.1⟩
 ·obtain ⟨_,hd,xs,_,dd⟩:=zhc I.hok e
  refine ⟨dd.typeIs,λb q=>?_,hd⟩
  cases q
  obtain ⟨ob,_,_,h1,h2,_⟩:=dd
  exact ⟨ob,h1,h2.2.1⟩
section
theorem zye (hu:A.units+1<cLine) (I:Inv X pins σ H s) (g:DGet H a y o) (ry:RelV y u) (rd:RelV d r) (h:∀w' s',Inv X pins σ H s'->RelV (o.getD d) w'->Q w' s') :
  wpAny (model X.prog X.w) A (call (.builtin "dict.get") [.ref a,u,r]) Q E s:=by
 rcases g with ⟨kvs,k,e,ey,l⟩|⟨kvs,k,b,e,ey,eb,l⟩
 ·subst ey
  obtain ⟨z,hd,vs,rel,dd⟩:=zhb I.hok e
  refine call_meetsIn PySem.F.slot_dict_get dd.typeIs PySem.F.entry_dict_get (PySem.F.args_dict_get_3 _ _ _) (meets_dict_get_default (zbr X.prog X.w) a (zha ry) hd r) ⟨_,dd.mapOf,h _ _ (I.tok _) ?_⟩
  rw [l]
  exact (rel.val k).getD rd
 ·subst ey
  cases (show u=Value.ref b from ry)
  obtain ⟨z,hd,xs,rel,dd⟩:=zhc I.hok e
  refine call_meetsIn PySem.F.slot_dict_get dd.typeIs PySem.F.entry_dict_get (PySem.F.args_dict_get_3 _ _ _) (meetsH_dict_get_default (tupleKind (zbr X.prog X.w)) a b hd r) ⟨tupleKind_room_in1 hu,k,xs,zfe I.hok eb,dd,h _ _ (I.tok _) ?_⟩
  rw [l]
  exact (rel.val k).getD rd
end
def zyf (td ty tx:TE):TE:=λσ H Q=>td σ H λx H1=>∃a,x=.ref a/\IsD H1 a/\ty σ H1 λy H2=>tx σ H2 λz H3=>∃o,DGet H3 a y o/\Q (o.getD z) H3
section
theorem zyg (hu:X.A.units+1<cLine) (ho:PE X o td) (he:PE X e ty) (hf:PE X f tx) (m:M2 X o "get" apos e f cpos):PE X (.Call (.Attribute o "get" apos) [e,f] [] cpos) (zyf td ty tx):=by
 intro pins s σ H Q I h
 refine wpAny_Call_method m.base m.few m.line PySem.F.plainAttrs_dict PySem.F.slot_dict_get PySem.F.type_dict_get (thn (ho pins s σ H _ I h) λu s1 ⟨x,H1,I1,rx,a,ex,d,q1⟩=>?_)
 subst ex
 obtain rfl:u=Value.ref a:=rx
 obtain ⟨t1,t2,_⟩:=zof I1 d
 refine ⟨t1,t2,?_⟩
 rw [m.trees]
 refine Calls.callWith_builtin rfl (Calls.evalArgs_plain (Calls.spliced_cons (thn (he pins s1 σ H1 _ I1 q1) λiv s2 ⟨y,H2,I2,ry,q2⟩ =>
  Calls.spliced_cons (thn (hf pins s2 σ H2 _ I2 q2) λfv s3 ⟨z,H3,I3,rz,ov,g,q3⟩=>Calls.spliced_nil ?_))))
 exact zye hu I3 g ry rz λw' s4 I4 rw'=>⟨_,H3,I4,rw',q3⟩
end
section
end
section
end
section
end
section
variable {κ:Type} [DecidableEq κ]
end
end L2
namespace L3
abbrev St:=L2.St
open PySem PySem.Spec PyProof.Rows L2
inductive D where
 | non|bl (b:Bool)|int (i:Int)|str (x:Str)|tup (xs:List D)|ref (n:Nat)|fn (a:Addr)
structure LamG where
 qual:Str
 params:Arguments
 body:Expr
 scope:Scope
inductive Ob where
 | lst (xs:List D)|flst (xs:List D)|iset (f:Int->Bool) (n:Nat)|dct (kvs:List (Key × D))|fdct (kvs:List (Key × D))|tdct (kvs:List (List Key × D))|ftdct (kvs:List (List Key × D))|tset (ks:List (List Int))|fnc (x:Str)|exc (c:Str)|tab (x:Str)|lam (g:LamG) (caps:List (Str × D))|dead
noncomputable def Ob.mut:Ob->Bool
 | .flst _=>false
 | .fnc _=>false
 | .lam _ _=>false
 | .dead=>false
 | _=>true
abbrev Sto:=List Ob
abbrev Lo:=List (Option D)
mutual
inductive RD (ρ:List Addr) (H:Hp):D->V->Prop where
 | non:RD ρ H .non .non
 | bl (b:Bool):RD ρ H (.bl b) (.bl b)
 | int (i:Int):RD ρ H (.int i) (.int i)
 | str (x:Str):RD ρ H (.str x) (.str x)
 | tup {xs:List D} {a:Addr} {vs:List V}:H a=some (.tup vs)->RDs ρ H xs vs->RD ρ H (.tup xs) (.ref a)
 | ref {n:Nat} {a:Addr}:ρ[n]? = some a->RD ρ H (.ref n) (.ref a)
 | fn (a:Addr):RD ρ H (.fn a) (.ref a)
inductive RDs (ρ:List Addr) (H:Hp):List D->List V->Prop where
 | nil:RDs ρ H [] []
 | cons {x:D} {v:V} {xs:List D} {vs:List V}:RD ρ H x v->RDs ρ H xs vs->RDs ρ H (x :: xs) (v :: vs)
end
structure Ext0 (ρ:List Addr) (H:Hp) (ρ':List Addr) (H':Hp):Prop where
 pre:∀(n:Nat) (a:Addr),ρ[n]? = some a->ρ'[n]? = some a
 tup:∀a vs,H a=some (.tup vs)->H' a=some (.tup vs)
 frz:∀a o u,H a=some (.frz o u)->H' a=some (.frz o u)
structure Ext (ρ:List Addr) (H:Hp) (ρ':List Addr) (H':Hp):Prop extends Ext0 ρ H ρ' H' where
 out:∀a (vs:HO),H a=some vs->(∀n:Nat,ρ[n]?≠some a)->H' a=some vs/\∀n:Nat,ρ'[n]?≠some a
theorem Ext.refl (ρ:List Addr) (H:Hp):Ext ρ H ρ H:=⟨⟨λ_ _ h=>h,λ_ _ h=>h,λ_ _ _ h=>h⟩,λ_ _ h n=>⟨h,n⟩⟩
theorem Ext.trans (a:Ext ρ H ρ1 H1) (b:Ext ρ1 H1 ρ2 H2):Ext ρ H ρ2 H2 :=
 ⟨⟨λn x h=>b.pre n x (a.pre n x h),λn x h=>b.tup n x (a.tup n x h),λn o x h=>b.frz n o x (a.frz n o x h)⟩,λx vs h n=>let ⟨h1,n1⟩:=a.out x vs h n;b.out x vs h1 n1⟩
section
mutual
theorem RD.mono0 (e:Ext0 ρ H ρ' H'):∀{d:D}{v:V},RD ρ H d v->RD ρ' H' d v
 | _,_,.non=>.non
 | _,_,.bl b=>.bl b
 | _,_,.int i=>.int i
 | _,_,.str x=>.str x
 | _,_,.tup h r=>.tup (e.tup _ _ h) (RDs.mono0 e r)
 | _,_,.ref h=>.ref (e.pre _ _ h)
 | _,_,.fn a=>.fn a
theorem RDs.mono0 (e:Ext0 ρ H ρ' H'):∀{d:List D}{v:List V},RDs ρ H d v->RDs ρ' H' d v
 | _,_,.nil=>.nil
 | _,_,.cons r q=>.cons (RD.mono0 e r) (RDs.mono0 e q)
end
theorem RD.mono (r:RD ρ H d v) (e:Ext ρ H ρ' H'):RD ρ' H' d v:=r.mono0 e.toExt0
theorem RDs.mono (r:RDs ρ H d v) (e:Ext ρ H ρ' H'):RDs ρ' H' d v:=r.mono0 e.toExt0
theorem RDs.length:∀{d:List D}{v:List V},RDs ρ H d v->d.length=v.length
 | _,_,.nil=>rfl
 | _,_,.cons _ q=>congrArg (· + 1) (RDs.length q)
theorem RDs.get:∀{d:List D}{v:List V}{i:Nat}{x:D},RDs ρ H d v->d[i]? = some x->∃u,v[i]? = some u/\RD ρ H x u
 | _,_,_,_,.nil,e=>by simp at e
 | _,_,0,_,.cons r _,e=>by simp at e;subst e;exact ⟨_,rfl,r⟩
 | _,_,i+1,x,.cons _ q,e=>by
  obtain ⟨u,h1,h2⟩:=RDs.get (i:=i) (x:=x) q (by simpa using e)
  exact ⟨u,by simpa using h1,h2⟩
theorem RDs.set (r:RD ρ H x u):∀{d:List D}{v:List V}(i:Nat),RDs ρ H d v->RDs ρ H (d.set i x) (v.set i u)
 | _,_,_,.nil=>.nil
 | _,_,0,.cons _ q=>.cons r q
 | _,_,i+1,.cons p q=>.cons p (RDs.set r i q)
theorem RDs.append:∀{d e:List D}{v w:List V},RDs ρ H d v->RDs ρ H e w->RDs ρ H (d++e) (v++w)
 | _,_,_,_,.nil,q=>q
 | _,_,_,_,.cons r p,q=>.cons r (RDs.append p q)
theorem RDs.take:∀{d:List D}{v:List V}(n:Nat),RDs ρ H d v->RDs ρ H (d.take n) (v.take n)
 | _,_,0,_=>.nil
 | _,_,_+1,.nil=>.nil
 | _,_,n+1,.cons r t=>.cons r (RDs.take n t)
theorem RDs.drop:∀{d:List D}{v:List V}(n:Nat),RDs ρ H d v->RDs ρ H (d.drop n) (v.drop n)
 | _,_,0,r=>r
 | _,_,_+1,.nil=>.nil
 | _,_,n+1,.cons _ t=>RDs.drop n t
theorem RDs.reverse:∀{d:List D}{v:List V},RDs ρ H d v->RDs ρ H d.reverse v.reverse
 | _,_,.nil=>.nil
 | _,_,.cons r t=>by rw [List.reverse_cons,List.reverse_cons];exact RDs.append (RDs.reverse t) (.cons r .nil)
theorem RDs.rep (h:RDs ρ H xs us):∀k:Nat,RDs ρ H (List.replicate k xs).flatten (List.replicate k us).flatten
 | 0=>.nil
 | k+1=>by
  rw [List.replicate_succ,List.replicate_succ,List.flatten_cons,List.flatten_cons]
  exact RDs.append h (RDs.rep h k)
theorem RDs.one (h:RDs ρ H [x] vs):∃v,vs=[v]/\RD ρ H x v:=by
 cases h with
 | cons r q=>cases q;exact ⟨_,rfl,r⟩
theorem RDs.two (h:RDs ρ H [x,y] vs):∃v u,vs=[v,u]/\RD ρ H x v/\RD ρ H y u:=by
 cases h with
 | cons r q=>obtain ⟨u,rfl,r2⟩:=q.one;exact ⟨_,_,rfl,r,r2⟩
end
def Fz (K:QFg) (H:Hp) (a:Addr) (xs:List V):Prop:=(∃o,H a=some (.frz o (.lst xs))) \/
  ∃(o:Obj) (its:Array Value) (n:Nat),K.lookup a=some o/\o.cls=.type "list"/\o.dict=none/\o.data=.seq its n/\its.size<=sizeLine/\Vals xs its.toList
theorem Fz.sq {K:QFg}{H:Hp}{a:Addr}{xs:List V}(h:Fz K H a xs):SqL K H a xs:=by
 rcases h with ⟨o,h⟩|h
 ·exact .inl (.inr ⟨o,h⟩)
 ·exact .inr h
noncomputable def zyh (x:Str):Str:=x++".<locals>."++"<lambda>"
noncomputable abbrev hTr:HO:=.ext λ_=>True
def CodeF (H:Hp) (q:Str) (c:Addr):Prop:=∃oc vs t,H c=some (.frz oc hTr)/\oc.data=.fields vs/\vs[1]? = some (.str q t)
def TabOk (H:Hp) (q:Str) (ps:Array Value):Prop:=TriplesOk ps.toList/\∀pos cv,codeAmong pos ps.toList=some cv->∃c,cv=.ref c/\CodeF H q c
inductive CellsR (ρ:List Addr) (H:Hp):List (Str × Addr)->List (Str × D)->Prop where
 | nil:CellsR ρ H [] []
 | cons {x:Str} {c:Addr} {o:Obj} {u:Value} {v:V} {d:D} {cs:List (Str × Addr)} {ds:List (Str × D)}:H c=some (.frz o hTr)->o.data=.cell (some u)->RelV v u->RD ρ H d v->CellsR ρ H cs ds->CellsR ρ H ((x,c) :: cs) ((x,d) :: ds)
theorem CodeF.mono (h:CodeF H q c) (e:∀a o u,H a=some (.frz o u)->H' a=some (.frz o u)):CodeF H' q c :=
 let ⟨oc,vs,t,h1,h2⟩:=h;⟨oc,vs,t,e _ _ _ h1,h2⟩
theorem TabOk.mono {ps:Array Value}(h:TabOk H q ps) (e:∀a o u,H a=some (.frz o u)->H' a=some (.frz o u)):TabOk H' q ps :=
 ⟨h.1,λpos cv z=>let ⟨c,e1,k⟩:=h.2 pos cv z;⟨c,e1,k.mono e⟩⟩
theorem CellsR.mono (e:Ext0 ρ H ρ' H') {cs:List (Str × Addr)}{ds:List (Str × D)}(h:CellsR ρ H cs ds):CellsR ρ' H' cs ds:=by
 induction h with
 | nil=>exact .nil
 | cons h1 h2 h3 h4 _ ih=>exact .cons (e.frz _ _ _ h1) h2 h3 (h4.mono0 e) ih
def ObR (K:QFg) (ρ:List Addr) (H:Hp):Ob->Addr->Prop
 | .lst xs,a=>∃vs,H a=some (.lst vs)/\RDs ρ H xs vs
 | .flst xs,a=>∃vs,Fz K H a vs/\RDs ρ H xs vs
 | .iset f n,a=>H a=some (.set f n)
 | .dct kvs,a=>∃vs,H a=some (.dK ((kvs.map (·.1)).zip vs))/\RDs ρ H (kvs.map (·.2)) vs
 | .fdct kvs,a=>∃o vs,H a=some (.frz o (.dK ((kvs.map (·.1)).zip vs)))/\RDs ρ H (kvs.map (·.2)) vs
 | .tdct kvs,a=>∃vs,H a=some (.dT ((kvs.map (·.1)).zip vs))/\RDs ρ H (kvs.map (·.2)) vs
 | .ftdct kvs,a=>∃o vs,H a=some (.frz o (.dT ((kvs.map (·.1)).zip vs)))/\RDs ρ H (kvs.map (·.2)) vs
 | .tset ks,a=>∃xs:List (List Int × Addr),ks=xs.map (·.1)/\H a=some (.ext (TS.TSet a xs))/\∀p∈xs,H p.2=some (.tup (p.1.map V.int))
 | .fnc x,a=>PySem.W.nsIn K mainGlobals x=some (some (.ref a))/\∃o,K.lookup a=some o
 | .exc c,a=>∃C,PySem.W.nsIn K mainGlobals c=some (some (.ref C))/\H a=some (.ext (λh=>∃o,h.get? a=some o/\o.cls=.ref C))
 | .tab x,a=>∃c ps,PySem.W.tabIn K x=some (c,a)/\PySem.W.codeHdIn K c a=true/\H a=some (.tbl ps)/\TabOk H (zyh x) ps
 | .lam g caps,a=>∃cs pm c ctv,H a=some (.frz (PySem.W.kla_obj "<lambda>" g.qual g.params g.body g.scope cs pm c ctv) hTr)/\CodeF H g.qual c/\CellsR ρ H cs caps
 | .dead,a=>∃o fd,H a=some (.frz o hTr)/\o.data=.func fd
structure Sim (K:QFg) (ρ:List Addr) (S:Sto) (H:Hp):Prop where
 len:ρ.length=S.length
 nd:∀(i j:Nat) (a:Addr) (o1 o2:Ob),ρ[i]? = some a->ρ[j]? = some a->S[i]? = some o1->S[j]? = some o2->o1.mut=true->o2.mut=true->i=j
 at':∀(n:Nat) (a:Addr) (o:Ob),ρ[n]? = some a->S[n]? = some o->ObR K ρ H o a
section
variable {K:QFg}{ρ ρ':List Addr}{H:Hp}{S:Sto}
theorem zbx {o:HO}(hp:H p=none):Ext ρ H ρ (upd H p o) :=
 ⟨⟨λ_ _ h=>h,λa vs h=>by rw [zaj (zbh h hp)];exact h,λa o vs h=>by rw [zaj (zbh h hp)];exact h⟩,λa vs h n=>⟨by rw [zaj (zbh h hp)];exact h,n⟩⟩
theorem zd1 {o:HO}(hp:H p=some (.lst ys)):Ext0 ρ H ρ (upd H p o) :=
 ⟨λ_ _ h=>h,λa vs h=>by rw [zaj (zcm h hp (by intro z;cases z))];exact h,λa o vs h=>by rw [zaj (zcm h hp (by intro z;cases z))];exact h⟩
def zef (u:HO):Prop:=(∀vs,u≠.tup vs)/\∀o v,u≠.frz o v
theorem zog (ys:List V):zef (.lst ys):=⟨λ_ z=>(by cases z),λ_ _ z=>(by cases z)⟩
theorem zcs {o u:HO}(hp:H p=some u) (hu:zef u):Ext0 ρ H ρ (upd H p o) :=
 ⟨λ_ _ h=>h,λa vs h=>by rw [zaj (zcm h hp (λz=>hu.1 vs z.symm))];exact h,λa o vs h=>by rw [zaj (zcm h hp (λz=>hu.2 o vs z.symm))];exact h⟩
theorem zhd {o u:HO}{n:Nat}(hn:ρ[n]? = some p) (hp:H p=some u) (hu:zef u):Ext ρ H ρ (upd H p o) :=
 ⟨zcs hp hu,λa vs h hm=>⟨by rw [zaj (λz=>hm n (by rw [z];exact hn))];exact h,hm⟩⟩
theorem zhe {o:HO}{n:Nat}(hn:ρ[n]? = some p) (hp:H p=some (.lst ys)):Ext ρ H ρ (upd H p o) :=
 ⟨zd1 hp,λa vs h hm=>⟨by rw [zaj (λz=>hm n (by rw [z];exact hn))];exact h,hm⟩⟩
theorem ObR.laid {o:Ob}{u:HO}(h:ObR K ρ H o a) (hp:H p=none):ObR K ρ (upd H p u) o a:=by
 cases o with
 | lst xs =>
  obtain ⟨vs,e,r⟩:=h
  exact ⟨vs,by rw [zaj (zbh e hp)];exact e,r.mono (zbx hp)⟩
 | flst xs =>
  obtain ⟨vs,e,r⟩:=h
  refine ⟨vs,?_,r.mono (zbx hp)⟩
  rcases e with ⟨o,e⟩|e
  ·exact .inl ⟨o,by rw [zaj (zbh e hp)];exact e⟩
  ·exact .inr e
 | iset f n =>
  show upd H p u a=some (.set f n)
  have e:H a=some (.set f n):=h
  rw [zaj (zbh e hp)];exact e
 | dct kvs =>
  obtain ⟨vs,e,r⟩:=h
  exact ⟨vs,by rw [zaj (zbh e hp)];exact e,r.mono (zbx hp)⟩
 | fdct kvs =>
  obtain ⟨o,vs,e,r⟩:=h
  exact ⟨o,vs,by rw [zaj (zbh e hp)];exact e,r.mono (zbx hp)⟩
 | tdct kvs =>
  obtain ⟨vs,e,r⟩:=h
  exact ⟨vs,by rw [zaj (zbh e hp)];exact e,r.mono (zbx hp)⟩
 | ftdct kvs =>
  obtain ⟨o,vs,e,r⟩:=h
  exact ⟨o,vs,by rw [zaj (zbh e hp)];exact e,r.mono (zbx hp)⟩
 | tset ks =>
  obtain ⟨xs,e0,e,r⟩:=h
  exact ⟨xs,e0,by rw [zaj (zbh e hp)];exact e,λp hq=>by rw [zaj (zbh (r p hq) hp)];exact r p hq⟩
 | fnc x=>exact h
 | exc c =>
  obtain ⟨C,hc,e⟩:=h
  exact ⟨C,hc,by rw [zaj (zbh e hp)];exact e⟩
 | tab x =>
  obtain ⟨c,ps,h1,h2,e,t⟩:=h
  exact ⟨c,ps,h1,h2,by rw [zaj (zbh e hp)];exact e,t.mono (zbx (ρ:=ρ) hp).frz⟩
 | lam g caps =>
  obtain ⟨cs,pm,c,ctv,e,k,r⟩:=h
  exact ⟨cs,pm,c,ctv,(zbx (ρ:=ρ) hp).frz _ _ _ e,k.mono (zbx (ρ:=ρ) hp).frz,r.mono (zbx hp).toExt0⟩
 | dead =>
  obtain ⟨o,fd,e,d⟩:=h
  exact ⟨o,fd,(zbx (ρ:=ρ) hp).frz _ _ _ e,d⟩
theorem ObR.writtenG {o:Ob}{u u0:HO}(h:ObR K ρ H o a) (hp:H p=some u0) (hu:zef u0) (hn:o.mut=true->a≠p):ObR K ρ (upd H p u) o a:=by
 cases o with
 | lst xs =>
  obtain ⟨vs,e,r⟩:=h
  exact ⟨vs,by rw [zaj (hn rfl)];exact e,r.mono0 (zcs hp hu)⟩
 | flst xs =>
  obtain ⟨vs,e,r⟩:=h
  refine ⟨vs,?_,r.mono0 (zcs hp hu)⟩
  rcases e with ⟨o,e⟩|e
  ·exact .inl ⟨o,by rw [zaj (zcm e hp (λz=>hu.2 _ _ z.symm))];exact e⟩
  ·exact .inr e
 | iset f n =>
  show upd H p u a=some (.set f n)
  rw [zaj (hn rfl)];exact h
 | dct kvs =>
  obtain ⟨vs,e,r⟩:=h
  exact ⟨vs,by rw [zaj (hn rfl)];exact e,r.mono0 (zcs hp hu)⟩
 | tdct kvs =>
  obtain ⟨vs,e,r⟩:=h
  exact ⟨vs,by rw [zaj (hn rfl)];exact e,r.mono0 (zcs hp hu)⟩
 | fdct kvs =>
  obtain ⟨o,vs,e,r⟩:=h
  exact ⟨o,vs,by rw [zaj (hn rfl)];exact e,r.mono0 (zcs hp hu)⟩
 | ftdct kvs =>
  obtain ⟨o,vs,e,r⟩:=h
  exact ⟨o,vs,by rw [zaj (hn rfl)];exact e,r.mono0 (zcs hp hu)⟩
 | tset ks =>
  obtain ⟨xs,e0,e,r⟩:=h
  exact ⟨xs,e0,by rw [zaj (hn rfl)];exact e,λp hq=>(zcs (ρ:=ρ) hp hu).tup _ _ (r p hq)⟩
 | fnc x=>exact h
 | exc c =>
  obtain ⟨C,hc,e⟩:=h
  exact ⟨C,hc,by rw [zaj (hn rfl)];exact e⟩
 | tab x =>
  obtain ⟨c,ps,h1,h2,e,t⟩:=h
  exact ⟨c,ps,h1,h2,by rw [zaj (hn rfl)];exact e,t.mono (zcs (ρ:=ρ) hp hu).frz⟩
 | lam g caps =>
  obtain ⟨cs,pm,c,ctv,e,k,r⟩:=h
  exact ⟨cs,pm,c,ctv,(zcs (ρ:=ρ) hp hu).frz _ _ _ e,k.mono (zcs (ρ:=ρ) hp hu).frz,r.mono (zcs hp hu)⟩
 | dead =>
  obtain ⟨o,fd,e,d⟩:=h
  exact ⟨o,fd,(zcs (ρ:=ρ) hp hu).frz _ _ _ e,d⟩
theorem ObR.written {o:Ob}{u:HO}(h:ObR K ρ H o a) (hp:H p=some (.lst ys)) (hn:o.mut=true->a≠p):ObR K ρ (upd H p u) o a:=h.writtenG hp (zog ys) hn
theorem ObR.more {o:Ob}(h:ObR K ρ H o a) (e:Ext0 ρ H ρ' H):ObR K ρ' H o a:=by
 cases o with
 | lst xs=>obtain ⟨vs,e1,r⟩:=h;exact ⟨vs,e1,r.mono0 e⟩
 | flst xs=>obtain ⟨vs,e1,r⟩:=h;exact ⟨vs,e1,r.mono0 e⟩
 | iset f n=>exact h
 | dct kvs=>obtain ⟨vs,e1,r⟩:=h;exact ⟨vs,e1,r.mono0 e⟩
 | tdct kvs=>obtain ⟨vs,e1,r⟩:=h;exact ⟨vs,e1,r.mono0 e⟩
 | fdct kvs=>obtain ⟨o,vs,e1,r⟩:=h;exact ⟨o,vs,e1,r.mono0 e⟩
 | ftdct kvs=>obtain ⟨o,vs,e1,r⟩:=h;exact ⟨o,vs,e1,r.mono0 e⟩
 | tset ks=>exact h
 | fnc x=>exact h
 | exc c=>exact h
 | tab x=>exact h
 | lam g caps=>obtain ⟨cs,pm,c,ctv,e1,k,r⟩:=h;exact ⟨cs,pm,c,ctv,e1,k,r.mono e⟩
 | dead=>exact h
theorem Sim.laid (s:Sim K ρ S H) {u:HO}(hp:H p=none):Sim K ρ S (upd H p u) :=
 ⟨s.len,s.nd,λn a o h1 h2=>(s.at' n a o h1 h2).laid hp⟩
theorem Sim.lst {n:Nat}(s:Sim K ρ S H) (h:S[n]? = some (.lst xs)):∃a vs,ρ[n]? = some a/\H a=some (.lst vs)/\RDs ρ H xs vs:=by
 have hl:n<ρ.length:=by rw [s.len];exact (qme h).1
 obtain ⟨vs,e,r⟩:=s.at' n _ _ (qge hl) h
 exact ⟨_,vs,qge hl,e,r⟩
noncomputable def lstOf (S:Sto) (n:Nat):Option (List D):=match S[n]? with
 | some (.lst xs)=>some xs
 | some (.flst xs)=>some xs
 | _=>none
theorem Sim.lstOf {n:Nat}(s:Sim K ρ S H) (h:L3.lstOf S n=some xs):∃a vs,ρ[n]? = some a/\SqL K H a vs/\RDs ρ H xs vs:=by
 unfold L3.lstOf at h
 cases e:S[n]? with
 | none=>rw [e] at h;cases h
 | some o =>
  have hl:n<ρ.length:=by rw [s.len];exact (qme e).1
  have q:=s.at' n _ _ (qge hl) e
  rw [e] at h
  cases o with
  | lst ys =>
   cases h
   obtain ⟨vs,e1,r⟩:=q
   exact ⟨_,vs,qge hl,.inl (.inl e1),r⟩
  | flst ys =>
   cases h
   obtain ⟨vs,e1,r⟩:=q
   exact ⟨_,vs,qge hl,e1.sq,r⟩
  | iset f n=>cases h
  | dct kvs=>cases h
  | fdct kvs=>cases h
  | ftdct kvs=>cases h
  | tset ks=>cases h
  | fnc x=>cases h
  | tdct kvs=>cases h
  | exc c=>cases h
  | tab x=>cases h
  | lam g caps=>cases h
  | dead=>cases h
theorem Sim.setG {n:Nat}{o0 o1:Ob}{u0 u1:HO}(s:Sim K ρ S H) (ha:ρ[n]? = some a) (hS:S[n]? = some o0) (hm0:o0.mut=true) (hH:H a=some u0) (hu:zef u0) (r:ObR K ρ (upd H a u1) o1 a):Sim K ρ (S.set n o1) (upd H a u1):=by
 have hl:n<S.length:=(qme hS).1
 have key:∀(m:Nat) (w:Ob),w.mut=true->(S.set n o1)[m]? = some w->∃w',S[m]? = some w'/\w'.mut=true:=λm w hw h=>by
  by_cases hmn:n=m
  ·subst hmn;exact ⟨_,hS,hm0⟩
  ·rw [List.getElem?_set_ne hmn] at h;exact ⟨_,h,hw⟩
 refine ⟨by rw [List.length_set];exact s.len,λi j b x1 x2 h1 h2 h3 h4 m1 m2=>?_,λm b o h1 h2=>?_⟩
 ·obtain ⟨_,h3,q3⟩:=key i x1 m1 h3
  obtain ⟨_,h4,q4⟩:=key j x2 m2 h4
  exact s.nd i j b _ _ h1 h2 h3 h4 q3 q4
 by_cases hmn:n=m
 ·subst hmn
  rw [ha] at h1;cases h1
  rw [List.getElem?_set_self hl] at h2
  cases h2
  exact r
 ·rw [List.getElem?_set_ne hmn] at h2
  exact (s.at' m b o h1 h2).writtenG hH hu (λe z=>hmn (s.nd n m a _ _ ha (by rw [h1,z]) hS h2 hm0 e))
theorem Sim.set {n:Nat}(s:Sim K ρ S H) (ha:ρ[n]? = some a) (hS:S[n]? = some (.lst zs)) (hH:H a=some (.lst ys)) (r:RDs ρ H xs vs):Sim K ρ (S.set n (.lst xs)) (upd H a (.lst vs)) :=
 s.setG ha hS rfl hH (zog ys) ⟨vs,zbo,r.mono0 (zd1 hH)⟩
theorem ext0_push:Ext0 ρ H (ρ++[a]) H :=
 ⟨λn b h=>by rw [List.getElem?_append_left (qme h).1];exact h,λ_ _ h=>h,λ_ _ _ h=>h⟩
theorem zbk {α:Type}{l:List α}{a b:α}{n:Nat}(h:(l++[a])[n]? = some b):l[n]? = some b\/(n=l.length/\b=a):=by
 by_cases hl:n<l.length
 ·rw [List.getElem?_append_left hl] at h;exact .inl h
 ·rw [List.getElem?_append_right (by lia)] at h
  have:n-l.length=0:=by
   have:=(qme h).1
   simp at this;lia
  rw [this] at h;simp at h
  exact .inr ⟨by lia,h.symm⟩
theorem zoh {a:Addr}{vs:List V}(ha:H a=none):Ext ρ H (ρ++[a]) (upd H a (.lst vs)) :=
 ⟨⟨ext0_push.pre (H:=H),λb us h=>by rw [zaj (zbh h ha)];exact h,λb o us h=>by rw [zaj (zbh h ha)];exact h⟩,λb us h n=>⟨by rw [zaj (zbh h ha)];exact h,λi hi=>by
  rcases zbk hi with hi|⟨_,e⟩
  ·exact n i hi
  ·rw [e,ha] at h;cases h⟩⟩
theorem zku {a:Addr}{u:HO}(ha:H a=none):Ext ρ H (ρ++[a]) (upd H a u) :=
 ⟨⟨ext0_push.pre (H:=H),λb us h=>by rw [zaj (zbh h ha)];exact h,λb o us h=>by rw [zaj (zbh h ha)];exact h⟩,λb us h n=>⟨by rw [zaj (zbh h ha)];exact h,λi hi=>by
  rcases zbk hi with hi|⟨_,e⟩
  ·exact n i hi
  ·rw [e,ha] at h;cases h⟩⟩
theorem Sim.pushG {a:Addr}{o1:Ob}{u:HO}(s:Sim K ρ S H) (ha:H a=none) (r:ObR K (ρ++[a]) (upd H a u) o1 a):Sim K (ρ++[a]) (S++[o1]) (upd H a u):=by
 have no:∀(n:Nat) (o:Ob),o.mut=true->ρ[n]? = some a->S[n]? = some o->False:=λn o hm h1 h2=>by
  have q:=s.at' n a _ h1 h2
  cases o with
  | lst xs=>obtain ⟨vs,e,_⟩:=q;rw [ha] at e;cases e
  | flst xs=>cases hm
  | iset f n=>have q:H a=_:=q;rw [ha] at q;cases q
  | dct kvs=>obtain ⟨vs,e,_⟩:=q;rw [ha] at e;cases e
  | tdct kvs=>obtain ⟨vs,e,_⟩:=q;rw [ha] at e;cases e
  | fdct kvs=>obtain ⟨o,vs,e,_⟩:=q;rw [ha] at e;cases e
  | ftdct kvs=>obtain ⟨o,vs,e,_⟩:=q;rw [ha] at e;cases e
  | tset ks=>obtain ⟨xs,_,e,_⟩:=q;rw [ha] at e;cases e
  | fnc x=>cases hm
  | exc c=>obtain ⟨C,_,e⟩:=q;rw [ha] at e;cases e
  | tab x=>obtain ⟨_,_,_,_,e,_⟩:=q;rw [ha] at e;cases e
  | lam g caps=>cases hm
  | dead=>cases hm
 refine ⟨by simp [s.len],λi j b x1 x2 h1 h2 h3 h4 m1 m2=>?_,λn b o h1 h2=>?_⟩
 ·rcases zbk h3 with h3|⟨e3,_⟩ <;> rcases zbk h4 with h4|⟨e4,_⟩
  ·have l1:=(qme h3).1
   have l2:=(qme h4).1
   rcases zbk h1 with h1|⟨e1,f1⟩ <;> rcases zbk h2 with h2|⟨e2,f2⟩
   ·exact s.nd i j b _ _ h1 h2 h3 h4 m1 m2
   ·have:=s.len;lia
   ·have:=s.len;lia
   ·have:=s.len;lia
  ·have l1:=(qme h3).1
   rcases zbk h2 with h2|⟨e2,f2⟩
   ·have:=(qme h2).1;have:=s.len;lia
   ·subst f2
    rcases zbk h1 with h1|⟨e1,_⟩
    ·exact (no i _ m1 h1 h3).elim
    ·have:=s.len;lia
  ·have l1:=(qme h4).1
   rcases zbk h1 with h1|⟨e2,f2⟩
   ·have:=(qme h1).1;have:=s.len;lia
   ·subst f2
    rcases zbk h2 with h2|⟨e1,_⟩
    ·exact (no j _ m2 h2 h4).elim
    ·have:=s.len;lia
  ·lia
 ·rcases zbk h2 with h2|⟨e2,f2⟩
  ·rcases zbk h1 with h1|⟨e1,f1⟩
   ·exact ((s.at' n b o h1 h2).laid ha).more ext0_push
   ·have:=(qme h2).1;have:=s.len;lia
  ·rcases zbk h1 with h1|⟨e1,f1⟩
   ·have:=(qme h1).1;have:=s.len;lia
   ·subst f1 f2
    exact r
theorem Sim.push (s:Sim K ρ S H) (ha:H a=none) (r:RDs ρ H xs vs):Sim K (ρ++[a]) (S++[.lst xs]) (upd H a (.lst vs)) :=
 s.pushG ha ⟨vs,zbo,r.mono (zoh ha)⟩
theorem zd2 {α:Type}(l:List α) (a:α):(l++[a])[l.length]? = some a:=by
 rw [List.getElem?_append_right (qlr _)];simp
end
structure RO (ρ:List Addr) (H:Hp) (l:Lo) (σ:St):Prop where
 len:l.length=σ.length
 get:∀(i:Nat) (d:D),l[i]? = some (some d)->∃v,σ[i]? = some (some v)/\RD ρ H d v
theorem RO.mono {σ:St}(r:RO ρ H l σ) (e:Ext ρ H ρ' H'):RO ρ' H' l σ :=
 ⟨r.len,λi d h=>let ⟨v,h1,h2⟩:=r.get i d h;⟨v,h1,h2.mono e⟩⟩
theorem RO.set {σ:St}(r:RO ρ H l σ) (i:Nat) (h:RD ρ H d v):RO ρ H (l.set i (some d)) (σ.set i (some v)):=by
 refine ⟨by simp [r.len],λj x hj=>?_⟩
 by_cases hij:i=j
 ·subst hij
  have hl:i<l.length:=by have:=(qme hj).1;simpa using this
  rw [List.getElem?_set_self hl] at hj
  cases hj
  exact ⟨v,List.getElem?_set_self (by rw [<-r.len];exact hl),h⟩
 ·rw [List.getElem?_set_ne hij] at hj
  rw [List.getElem?_set_ne hij]
  exact r.get j x hj
abbrev EM:=Lo->Sto->Option (D × Sto)
abbrev TM:=Lo->Sto->Option (Bool × Sto)
abbrev AM:=Lo->Sto->Option (List D × Sto)
abbrev FM:=List D->Sto->Option (D × Sto)
inductive Fl where
 | nx|bk|ct|rt (d:D)
abbrev SM:=Lo->Sto->Option (Fl × Lo × Sto)
abbrev GM:=D->Lo->Sto->Option (Lo × Sto)
abbrev GsM:=List D->Lo->Sto->Option (Lo × Sto)
def Pv (K:QFg) (ρ:List Addr) (H:Hp) (v:D) (S:Sto) (Q:VK):Prop:=∀ρ' H' v',Ext ρ H ρ' H'->Sim K ρ' S H'->RD ρ' H' v v'->Q v' H'
theorem Pv.ext {K:QFg}{ρ ρ1:List Addr}{H H1:Hp}{v:D}{S:Sto}{Q:VK}(p:Pv K ρ H v S Q) (e:Ext ρ H ρ1 H1):Pv K ρ1 H1 v S Q:=λρ' H' v' e' s r=>p ρ' H' v' (e.trans e') s r
inductive te (K:QFg) (m:EM) (σ:St) (H:Hp) (Q:VK):Prop
 | mk (ρ:_) (l:_) (S:_) (v:_) (S':_) (_:Sim K ρ S H) (_:RO ρ H l σ) (_:m l S=some (v,S')) (_:Pv K ρ H v S' Q)
inductive tt (K:QFg) (m:TM) (σ:St) (H:Hp) (Q:Bool->Hp->Prop):Prop
 | mk (ρ:_) (l:_) (S:_) (v:_) (S':_) (_:Sim K ρ S H) (_:RO ρ H l σ) (_:m l S=some (v,S')) (_:∀ρ' H',Ext ρ H ρ' H'->Sim K ρ' S' H'->Q v H')
inductive ta (K:QFg) (m:AM) (σ:St) (H:Hp) (Q:List V->Hp->Prop):Prop
 | mk (ρ:_) (l:_) (S:_) (v:_) (S':_) (_:Sim K ρ S H) (_:RO ρ H l σ) (_:m l S=some (v,S')) (_:∀ρ' H' vs,Ext ρ H ρ' H'->Sim K ρ' S' H'->RDs ρ' H' v vs->Q vs H')
def zff (ρ:List Addr) (H:Hp) (E:Ends) (σ:St):Fl->Prop
 | .nx=>E.nx σ H
 | .bk=>E.bk σ H
 | .ct=>E.ct σ H
 | .rt d=>∀v,RD ρ H d v->E.rt v H
inductive ts (K:QFg) (m:SM) (E:Ends) (σ:St) (H:Hp):Prop
 | mk (ρ:_) (l:_) (S:_) (f:_) (l':_) (S':_) (_:Sim K ρ S H) (_:RO ρ H l σ) (_:m l S=some (f,l',S')) (_:∀ρ' H' σ',Ext ρ H ρ' H'->Sim K ρ' S' H'->RO ρ' H' l' σ'->zff ρ' H' E σ' f)
inductive tg (K:QFg) (g:GM) (v:V) (σ:St) (H:Hp) (Q:St->Hp->Prop):Prop
 | mk (ρ:_) (l:_) (S:_) (d:_) (l':_) (S':_) (_:Sim K ρ S H) (_:RO ρ H l σ) (_:RD ρ H d v) (_:g d l S=some (l',S')) (_:∀ρ' H' σ',Ext ρ H ρ' H'->Sim K ρ' S' H'->RO ρ' H' l' σ'->Q σ' H')
inductive tgs (K:QFg) (g:GsM) (vs:List V) (σ:St) (H:Hp) (Q:St->Hp->Prop):Prop
 | mk (ρ:_) (l:_) (S:_) (ds:_) (l':_) (S':_) (_:Sim K ρ S H) (_:RO ρ H l σ) (_:RDs ρ H ds vs) (_:g ds l S=some (l',S')) (_:∀ρ' H' σ',Ext ρ H ρ' H'->Sim K ρ' S' H'->RO ρ' H' l' σ'->Q σ' H')
def PE3 (X:Cx) (e:Expr) (m:EM):Prop:=PE X e (te X.K m)
def PT3 (X:Cx) (e:Expr) (m:TM):Prop:=PT X e (tt X.K m)
def PW3 (X:Cx) (e:Expr) (m:TM):Prop:=PW X e (tt X.K m)
def PA3 (X:Cx) (es:List Expr) (m:AM):Prop:=PA X es (ta X.K m)
def PS3 (X:Cx) (st:Stmt) (m:SM):Prop:=PS X st (ts X.K m)
def zcx (X:Cx) (st:List Stmt) (m:SM):Prop:=PSs X st (ts X.K m)
def PG3 (X:Cx) (tg':Expr) (m:GM):Prop:=PG X tg' (tg X.K m)
def zhf (X:Cx) (ts':List Expr) (m:GsM):Prop:=PGs X ts' (tgs X.K m)
theorem PE.imp {t u:TE}(h:PE X e t) (i:∀σ H Q,u σ H Q->t σ H Q):PE X e u:=λpins s σ H Q I q=>h pins s σ H Q I (i _ _ _ q)
theorem PT.imp {t u:TT}(h:PT X e t) (i:∀σ H Q,u σ H Q->t σ H Q):PT X e u:=λpins s σ H Q I q=>h pins s σ H Q I (i _ _ _ q)
theorem PW.imp {t u:TT}(h:PW X e t) (i:∀σ H Q,u σ H Q->t σ H Q):PW X e u:=λwh pins s σ H Q I q=>h wh pins s σ H Q I (i _ _ _ q)
theorem PA.imp {t u:TA}(h:PA X e t) (i:∀σ H Q,u σ H Q->t σ H Q):PA X e u:=λpos pins s σ H Q I q=>h pos pins s σ H Q I (i _ _ _ q)
theorem PS.imp {e:Stmt}{t u:TS}(h:PS X e t) (i:∀E σ H,u E σ H->t E σ H):PS X e u:=λpins s σ H Q I q=>h pins s σ H Q I (i _ _ _ q)
theorem PSs.imp {e:List Stmt}{t u:TS}(h:PSs X e t) (i:∀E σ H,u E σ H->t E σ H):PSs X e u:=λpins s σ H Q I q=>h pins s σ H Q I (i _ _ _ q)
theorem PG.imp {t u:TG}(h:PG X e t) (i:∀v σ H Q,u v σ H Q->t v σ H Q):PG X e u:=λpins s σ H v w Q I r q=>h pins s σ H v w Q I r (i _ _ _ _ q)
theorem PGs.imp {t u:TGs}(h:PGs X e t) (i:∀v σ H Q,u v σ H Q->t v σ H Q):PGs X e u:=λpins s σ H v w Q I r q=>h pins s σ H v w Q I r (i _ _ _ _ q)
inductive Bnd {α β:Type} (o:Option α) (f:α->Option β) (b:β):Prop
 | mk (a:α) (_:o=some a) (_:f a=some b)
theorem bnd {α β:Type}{o:Option α}{f:α->Option β}{b:β}(h:o.bind f=some b):Bnd o f b:=by
 obtain ⟨a,h1,h2⟩:=Option.bind_eq_some_iff.mp h
 exact ⟨a,h1,h2⟩
noncomputable def zaa (i:Nat):EM:=λl S=>match l[i]? with
 | some (some d)=>some (d,S)
 | _=>none
noncomputable def eC (d:D):EM:=λ_ S=>some (d,S)
noncomputable def eOp (f:D->D->Sto->Option (D × Sto)) (a b:EM):EM:=λl S=>(a l S).bind λp=>(b l p.2).bind λq=>f p.1 q.1 q.2
noncomputable def eUn (f:D->Sto->Option (D × Sto)) (a:EM):EM:=λl S=>(a l S).bind λp=>f p.1 p.2
noncomputable def zad:AM:=λ_ S=>some ([],S)
noncomputable def zab (a:EM) (r:AM):AM:=λl S=>(a l S).bind λp=>(r l p.2).bind λq=>some (p.1 :: q.1,q.2)
noncomputable def zae (f:FM) (as:AM):EM:=λl S=>(as l S).bind λp=>f p.1 p.2
noncomputable def tE (a:EM):TM:=λl S=>(a l S).bind λp=>match p.1 with
 | .bl b=>some (b,p.2)
 | _=>none
noncomputable def zf2 (a b:TM):TM:=λl S=>(a l S).bind λp=>if p.1=true then b l p.2 else some (false,p.2)
noncomputable def zdn (a b:TM):TM:=λl S=>(a l S).bind λp=>if p.1=true then some (true,p.2) else b l p.2
noncomputable def zf3 (a:TM):TM:=λl S=>(a l S).bind λp=>some (!p.1,p.2)
noncomputable def zf4 (a b:EM):EM:=λl S=>(a l S).bind λp=>match p.1 with
 | .bl true=>b l p.2
 | .bl false=>some (.bl false,p.2)
 | _=>none
noncomputable def zi1 (a:EM):EM:=λl S=>(a l S).bind λp=>match p.1 with
 | .bl b=>some (.bl (!b),p.2)
 | _=>none
noncomputable def zfg (c:TM) (a b:EM):EM:=λl S=>(c l S).bind λp=>if p.1=true then a l p.2 else b l p.2
def Op3 (K:QFg) (f:D->D->Sto->Option (D × Sto)) (r:R2):Prop :=
 ∀ρ S H x y x' y' v S' Q,Sim K ρ S H->RD ρ H x x'->RD ρ H y y'->f x y S=some (v,S')->Pv K ρ H v S' Q->r x' y' H Q
def Un3 (K:QFg) (f:D->Sto->Option (D × Sto)) (r:V->Hp->VK->Prop):Prop :=
 ∀ρ S H x x' v S' Q,Sim K ρ S H->RD ρ H x x'->f x S=some (v,S')->Pv K ρ H v S' Q->r x' H Q
def Fn3 (K:QFg) (f:FM) (r:List V->Hp->VK->Prop):Prop :=
 ∀ρ S H xs vs v S' Q,Sim K ρ S H->RDs ρ H xs vs->f xs S=some (v,S')->Pv K ρ H v S' Q->r vs H Q
def Mt3 (K:QFg) (f:D->List D->Sto->Option (D × Sto)) (r:V->List V->Hp->VK->Prop):Prop :=
 ∀ρ S H x x' xs vs v S' Q,Sim K ρ S H->RD ρ H x x'->RDs ρ H xs vs->f x xs S=some (v,S')->Pv K ρ H v S' Q->r x' vs H Q
theorem zi2 {K:QFg}{f:D->D->Sto->Option (D × Sto)}{r:R2}(h:Op3 K f r) {a b:EM}(σ:St) (H:Hp) (Q:VK) (q:te K (eOp f a b) σ H Q):tOp r (te K a) (te K b) σ H Q:=by
 obtain ⟨ρ,l,S,v,S',sim,ro,hm,p⟩:=q
 obtain ⟨⟨x,S1⟩,h1,hm⟩:=bnd hm
 obtain ⟨⟨y,S2⟩,h2,hm⟩:=bnd hm
 exact ⟨ρ,l,S,x,S1,sim,ro,h1,λρ1 H1 x' e1 s1 r1=>⟨ρ1,l,S1,y,S2,s1,ro.mono e1,h2,λρ2 H2 y' e2 s2 r2=>h ρ2 S2 H2 x y x' y' v S' Q s2 (r1.mono e2) r2 hm (p.ext (e1.trans e2))⟩⟩
section
variable {X:Cx}{a b c:Expr}{es:List Expr}{ma mb:EM}{mA:AM}{pos:Pos}
theorem zac (i:Nat) (hN:X.N[i]? = some x:=by rfl) (hv:Vis X.env.scope x:=by first|exact Or.inl rfl|exact Or.inr (Or.inl rfl)|exact Or.inr (Or.inr rfl)) (hd:(x == ("__debug__":Str))=false:=by decide)
  (hcd:(x == ("__classdict__":Str))=false:=by decide):PE3 X (.Name x pos) (zaa i) :=
 PE.imp (zuu hN hv hd hcd) λσ H Q hx1_=>by
  obtain ⟨ρ,l,S,v,S',sim,ro,hm,p⟩:=hx1_
  unfold zaa at hm
  split at hm
  ·rename_i d e
   cases hm
   obtain ⟨w,h1,h2⟩:=ro.get i _ e
   exact ⟨w,h1,p ρ H w (Ext.refl ..) sim h2⟩
  ·cases hm
theorem zi3 {K:QFg}{d:D}{v:V}(h:∀ρ H,RD ρ H d v) (σ:St) (H:Hp) (Q:VK) (q:te K (eC d) σ H Q):tC v σ H Q:=by
 obtain ⟨ρ,l,S,w,S',sim,ro,hm,p⟩:=q
 cases hm
 exact p ρ H v (Ext.refl ..) sim (h ρ H)
theorem zao {i j}:PE3 X (.Constant (.int i) j pos) (eC (.int i)):=PE.imp zuv (zi3 λ_ _=>.int i)
theorem zev {i j}:PE3 X (.Constant (.bool i) j pos) (eC (.bl i)):=PE.imp zuw (zi3 λ_ _=>.bl i)
theorem zd3 {j}:PE3 X (.Constant .none j pos) (eC .non):=PE.imp zux (zi3 λ_ _=>.non)
theorem zct {i j}:PE3 X (.Constant (.str i) j pos) (eC (.str i)):=PE.imp zm6 (zi3 λ_ _=>.str i)
theorem zf5 {op:Operator}{f:D->D->Sto->Option (D × Sto)}{r:R2}(ho:OpR X (binaryOp op) r) (h3:Op3 X.K f r) (ha:PE3 X a ma) (hb:PE3 X b mb):PE3 X (.BinOp a op b pos) (eOp f ma mb):=PE.imp (zwb ho ha hb) (zi2 h3)
theorem zkv {op:CmpOp}{f:D->D->Sto->Option (D × Sto)}{r:R2}(ho:OpR X (compareOp op) r) (h3:Op3 X.K f r) (ha:PE3 X a ma) (hb:PE3 X b mb) (hm:behindInMarks op b=false):PE3 X (.Compare a [op] [b] pos) (eOp f ma mb):=PE.imp (zwm ho ha hb hm) (zi2 h3)
theorem zoi {K:QFg}{m:EM}(σ:St) (H:Hp) (Q:Bool->Hp->Prop) (q:tt K (tE m) σ H Q):te K m σ H λx H'=>∃k,x=.bl k/\Q k H':=by
 obtain ⟨ρ,l,S,v,S',sim,ro,hm,p⟩:=q
 obtain ⟨⟨x,S1⟩,h1,hm⟩:=bnd hm
 refine ⟨ρ,l,S,x,S1,sim,ro,h1,λρ' H' v' e s r=>?_⟩
 cases r with
 | bl k=>cases hm;exact ⟨_,rfl,p ρ' H' e s⟩
 | _=>cases hm
theorem zd4 {op:CmpOp}{f:D->D->Sto->Option (D × Sto)}{r:R2}(ho:OpR X (compareOp op) r) (h3:Op3 X.K f r) (ha:PE3 X a ma) (hb:PE3 X b mb) (hm:behindInMarks op b=false):PT3 X (.Compare a [op] [b] pos) (tE (eOp f ma mb)) :=
 PT.imp (zwo ho ha hb hm) λσ H Q q=>zi2 h3 σ H _ (zoi σ H Q q)
theorem zi4 (h:PE3 X a m) (he:∀whole,isTrue a X.env whole=(do let v <-whole;standAt a.pos;holding [v] (truthy v)):=by intro _;rfl):PT3 X a (tE m) :=
 PT.imp (zuz h he) λσ H Q q=>zoi σ H Q q
variable {t u:TM}{rest:List Expr}
theorem zyi {K:QFg}(σ:St) (H:Hp) (Q:Bool->Hp->Prop) (q:tt K (zf2 t u) σ H Q):L2.tAnd (tt K t) (tt K u) σ H Q:=by
 obtain ⟨ρ,l,S,v,S',sim,ro,hm,p⟩:=q
 obtain ⟨⟨x,S1⟩,h1,hm⟩:=bnd hm
 refine ⟨ρ,l,S,x,S1,sim,ro,h1,λρ1 H1 e1 s1=>?_⟩
 cases x with
 | true=>exact zc2 ⟨ρ1,l,S1,v,S',s1,ro.mono e1,hm,λρ2 H2 e2 s2=>p ρ2 H2 (e1.trans e2) s2⟩
 | false=>cases hm;exact zc1 (p ρ1 H1 e1 s1)
theorem zyj {K:QFg}(σ:St) (H:Hp) (Q:Bool->Hp->Prop) (q:tt K (zdn t u) σ H Q):L2.tOr (tt K t) (tt K u) σ H Q:=by
 obtain ⟨ρ,l,S,v,S',sim,ro,hm,p⟩:=q
 obtain ⟨⟨x,S1⟩,h1,hm⟩:=bnd hm
 refine ⟨ρ,l,S,x,S1,sim,ro,h1,λρ1 H1 e1 s1=>?_⟩
 cases x with
 | false=>exact zc1 ⟨ρ1,l,S1,v,S',s1,ro.mono e1,hm,λρ2 H2 e2 s2=>p ρ2 H2 (e1.trans e2) s2⟩
 | true=>cases hm;exact zc2 (p ρ1 H1 e1 s1)
theorem zyk (ha:PT3 X a t):PW3 X (.BoolOp .And [a] pos) t:=zu1 ha
theorem zyl (ha:PT3 X a t):PW3 X (.BoolOp .Or [a] pos) t:=zu2 ha
theorem zym (ha:PT3 X a t) (hb:PW3 X (.BoolOp .And (b :: rest) pos) u):PW3 X (.BoolOp .And (a :: b :: rest) pos) (zf2 t u):=PW.imp (zu3 ha hb) zyi
theorem zoj (ha:PT3 X a t) (hb:PW3 X (.BoolOp .Or (b :: rest) pos) u):PW3 X (.BoolOp .Or (a :: b :: rest) pos) (zdn t u):=PW.imp (zu4 ha hb) zyj
theorem zok (h:PW3 X a t):PT3 X a t:=PW.pt h
theorem zol (ha:PT3 X a t):PT3 X (.UnaryOp .Not a pos) (zf3 t):=PT.imp (zu5 ha) λσ H Q hx2_=>by
 obtain ⟨ρ,l,S,v,S',sim,ro,hm,p⟩:=hx2_
 obtain ⟨⟨x,S1⟩,h1,hm⟩:=bnd hm
 cases hm
 exact ⟨ρ,l,S,x,S1,sim,ro,h1,p⟩
theorem zyn {op}(h:PE3 X a ma):PE3 X (.BoolOp op [a] pos) ma:=zu8 h
theorem zom (ha:PE3 X a ma) (hb:PE3 X (.BoolOp .And (b :: rest) pos) mb):PE3 X (.BoolOp .And (a :: b :: rest) pos) (zf4 ma mb):=PE.imp (zu9 ha hb) λσ H Q hx3_=>by
 obtain ⟨ρ,l,S,v,S',sim,ro,hm,p⟩:=hx3_
 obtain ⟨⟨x,S1⟩,h1,hm⟩:=bnd hm
 refine ⟨ρ,l,S,x,S1,sim,ro,h1,λρ1 H1 x' e1 s1 r1=>?_⟩
 cases r1 with
 | bl k =>
  refine ⟨k,rfl,?_⟩
  cases k with
  | true=>exact zc2 ⟨ρ1,l,S1,v,S',s1,ro.mono e1,hm,p.ext e1⟩
  | false=>cases hm;exact zc1 (p ρ1 H1 _ e1 s1 (.bl false))
 | _=>cases hm
theorem zyo (ha:PE3 X a ma):PE3 X (.UnaryOp .Not a pos) (zi1 ma):=PE.imp (zva ha) λσ H Q hx5_=>by
 obtain ⟨ρ,l,S,v,S',sim,ro,hm,p⟩:=hx5_
 obtain ⟨⟨x,S1⟩,h1,hm⟩:=bnd hm
 refine ⟨ρ,l,S,x,S1,sim,ro,h1,λρ1 H1 x' e1 s1 r1=>?_⟩
 cases r1 with
 | bl k=>cases hm;exact ⟨k,rfl,p ρ1 H1 _ e1 s1 (.bl _)⟩
 | _=>cases hm
theorem zon {mc:TM}(hc:PT3 X c mc) (ha:PE3 X a ma) (hb:PE3 X b mb):PE3 X (.IfExp c a b pos) (zfg mc ma mb):=PE.imp (zvb hc ha hb) λσ H Q hx6_=>by
 obtain ⟨ρ,l,S,v,S',sim,ro,hm,p⟩:=hx6_
 obtain ⟨⟨x,S1⟩,h1,hm⟩:=bnd hm
 refine ⟨ρ,l,S,x,S1,sim,ro,h1,λρ1 H1 e1 s1=>?_⟩
 cases x with
 | true=>exact zc2 ⟨ρ1,l,S1,v,S',s1,ro.mono e1,hm,p.ext e1⟩
 | false=>exact zc1 ⟨ρ1,l,S1,v,S',s1,ro.mono e1,hm,p.ext e1⟩
theorem zah:PA3 X [] zad:=PA.imp zf1 λσ H Q hx7_=>by
 obtain ⟨ρ,l,S,v,S',sim,ro,hm,p⟩:=hx7_
 cases hm
 exact p ρ H [] (Ext.refl ..) sim .nil
theorem zaf (ha:PE3 X a ma) (hr:PA3 X es mA) (hs:starEach (a :: es) X.env=(false,eval a X.env) :: starEach es X.env:=by rfl):PA3 X (a :: es) (zab ma mA):=PA.imp (zeu ha hr hs) λσ H Q hx8_=>by
 obtain ⟨ρ,l,S,v,S',sim,ro,hm,p⟩:=hx8_
 obtain ⟨⟨x,S1⟩,h1,hm⟩:=bnd hm
 obtain ⟨⟨y,S2⟩,h2,hm⟩:=bnd hm
 cases hm
 exact ⟨ρ,l,S,x,S1,sim,ro,h1,λρ1 H1 x' e1 s1 r1=>⟨ρ1,l,S1,y,_,s1,ro.mono e1,h2,λρ2 H2 vs e2 s2 r2=>p ρ2 H2 _ (e1.trans e2) s2 (.cons (r1.mono e2) r2)⟩⟩
noncomputable def zat:FM:=λxs S=>if xs.length<=sizeLine then some (.tup xs,S) else none
noncomputable def zbf:FM:=λxs S=>if xs.length<=sizeLine then some (.ref S.length,S++[.lst xs]) else none
theorem za1 {α:Type}{c:Prop} [Decidable c] {a b:α}(h:(if c then some a else none)=some b):c/\a=b:=by
 by_cases hc:c
 ·rw [if_pos hc] at h;exact ⟨hc,qoi h⟩
 ·rw [if_neg hc] at h;cases h
theorem zf6 {K:QFg}{ρ:List Addr}{S:Sto}{H:Hp}{xs:List D}{vs:List V}{Q:VK}(sim:Sim K ρ S H) (r:RDs ρ H xs vs) (p:Pv K ρ H (.tup xs) S Q):∀a,H a=none->Q (.ref a) (upd H a (.tup vs)):=λa ha =>
 p ρ _ _ (zbx ha) (sim.laid ha) (.tup zbo (r.mono (zbx ha)))
theorem zf7 {K:QFg}{ρ:List Addr}{S:Sto}{H:Hp}{xs:List D}{vs:List V}{Q:VK}(sim:Sim K ρ S H) (r:RDs ρ H xs vs) (p:Pv K ρ H (.ref S.length) (S++[.lst xs]) Q):∀a,H a=none->Q (.ref a) (upd H a (.lst vs)):=λa ha =>
 p (ρ++[a]) _ _ (zoh ha) (sim.push ha r) (.ref (by rw [<-sim.len];exact zd2 ρ a))
theorem zbb {x1}(h:PA3 X es mA):PE3 X (.Tuple es x1 pos) (zae zat mA):=PE.imp (zwz h) λσ H Q hx9_=>by
 obtain ⟨ρ,l,S,v,S',sim,ro,hm,p⟩:=hx9_
 obtain ⟨⟨x,S1⟩,h1,hm⟩:=bnd hm
 obtain ⟨hz,e⟩:=za1 hm
 cases e
 exact ⟨ρ,l,S,x,_,sim,ro,h1,λρ1 H1 vs e1 s1 r1=>⟨by rw [<-r1.length];exact hz,zf6 s1 r1 (p.ext e1)⟩⟩
theorem zcb (h:PA3 X es mA):PE3 X (.List es pos) (zae zbf mA):=PE.imp (zw0 h) λσ H Q hx10_=>by
 obtain ⟨ρ,l,S,v,S',sim,ro,hm,p⟩:=hx10_
 obtain ⟨⟨x,S1⟩,h1,hm⟩:=bnd hm
 obtain ⟨hz,e⟩:=za1 hm
 cases e
 exact ⟨ρ,l,S,x,_,sim,ro,h1,λρ1 H1 vs e1 s1 r1=>⟨by rw [<-r1.length];exact hz,zf7 s1 r1 (p.ext e1)⟩⟩
theorem zkw {K:QFg}{f:FM}{r:List V->Hp->VK->Prop}(h3:Fn3 K f r) (σ:St) (H:Hp) (Q:VK) (q:te K (zae f mA) σ H Q):tCB r (ta K mA) σ H Q:=by
 obtain ⟨ρ,l,S,v,S',sim,ro,hm,p⟩:=q
 obtain ⟨⟨x,S1⟩,h1,hm⟩:=bnd hm
 exact ⟨ρ,l,S,x,S1,sim,ro,h1,λρ1 H1 vs e1 s1 r1=>h3 ρ1 S1 H1 x vs v S' Q s1 r1 hm (p.ext e1)⟩
theorem zfh {id:String}{r:List V->Hp->VK->Prop}(hc:CallR X (.builtin id) r) (h3:Fn3 X.K f r) (hg:Gl X x) (hm:X.mg x=none) (hv:bootBuiltins x=some (.builtin id)) (ha:PA3 X (a :: es) mA) (hn:x≠"__name__":=by decide) (hdb:(x == ("__debug__":Str))=false:=by decide)
  (he:starEach (a :: es) X.env=(false,eval a X.env) :: starEach es X.env:=by rfl) (hpl:(backTo pos (starEach es X.env)).any (·.1)=false:=by rfl):PE3 X (.Call (.Name x p) (a :: es) [] pos) (zae f mA) :=
 PE.imp (ziw hc hg hm hv ha hn hdb he hpl) (zkw h3)
theorem zoo {T:String}{r:List V->Hp->VK->Prop}(hc:CallR X (.type T) r) (h3:Fn3 X.K f r) (hg:Gl X x) (hm:X.mg x=none) (hv:bootBuiltins x=some (.type T)) (ha:PA3 X (a :: es) mA) (hn:x≠"__name__":=by decide) (hdb:(x == ("__debug__":Str))=false:=by decide)
  (he:starEach (a :: es) X.env=(false,eval a X.env) :: starEach es X.env:=by rfl) (hpl:(backTo pos (starEach es X.env)).any (·.1)=false:=by rfl):PE3 X (.Call (.Name x p) (a :: es) [] pos) (zae f mA) :=
 PE.imp (zkm hc hg hm hv ha hn hdb he hpl) (zkw h3)
end
noncomputable def oI (C:Int->Int->Bool) (g:Int->Int->D):D->D->Sto->Option (D × Sto)
 | .int i,.int j,S=>if C i j=true then some (g i j,S) else none
 | _,_,_=>none
noncomputable def oI0 (g:Int->Int->D):D->D->Sto->Option (D × Sto)
 | .int i,.int j,S=>some (g i j,S)
 | _,_,_=>none
theorem zkx {K:QFg}{C:Int->Int->Bool}{C':Int->Int->Prop}{g:Int->Int->D}{g':Int->Int->V}(hC:∀i j,C i j=true->C' i j) (hg:∀ρ H i j,RD ρ H (g i j) (g' i j)):Op3 K (oI C g) (rI C' g'):=by
 intro ρ S H x y x' y' v S' Q sim rx ry h p
 unfold oI at h
 split at h
 ·rename_i i j
  cases rx;cases ry
  obtain ⟨hc,e⟩:=za1 h
  cases e
  exact ⟨i,j,rfl,rfl,hC i j hc,p ρ H _ (Ext.refl ..) sim (hg ρ H i j)⟩
 ·cases h
theorem zky {K:QFg}{g:Int->Int->D}{g':Int->Int->V}(hg:∀ρ H i j,RD ρ H (g i j) (g' i j)):Op3 K (oI0 g) (rI0 g'):=by
 intro ρ S H x y x' y' v S' Q sim rx ry h p
 unfold oI0 at h
 split at h
 ·rename_i i j
  cases rx;cases ry
  cases h
  exact ⟨i,j,rfl,rfl,p ρ H _ (Ext.refl ..) sim (hg ρ H i j)⟩
 ·cases h
theorem Op3.or {K:QFg}{f:D->D->Sto->Option (D × Sto)}{g:D->D->Sto->Option (D × Sto)}{r r':R2}(h:Op3 K f r) (h':Op3 K g r'):Op3 K (λx y S=>match f x y S with|some v=>some v|none=>g x y S) (λx y H Q=>r x y H Q\/r' x y H Q):=by
 intro ρ S H x y x' y' v S' Q sim rx ry hm p
 dsimp only at hm
 cases e:f x y S with
 | some w=>rw [e] at hm;cases hm;exact .inl (h ρ S H x y x' y' _ _ Q sim rx ry e p)
 | none=>rw [e] at hm;exact .inr (h' ρ S H x y x' y' _ _ Q sim rx ry hm p)
noncomputable abbrev zhg:=oI (λi j=>decide (0<j/\j<1073741824)) λi j=>.int (i / j)
noncomputable abbrev zdo:=oI (λi j=>decide (0<j)) λi j=>.int (i % j)
noncomputable abbrev zi5:=oI (λi j=>decide (0<=j/\j<=1000000/\i.natAbs<2 ^ 64)) λi j=>.int (i ^ j.toNat)
noncomputable abbrev dLt:=oI0 λi j=>.bl (decide (i<j))
noncomputable abbrev dGt:=oI0 λi j=>.bl (decide (j<i))
noncomputable abbrev dGe:=oI0 λi j=>.bl (decide (j<=i))
section
theorem zi6 (ha:PE3 X a ma) (hb:PE3 X b mb):PE3 X (.BinOp a .FloorDiv b pos) (eOp zhg ma mb):=zf5 zwd (zkx (λi j h=>by first|(unfold CMul;exact of_decide_eq_true h)|(unfold ziu;exact of_decide_eq_true h)|(unfold ziv;exact of_decide_eq_true h)|exact of_decide_eq_true h) λ_ _ _ _=>.int _) ha hb
theorem zd5 (ha:PE3 X a ma) (hb:PE3 X b mb):PE3 X (.BinOp a .Mod b pos) (eOp zdo ma mb):=zf5 zwe (zkx (λi j h=>by first|(unfold CMul;exact of_decide_eq_true h)|(unfold ziu;exact of_decide_eq_true h)|(unfold ziv;exact of_decide_eq_true h)|exact of_decide_eq_true h) λ_ _ _ _=>.int _) ha hb
theorem zkz (ha:PE3 X a ma) (hb:PE3 X b mb):PE3 X (.BinOp a .Pow b pos) (eOp zi5 ma mb):=zf5 zwf (zkx (λi j h=>by first|(unfold CMul;exact of_decide_eq_true h)|(unfold ziu;exact of_decide_eq_true h)|(unfold ziv;exact of_decide_eq_true h)|exact of_decide_eq_true h) λ_ _ _ _=>.int _) ha hb
theorem zop (ha:PE3 X a ma) (hb:PE3 X b mb):PT3 X (.Compare a [.Lt] [b] pos) (tE (eOp dLt ma mb)):=zd4 zwh (zky λ_ _ _ _=>.bl _) ha hb (zdy b)
theorem zoq (ha:PE3 X a ma) (hb:PE3 X b mb):PT3 X (.Compare a [.Gt] [b] pos) (tE (eOp dGt ma mb)):=zd4 zwi (zky λ_ _ _ _=>.bl _) ha hb (zdy b)
theorem zyp (ha:PE3 X a ma) (hb:PE3 X b mb):PT3 X (.Compare a [.GtE] [b] pos) (tE (eOp dGe ma mb)):=zd4 zwj (zky λ_ _ _ _=>.bl _) ha hb (zdy b)
end
noncomputable def sEq:D->D->Option Bool
 | .non,.non=>some true | .non,.int _=>some false | .int _,.non=>some false | .non,.bl _=>some false | .bl _,.non=>some false | .non,.str _=>some false | .str _,.non=>some false
 | .int i,.int j=>some (decide (i=j)) | .bl i,.bl j=>some (decide (i=j)) | .str i,.str j=>some (decide (i=j))
 | .int _,.str _=>some false | .str _,.int _=>some false | .bl _,.str _=>some false | .str _,.bl _=>some false
 | _,_=>none
noncomputable def dEq:D->D->Sto->Option (D × Sto):=λx y S=>(sEq x y).bind λb=>some (.bl b,S)
noncomputable def dNe:D->D->Sto->Option (D × Sto):=λx y S=>(sEq x y).bind λb=>some (.bl (!b),S)
theorem zor (rx:RD ρ H x x') (ry:RD ρ H y y') (h:sEq x y=some b):zkk x' y' = true/\decide (x' = y')=b:=by
 cases rx <;> cases ry <;> first
  | (cases (show (none:Option Bool)=some b from h))
  | (have h:=qoi h;subst h;exact ⟨rfl,rfl⟩)
  | (have h:=qoi h;subst h;exact ⟨rfl,by simp⟩)
theorem zyq {K:QFg}:Op3 K dEq rEq:=by
 intro ρ S H x y x' y' v S' Q sim rx ry h p
 obtain ⟨b,h1,h⟩:=bnd h
 cases h
 obtain ⟨h2,h3⟩:=zor rx ry h1
 exact ⟨h2,by rw [h3];exact p ρ H _ (Ext.refl ..) sim (.bl b)⟩
theorem zos {K:QFg}:Op3 K dNe rNe:=by
 intro ρ S H x y x' y' v S' Q sim rx ry h p
 obtain ⟨b,h1,h⟩:=bnd h
 cases h
 obtain ⟨h2,h3⟩:=zor rx ry h1
 exact ⟨h2,by rw [h3];exact p ρ H _ (Ext.refl ..) sim (.bl _)⟩
noncomputable def zd6:D->Bool
 | .non=>true
 | _=>false
noncomputable def dIs:D->D->Sto->Option (D × Sto)
 | x,.non,S=>some (.bl (zd6 x),S)
 | _,_,_=>none
noncomputable def zf8:D->D->Sto->Option (D × Sto)
 | x,.non,S=>some (.bl (!zd6 x),S)
 | _,_,_=>none
theorem zot (r:RD ρ H x x'):decide (x' = .non)=zd6 x:=by
 cases r <;> simp [zd6]
theorem zyr {K:QFg}:Op3 K dIs (λx y H Q=>y=.non/\Q (.bl (decide (x=.non))) H):=by
 intro ρ S H x y x' y' v S' Q sim rx ry h p
 unfold dIs at h
 split at h
 ·cases h;cases ry
  exact ⟨rfl,by rw [zot rx];exact p ρ H _ (Ext.refl ..) sim (.bl _)⟩
 ·cases h
theorem zys {K:QFg}:Op3 K zf8 (λx y H Q=>y=.non/\Q (.bl (!decide (x=.non))) H):=by
 intro ρ S H x y x' y' v S' Q sim rx ry h p
 unfold zf8 at h
 split at h
 ·cases h;cases ry
  exact ⟨rfl,by rw [zot rx];exact p ρ H _ (Ext.refl ..) sim (.bl _)⟩
 ·cases h
section
theorem zyt (ha:PE3 X a ma) (hb:PE3 X b mb):PE3 X (.Compare a [.NotEq] [b] pos) (eOp dNe ma mb):=zkv znj zos ha hb (zdy b)
theorem zou (ha:PE3 X a ma) (hb:PE3 X b mb):PE3 X (.Compare a [.IsNot] [b] pos) (eOp zf8 ma mb):=zkv zwl zys ha hb (zdy b)
theorem zov (ha:PE3 X a ma) (hb:PE3 X b mb):PT3 X (.Compare a [.Eq] [b] pos) (tE (eOp dEq ma mb)):=zd4 zwg zyq ha hb (zdy b)
theorem zow (ha:PE3 X a ma) (hb:PE3 X b mb):PT3 X (.Compare a [.NotEq] [b] pos) (tE (eOp dNe ma mb)):=zd4 znj zos ha hb (zdy b)
theorem zyu (ha:PE3 X a ma) (hb:PE3 X b mb):PT3 X (.Compare a [.Is] [b] pos) (tE (eOp dIs ma mb)):=zd4 zwk zyr ha hb (zdy b)
end
noncomputable def dIx:D->D->Sto->Option (D × Sto)
 | .tup xs,.int i,S=>(atI xs i).bind λv=>some (v,S)
 | .ref n,.int i,S=>(lstOf S n).bind λxs=>(atI xs i).bind λv=>some (v,S)
 | _,_,_=>none
theorem zox (r:RDs ρ H xs vs) (h:atI xs i=some x):∃v,atI vs i=some v/\RD ρ H x v:=by
 unfold atI at h ⊢
 rw [<-r.length]
 cases e:ixN xs.length i with
 | none=>rw [e] at h;cases h
 | some j =>
  rw [e] at h
  exact r.get (i:=j) h
theorem zyv {K:QFg}:Op3 K dIx (rIx K):=by
 intro ρ S H x y x' y' v S' Q sim rx ry h p
 unfold dIx at h
 split at h
 ·cases ry
  obtain ⟨w,h1,h⟩:=bnd h
  cases h
  cases rx with
  | tup ha r =>
   obtain ⟨u,h2,r2⟩:=zox r h1
   exact .inr (.inl ⟨_,_,_,u,rfl,rfl,SqT.of ha,h2,p ρ H u (Ext.refl ..) sim r2⟩)
 ·cases ry
  obtain ⟨xs,h0,h⟩:=bnd h
  obtain ⟨w,h1,h⟩:=bnd h
  cases h
  cases rx with
  | ref hn =>
   obtain ⟨a,vs,ha,sq,r⟩:=sim.lstOf h0
   rw [ha] at hn;cases hn
   obtain ⟨u,h2,r2⟩:=zox r h1
   exact .inl ⟨_,_,_,u,rfl,rfl,sq,h2,p ρ H u (Ext.refl ..) sim r2⟩
 ·cases h
section
end
abbrev OM:=Lo->Sto->Option (Option Int × Sto)
noncomputable def zfi:OM:=λ_ S=>some (none,S)
noncomputable def zew (m:EM):OM:=λl S=>(m l S).bind λp=>match p.1 with
 | .int i=>some (some i,p.2)
 | _=>none
noncomputable def zch (xs:List D) (lo hi:Option Int):List D:=(xs.drop (HT.sIx xs.length 0 lo)).take (HT.sIx xs.length xs.length hi-HT.sIx xs.length 0 lo)
inductive tO (K:QFg) (m:OM) (σ:St) (H:Hp) (Q:Option Int->Hp->Prop):Prop
 | mk (ρ:_) (l:_) (S:_) (v:_) (S':_) (_:Sim K ρ S H) (_:RO ρ H l σ) (_:m l S=some (v,S')) (_:∀ρ' H',Ext ρ H ρ' H'->Sim K ρ' S' H'->Q v H')
def PO3 (X:Cx) (e:Option Expr) (m:OM):Prop:=PO X e (tO X.K m)
section
variable {X:Cx}{a b:Expr}{ma mb:EM}{pos p2:Pos}{lo hi:Option Expr}{ml mh:OM}
theorem PO.imp (h:PO X e t) (i:∀σ H Q,u σ H Q->t σ H Q):PO X e u:=λpins s σ H Q I q=>h pins s σ H Q I (i _ _ _ q)
theorem zhh:PO3 X none zfi:=PO.imp zxb λσ H Q hx1_=>by
 obtain ⟨ρ,l,S,v,S',sim,ro,hm,p⟩:=hx1_
 cases hm
 exact p ρ H (Ext.refl ..) sim
theorem zhi (h:PE3 X a ma):PO3 X (some a) (zew ma):=PO.imp (zxc h) λσ H Q hx2_=>by
 obtain ⟨ρ,l,S,v,S',sim,ro,hm,p⟩:=hx2_
 obtain ⟨⟨x,S1⟩,h1,hm⟩:=bnd hm
 refine ⟨ρ,l,S,x,S1,sim,ro,h1,λρ1 H1 x' e1 s1 r1=>?_⟩
 cases r1 with
 | int i=>cases hm;exact ⟨i,rfl,p ρ1 H1 e1 s1⟩
 | _=>cases hm
end
end L3
namespace HT
open PySem PyProof.Rows
section
theorem getItem_tuple_whole {items:Array Value}{lo hi:Option Int}{Q:Value->Shared->Prop}(ht:IsTup s.heap t items) (hs:s.heap.IsSliceOf sl vl vu .none) (pl:IsPart vl lo) (pu:IsPart vu hi)
  (hw:sIx items.size 0 lo=0/\sIx items.size items.size hi=items.size)
  (h:Q (.ref t) s):wpAny (model prog w) A (getItem (.ref t) (.ref sl)) Q E s:=by
 obtain ⟨os,hos,hcs,hds⟩:=id hs
 have hTs:s.TypeIs (.ref sl) "slice":=⟨os,hos,hcs⟩
 unfold getItem
 try with_reducible refine wpAny_holding ?_
 first|refine qwb (qwp ?_)|skip
 refine qwb (wpAny_sequenceKey ht.typeIs (by decide) ?_)
 refine qwb (wpAny_callSpecial?_slot (name:=Str.ofString "__getitem__") ht.typeIs PyProof.Rows.slot_tuple_getitem
  (wpAny_call_entry PyProof.Rows.slot_tuple_getitem ht.typeIs entry_tuple_getitem ?_ (args_tuple_getitem _ _)))
 show wpAny _ _ (Builtin.Tuple.tupleItemsOf (.ref t) >>= _) _ _ s
 refine qwb (tupleItemsOf_ ht ?_)
 refine qwb (wpAny_typeOf hTs ?_)
 rw [if_pos (by decide)]
 refine qwb (znu hs pl pu ?_)
 have hyes:((((sIx items.size 0 lo:Nat):Int) == 0 && (1:Int) == 1 && (sIx items.size items.size hi-sIx items.size 0 lo) == items.size)=true):=by
  rw [hw.1,hw.2];simp
 show wpAny _ _ (if (((sIx items.size 0 lo:Nat):Int) == 0 && (1:Int) == 1 && (sIx items.size items.size hi-sIx items.size 0 lo) == items.size)=true then _ else _) _ _ s
 rw [if_pos hyes]
 unfold Builtin.Tuple.tupleIsExact
 refine qwb (qwb (wpAny_typeOf ht.typeIs (qwp ?_)))
 rw [if_pos (by decide)]
 exact qwb (wpAny_rule (qwb (qwp (qwp ⟨_,rfl,qwp h⟩))))
end
end HT
namespace L3
open PySem PySem.Spec PyProof.Rows L2
section
variable {lo hi:Option Expr}{ml mh:OM}
def zyw (K:QFg):V->Option Int->Option Int->Hp->VK->Prop:=λx lo hi H Q=>∃a xs,x=.ref a/\SqT K H a xs /\
 (HT.sIx xs.length 0 lo=0/\HT.sIx xs.length xs.length hi=xs.length)/\Q (.ref a) H
theorem zyx:SlR X (zyw X.K):=by
 intro pins s σ H x v vl vu lo hi sl Q I rx hs pl pu h
 obtain ⟨a,xs,rfl,hx,hw,q⟩:=h
 cases rx
 obtain ⟨its,r,ht,hz⟩:=I.tuple hx
 have hlen:its.toArray.size=xs.length:=by rw [List.size_toArray];exact r.length.symm
 refine ⟨"tuple",_,PyProof.Rows.slot_tuple_getitem.lookup,ht.typeIs,?_⟩
 exact HT.getItem_tuple_whole ht hs pl pu (by rw [hlen];exact hw) ⟨.ref a,H,I,rfl,q⟩
theorem zyy (xs:List D) (lo hi:Option Int) (h:HT.sIx xs.length 0 lo=0/\HT.sIx xs.length xs.length hi=xs.length):zch xs lo hi=xs:=by
 unfold zch;rw [h.1,h.2];simp
end
noncomputable def zk0:D->D->Sto->Option (D × Sto)
 | .tup xs,.tup ys,S=>if xs.length+ys.length<=sizeLine then some (.tup (xs++ys),S) else none
 | _,_,_=>none
def zk1 (K:QFg):R2:=λx y H Q=>∃a b ys,x=.ref a/\y=.ref b/\SqT K H a []/\SqT K H b ys/\Q (.ref b) H
theorem zyz:OpR X (binaryOp .Add) (zk1 X.K):=by
 intro pins s σ H x y v u Q I rx ry h
 obtain ⟨a,b,ys,rfl,rfl,ha,hb,q⟩:=h
 cases rx
 cases ry
 obtain ⟨its,r1,p1,_⟩:=I.tuple ha
 obtain ⟨its2,r2,p2,_⟩:=I.tuple hb
 cases r1
 obtain ⟨⟨cls,dd,data,sl⟩,ho,hc,n,hd⟩:=id p1
 obtain ⟨⟨cls2,dd2,data2,sl2⟩,ho2,hc2,n2,hd2⟩:=id p2
 simp only at hc hd hc2 hd2
 subst hc hd hc2 hd2
 exact concat_meets ⟨_,ho,rfl⟩ ⟨_,ho2,rfl⟩ noFill_tuple_add seq_tuple_add PySem.F.slot_tuple_add PySem.F.entry_tuple_add (PySem.F.args_tuple_add_2 _ _)
   (tuple_addW0 a b ([]:List Value).toArray its2.toArray n n2 dd dd2 sl sl2 (by simp)) ⟨ho,ho2,⟨.ref b,H,I,rfl,q⟩⟩
theorem zy0 {K:QFg}:Op3 K zk0 (λx y H Q=>zg7 K x y H Q\/zk1 K x y H Q):=by
 intro ρ S H x y x' y' v S' Q sim rx ry h p
 unfold zk0 at h
 split at h
 ·obtain ⟨hz,e⟩:=za1 h
  cases e
  cases rx with
  | @tup xs a vs ha r =>
   cases ry with
   | @tup ys b ws hb q =>
    cases r with
    | nil=>exact .inr ⟨a,b,ws,rfl,rfl,SqT.of ha,SqT.of hb,p ρ H _ (Ext.refl ..) sim (.tup hb q)⟩
    | cons r1 r2 =>
     refine .inl ⟨a,b,_,ws,rfl,rfl,SqT.of ha,SqT.of hb,by simp,by rw [<-(RDs.cons r1 r2).length,<-q.length];exact hz,λe=>?_,λ_=>?_⟩
     ·subst e
      cases q
      rw [List.append_nil] at p
      exact p ρ H _ (Ext.refl ..) sim (.tup ha (.cons r1 r2))
     ·exact zf6 sim ((RDs.cons r1 r2).append q) p
 ·cases h
section
end
noncomputable def zhj:FM
 | [.tup xs],S=>some (.int xs.length,S)
 | [.ref n],S=>(lstOf S n).bind λxs=>some (.int xs.length,S)
 | _,_=>none
noncomputable def zfj:FM
 | [.int i],S=>some (.int (if i<0 then -i else i),S)
 | _,_=>none
noncomputable def zk2:FM
 | [.int i],S=>some (.int i,S)
 | [.bl b],S=>some (.int (if b then 1 else 0),S)
 | _,_=>none
noncomputable def zdp:FM
 | [.tup xs],S=>some (.tup xs,S)
 | [.ref n],S=>(lstOf S n).bind λxs=>some (.tup xs,S)
 | _,_=>none
section
variable {K:QFg}
theorem zy1:Fn3 K zhj (λxs H Q=>∃p ys,xs=[.ref p]/\(SqL K H p ys\/SqT K H p ys)/\Q (.int ys.length) H):=by
 intro ρ S H xs vs v S' Q sim r h p
 unfold zhj at h
 split at h
 ·cases h
  obtain ⟨w,rfl,rw'⟩:=r.one
  cases rw' with
  | tup ha r2=>exact ⟨_,_,rfl,.inr (SqT.of ha),by rw [<-r2.length];exact p ρ H _ (Ext.refl ..) sim (.int _)⟩
 ·obtain ⟨ys,h1,h⟩:=bnd h
  cases h
  obtain ⟨w,rfl,rw'⟩:=r.one
  obtain ⟨a,us,ha,sq,r2⟩:=sim.lstOf h1
  cases rw' with
  | ref hn =>
   rw [ha] at hn;cases hn
   exact ⟨_,_,rfl,.inl sq,by rw [<-r2.length];exact p ρ H _ (Ext.refl ..) sim (.int _)⟩
 ·cases h
theorem zy2:Fn3 K zfj (λxs H Q=>∃i,xs=[.int i]/\Q (.int (if i<0 then -i else i)) H):=by
 intro ρ S H xs vs v S' Q sim r h p
 unfold zfj at h
 split at h
 ·cases h
  obtain ⟨w,rfl,rw'⟩:=r.one
  cases rw'
  exact ⟨_,rfl,p ρ H _ (Ext.refl ..) sim (.int _)⟩
 ·cases h
theorem zy3:Fn3 K zk2 (λxs H Q=>(∃i,xs=[.int i]/\Q (.int i) H)\/∃k,xs=[.bl k]/\Q (.int (if k then 1 else 0)) H):=by
 intro ρ S H xs vs v S' Q sim r h p
 unfold zk2 at h
 split at h
 ·cases h
  obtain ⟨w,rfl,rw'⟩:=r.one
  cases rw'
  exact .inl ⟨_,rfl,p ρ H _ (Ext.refl ..) sim (.int _)⟩
 ·cases h
  obtain ⟨w,rfl,rw'⟩:=r.one
  cases rw'
  exact .inr ⟨_,rfl,p ρ H _ (Ext.refl ..) sim (.int _)⟩
 ·cases h
theorem zy4:Fn3 K zdp (λxs H Q=>∃p ys,xs=[.ref p]/\((SqL K H p ys/\∀l,H l=none->Q (.ref l) (upd H l (.tup ys)))\/(SqT K H p ys/\Q (.ref p) H))):=by
 intro ρ S H xs vs v S' Q sim r h p
 unfold zdp at h
 split at h
 ·cases h
  obtain ⟨w,rfl,rw'⟩:=r.one
  cases rw' with
  | tup ha r2=>exact ⟨_,_,rfl,.inr ⟨SqT.of ha,p ρ H _ (Ext.refl ..) sim (.tup ha r2)⟩⟩
 ·obtain ⟨ys,h1,h⟩:=bnd h
  cases h
  obtain ⟨w,rfl,rw'⟩:=r.one
  obtain ⟨a,us,ha,sq,r2⟩:=sim.lstOf h1
  cases rw' with
  | ref hn =>
   rw [ha] at hn;cases hn
   exact ⟨_,_,rfl,.inl ⟨sq,zf6 sim r2 p⟩⟩
 ·cases h
end
noncomputable def zb7:D->List D->Sto->Option (D × Sto)
 | .ref n,[x],S=>match S[n]? with
  | some (.lst xs)=>if xs.length<sizeLine then some (.non,S.set n (.lst (xs++[x]))) else none
  | _=>none
 | _,_,_=>none
noncomputable def zex:D->List D->Sto->Option (D × Sto)
 | .ref n,[],S=>match S[n]? with
  | some (.lst xs)=>some (.non,S.set n (.lst xs.reverse))
  | _=>none
 | _,_,_=>none
noncomputable def zfk:D->List D->Sto->Option (D × Sto)
 | .ref n,[],S=>match S[n]? with
  | some (.lst xs)=>(xs[xs.length-1]?).bind λy=>some (y,S.set n (.lst xs.dropLast))
  | _=>none
 | _,_,_=>none
theorem RDs.dropLast (h:RDs ρ H xs vs):RDs ρ H xs.dropLast vs.dropLast:=by
 rw [List.dropLast_eq_take,List.dropLast_eq_take,h.length]
 exact h.take _
section
variable {K:QFg}
theorem zy5:Mt3 K zb7 zn4:=by
 intro ρ S H x x' xs vs v S' Q sim rx r h p
 unfold zb7 at h
 split at h
 ·split at h
  ·rename_i n y S ys e
   obtain ⟨hz,e2⟩:=za1 h
   cases e2
   obtain ⟨w,rfl,rw'⟩:=r.one
   obtain ⟨a,us,ha,hH,r2⟩:=sim.lst e
   cases rx with
   | ref hn =>
    rw [ha] at hn;cases hn
    exact ⟨a,us,w,rfl,rfl,hH,by rw [<-r2.length];exact hz,p ρ _ _ (zhe ha hH) (sim.set ha e hH (r2.append (.cons rw' .nil))) .non⟩
  ·cases h
 ·cases h
theorem zy6:Mt3 K zex zn6:=by
 intro ρ S H x x' xs vs v S' Q sim rx r h p
 unfold zex at h
 split at h
 ·split at h
  ·rename_i n S ys e
   cases h
   cases r
   obtain ⟨a,us,ha,hH,r2⟩:=sim.lst e
   cases rx with
   | ref hn =>
    rw [ha] at hn;cases hn
    exact ⟨a,us,rfl,rfl,hH,p ρ _ _ (zhe ha hH) (sim.set ha e hH r2.reverse) .non⟩
  ·cases h
 ·cases h
theorem zy7:Mt3 K zfk zn5:=by
 intro ρ S H x x' xs vs v S' Q sim rx r h p
 unfold zfk at h
 split at h
 ·split at h
  ·rename_i n S ys e
   obtain ⟨y,h1,h⟩:=bnd h
   cases h
   cases r
   obtain ⟨a,us,ha,hH,r2⟩:=sim.lst e
   obtain ⟨w,hw,rw'⟩:=r2.get h1
   cases rx with
   | ref hn =>
    rw [ha] at hn;cases hn
    exact ⟨a,us,w,rfl,rfl,hH,by rw [<-r2.length];exact hw,p ρ _ _ (zhe ha hH) (sim.set ha e hH r2.dropLast) (rw'.mono (zhe ha hH))⟩
  ·cases h
 ·cases h
end
noncomputable def zf9:D->Sto->Option (List D)
 | .ref n,S=>lstOf S n
 | _,_=>none
noncomputable def zbi (f:D->List D->Sto->Option (D × Sto)) (o:EM) (as:AM):EM:=λl S=>(o l S).bind λp=>(zf9 p.1 p.2).bind λ_=>(as l p.2).bind λq=>f p.1 q.1 q.2
section
variable {id:String}{f:D->List D->Sto->Option (D × Sto)}{r:V->List V->Hp->VK->Prop}
theorem zoy {K:QFg}{ρ:List Addr}{S:Sto}{H:Hp}{x:D}{x':V}{xs:List D}(sim:Sim K ρ S H) (rx:RD ρ H x x') (h:zf9 x S=some xs):tyV K "list" x' H:=by
 unfold zf9 at h
 split at h
 ·obtain ⟨a,us,ha,sq,r2⟩:=sim.lstOf h
  cases rx with
  | ref hn =>
   rw [ha] at hn;cases hn
   exact .inl ⟨rfl,us,sq⟩
 ·cases h
theorem zoz (slot:Slot "list" name id) (hty:typeOf (.builtin id)=pure (.type "method_descriptor")) (hm:MtM X id r) (h3:Mt3 X.K f r) (ho:PE3 X o mo) (ha:PA3 X (e :: es) mA)
  (hbase:attributeBase o name X.env (eval o X.env)=eval o X.env:=by rfl)
  (hfew:((backTo cpos (starEach (e :: es) X.env)).all (λx=>!x.1) && (backToKw cpos (keywordEach [] X.env)).all (λx=>x.1.isSome)
   && decide ((e :: es).length+([]:List Keyword).length+(if ([]:List Keyword).isEmpty then 0 else 1)<30))=true:=by rfl)
  (hline:(apos.endLine == cpos.line)=true:=by rfl) (hs:starEach (e :: es) X.env=(false,eval e X.env) :: starEach es X.env:=by rfl) (hplain:(backTo cpos (starEach es X.env)).any (·.1)=false:=by rfl) :
  PE3 X (.Call (.Attribute o name apos) (e :: es) [] cpos) (zbi f mo mA) :=
 PE.imp (zxs PySem.F.plainAttrs_list slot hty hm ho ha hbase hfew hline hs hplain) λσ H Q hx1_=>by
  obtain ⟨ρ,l,S,v,S',sim,ro,hq,p⟩:=hx1_
  obtain ⟨⟨x,S1⟩,h1,hq⟩:=bnd hq
  obtain ⟨xs,h2,hq⟩:=bnd hq
  obtain ⟨⟨ys,S2⟩,h4,hq⟩:=bnd hq
  exact ⟨ρ,l,S,x,S1,sim,ro,h1,λρ1 H1 x' e1 s1 r1=>⟨zoy s1 r1 h2,ρ1,l,S1,ys,S2,s1,ro.mono e1,h4,λρ2 H2 vs e2 s2 r2=>h3 ρ2 S2 H2 x x' ys vs v S' Q s2 (r1.mono e2) r2 hq (p.ext (e1.trans e2))⟩⟩
theorem zo0 (slot:Slot "list" name id) (hty:typeOf (.builtin id)=pure (.type "method_descriptor")) (hm:MtM X id r) (h3:Mt3 X.K f r) (ho:PE3 X o mo)
  (hbase:attributeBase o name X.env (eval o X.env)=eval o X.env:=by rfl) (hline:(apos.endLine == cpos.line)=true:=by rfl) :
  PE3 X (.Call (.Attribute o name apos) [] [] cpos) (zbi f mo zad) :=
 PE.imp (zn3 PySem.F.plainAttrs_list slot hty hm ho hbase hline) λσ H Q hx2_=>by
  obtain ⟨ρ,l,S,v,S',sim,ro,hq,p⟩:=hx2_
  obtain ⟨⟨x,S1⟩,h1,hq⟩:=bnd hq
  obtain ⟨xs,h2,hq⟩:=bnd hq
  obtain ⟨⟨ys,S2⟩,h4,hq⟩:=bnd hq
  cases h4
  exact ⟨ρ,l,S,x,S1,sim,ro,h1,λρ1 H1 x' e1 s1 r1=>⟨zoy s1 r1 h2,h3 ρ1 S1 H1 x x' [] [] v S' Q s1 r1 .nil hq (p.ext e1)⟩⟩
theorem zfl (ho:PE3 X o mo) (he:PE3 X e m)
  (hbase:attributeBase o "append" X.env (eval o X.env)=eval o X.env:=by rfl)
  (hfew:((backTo cpos (starEach [e] X.env)).all (λx=>!x.1) && (backToKw cpos (keywordEach [] X.env)).all (λx=>x.1.isSome)
   && decide ([e].length+([]:List Keyword).length+(if ([]:List Keyword).isEmpty then 0 else 1)<30))=true:=by rfl)
  (hline:(apos.endLine == cpos.line)=true:=by rfl) (hs:starEach [e] X.env=(false,eval e X.env) :: starEach [] X.env:=by rfl) :
  PE3 X (.Call (.Attribute o "append" apos) [e] [] cpos) (zbi zb7 mo (zab m zad)) :=
 zoz PySem.F.slot_list_append PySem.F.type_list_append zkr zy5 ho (zaf he zah hs) hbase hfew hline hs
theorem zy8 (ho:PE3 X o mo) (hbase:attributeBase o "reverse" X.env (eval o X.env)=eval o X.env:=by rfl) (hline:(apos.endLine == cpos.line)=true:=by rfl) :
  PE3 X (.Call (.Attribute o "reverse" apos) [] [] cpos) (zbi zex mo zad):=zo0 PySem.F.slot_list_reverse PySem.F.type_list_reverse zxw zy6 ho hbase hline
theorem zy9 (ho:PE3 X o mo) (hbase:attributeBase o "pop" X.env (eval o X.env)=eval o X.env:=by rfl) (hline:(apos.endLine == cpos.line)=true:=by rfl) :
  PE3 X (.Call (.Attribute o "pop" apos) [] [] cpos) (zbi zfk mo zad):=zo0 PySem.F.slot_list_pop PySem.F.type_list_pop zxv zy7 ho hbase hline
end
section
end
def sp3 (K:QFg) (n:Nat) (f:FM):Sp:=λvs H Q _=>vs.length=n/\∃ρ ds S v S',Sim K ρ S H/\RDs ρ H ds vs/\f ds S=some (v,S')/\Pv K ρ H v S' Q
section
theorem zza (F:FnOk X.prog X.w X.K X.mg X.base CX0 k f fd ps (sp3 X.K n m)) (hr:Room k X.A) (hg:Gl X x) (hm:X.mg x=some (.ref f)) (hk:PySem.W.keepIn X.K (.ref f)=true) (hb:Binds X.K fd ps [])
  (ha:PA3 X (a :: es) mA) (hl:∀l S v S',mA l S=some (v,S')->v.length=n) (hdb:(x == ("__debug__":Str))=false:=by decide) (he:starEach (a :: es) X.env=(false,eval a X.env) :: starEach es X.env:=by rfl) (hpl:(backTo pos (starEach es X.env)).any (·.1)=false:=by rfl) :
  PE3 X (.Call (.Name x p) (a :: es) [] pos) (zae m mA) :=
 PE.imp (zw3 F hr hg hm hk hb .nil zx3 ha hdb he hpl) λσ H Q hx3_=>by
  obtain ⟨ρ,l,S,v,S',sim,ro,hq,p⟩:=hx3_
  obtain ⟨⟨xs,S1⟩,h1,hq⟩:=bnd hq
  exact ⟨ρ,l,S,xs,S1,sim,ro,h1,λρ1 H1 vs e1 s1 r1=>⟨by rw [List.append_nil,<-r1.length];exact hl _ _ _ _ h1,ρ1,xs,S1,v,S',s1,by rw [List.append_nil];exact r1,hq,p.ext e1⟩⟩
theorem zbc:∀l S v S',zad l S=some (v,S')->v.length=0:=λl S v S' h=>by cases h;rfl
theorem zau {n:Nat}{m:EM}{mA:AM}(h:∀l S v S',mA l S=some (v,S')->v.length=n):∀l S v S',zab m mA l S=some (v,S')->v.length=n+1:=λl S v S' q=>by
 obtain ⟨⟨x,S1⟩,h1,q⟩:=bnd q
 obtain ⟨⟨y,S2⟩,h2,q⟩:=bnd q
 cases q
 rw [List.length_cons,h _ _ _ _ h2]
end
noncomputable def zcu:SM:=λl S=>some (.nx,l,S)
noncomputable def zai (a b:SM):SM:=λl S=>(a l S).bind λp=>match p.1 with
 | .nx=>b p.2.1 p.2.2
 | f=>some (f,p.2)
noncomputable def zb8 (e:EM):SM:=λl S=>(e l S).bind λp=>some (.nx,l,p.2)
noncomputable def zbp (e:EM):SM:=λl S=>(e l S).bind λp=>some (.rt p.1,l,p.2)
noncomputable def sIf (c:TM) (a b:SM):SM:=λl S=>(c l S).bind λp=>if p.1=true then a l p.2 else b l p.2
noncomputable def zak (e:EM) (g:GM):SM:=λl S=>(e l S).bind λp=>(g p.1 l p.2).bind λq=>some (.nx,q)
noncomputable def zag (i:Nat):GM:=λd l S=>some (l.set i (some d),S)
noncomputable def zcv:GsM
 | [],l,S=>some (l,S)
 | _,_,_=>none
noncomputable def zbl (g:GM) (r:GsM):GsM
 | x :: xs,l,S=>(g x l S).bind λp=>r xs p.1 p.2
 | _,_,_=>none
noncomputable def zcy (n:Nat) (g:GsM):GM
 | .tup xs,l,S=>if xs.length=n then g xs l S else none
 | _,_,_=>none
noncomputable def zeg:D->D->D->Sto->Option Sto
 | .ref n,.int i,v,S=>match S[n]? with
  | some (.lst xs)=>(ixN xs.length i).bind λj=>some (S.set n (.lst (xs.set j v)))
  | _=>none
 | _,_,_,_=>none
noncomputable def zga (o i:EM):GM:=λv l S=>(o l S).bind λp=>(i l p.2).bind λq=>(zeg p.1 q.1 v q.2).bind λS'=>some (l,S')
section
variable {st:Stmt}{rest:List Stmt}
theorem zeh:zcx X [] zcu:=PSs.imp zvf λE σ H hx1_=>by
 obtain ⟨ρ,l,S,f,l',S',sim,ro,hm,p⟩:=hx1_
 cases hm
 exact p ρ H σ (Ext.refl ..) sim ro
theorem zal (h1:PS3 X st m) (h2:zcx X rest n):zcx X (st :: rest) (zai m n):=PSs.imp (zm7 h1 h2) λE σ H hx2_=>by
 obtain ⟨ρ,l,S,f,l',S',sim,ro,hm,p⟩:=hx2_
 obtain ⟨⟨g,l1,S1⟩,q1,hm⟩:=bnd hm
 refine ⟨ρ,l,S,g,l1,S1,sim,ro,q1,λρ1 H1 σ1 e1 s1 r1=>?_⟩
 cases g with
 | nx=>exact ⟨ρ1,l1,S1,f,l',S',s1,r1,hm,λρ2 H2 σ2 e2 s2 r2=>p ρ2 H2 σ2 (e1.trans e2) s2 r2⟩
 | bk=>cases hm;exact p ρ1 H1 σ1 e1 s1 r1
 | ct=>cases hm;exact p ρ1 H1 σ1 e1 s1 r1
 | rt d=>cases hm;exact p ρ1 H1 σ1 e1 s1 r1
theorem za0 (h1:PS3 X st m):zcx X [st] m:=zvg h1
theorem zei (he:PE3 X e me) (hs:swapsWith e none pos.line X.env=pure false:=by rfl):PS3 X (.Expr e pos) (zb8 me):=PS.imp (zvi he hs) λE σ H hx6_=>by
 obtain ⟨ρ,l,S,f,l',S',sim,ro,hm,p⟩:=hx6_
 obtain ⟨⟨x,S1⟩,q1,hm⟩:=bnd hm
 cases hm
 exact ⟨ρ,l,S,x,_,sim,ro,q1,λρ1 H1 x' e1 s1 _=>p ρ1 H1 σ e1 s1 (ro.mono e1)⟩
theorem zb3 (he:PE3 X e me):PS3 X (.Return (some e) pos) (zbp me):=PS.imp (zvk he) λE σ H hx7_=>by
 obtain ⟨ρ,l,S,f,l',S',sim,ro,hm,p⟩:=hx7_
 obtain ⟨⟨x,S1⟩,q1,hm⟩:=bnd hm
 cases hm
 exact ⟨ρ,l,S,x,_,sim,ro,q1,λρ1 H1 x' e1 s1 r1=>p ρ1 H1 σ e1 s1 (ro.mono e1) x' r1⟩
theorem zd7 (hc:PT3 X c mc) (ha:zcx X a m) (hb:zcx X b n):PS3 X (.If c a b pos) (sIf mc m n):=PS.imp (zm8 hc ha hb) λE σ H hx9_=>by
 obtain ⟨ρ,l,S,f,l',S',sim,ro,hm,p⟩:=hx9_
 obtain ⟨⟨x,S1⟩,q1,hm⟩:=bnd hm
 refine ⟨ρ,l,S,x,S1,sim,ro,q1,λρ1 H1 e1 s1=>?_⟩
 cases x with
 | true=>exact zc2 ⟨ρ1,l,S1,f,l',S',s1,ro.mono e1,hm,λρ2 H2 σ2 e2 s2 r2=>p ρ2 H2 σ2 (e1.trans e2) s2 r2⟩
 | false=>exact zc1 ⟨ρ1,l,S1,f,l',S',s1,ro.mono e1,hm,λρ2 H2 σ2 e2 s2 r2=>p ρ2 H2 σ2 (e1.trans e2) s2 r2⟩
noncomputable def zk3:SM:=λ_ _=>none
theorem zzb:PS3 X st zk3:=PS.imp zvn λE σ H hx10_=>by obtain ⟨ρ,l,S,f,l',S',sim,ro,hm,p⟩:=hx10_;cases hm
theorem zaz (j:Nat) (hN:X.N.Nodup) (hi:X.N[j]? = some x:=by rfl) (hx:Loc X.env.scope x:=by first|exact Or.inl rfl|exact Or.inr rfl) (hf:X.fn x=true\/X.env.scope.names.lookup x=some .local:=by first|exact .inl rfl|exact .inr rfl|assumption):PG3 X (.Name x pos) (zag j) :=
 PG.imp (zvo hN hi hx hf) λv σ H Q hx11_=>by
  obtain ⟨ρ,l,S,d,l',S',sim,ro,rd,hm,p⟩:=hx11_
  cases hm
  exact p ρ H _ (Ext.refl ..) sim (ro.set j rd)
theorem zd8:zhf X [] zcv:=PGs.imp zvr λv σ H Q hx12_=>by
 obtain ⟨ρ,l,S,d,l',S',sim,ro,rd,hm,p⟩:=hx12_
 cases rd with
 | nil=>cases hm;exact ⟨rfl,p ρ H _ (Ext.refl ..) sim ro⟩
 | cons _ _=>cases hm
theorem zcc (h1:PG3 X tgt g) (h2:zhf X ts' gs) (hs:(assignEach (tgt :: ts') X.env).map (·.2)=assign tgt X.env :: (assignEach ts' X.env).map (·.2):=by rfl):zhf X (tgt :: ts') (zbl g gs):=PGs.imp (zvs h1 h2 hs) λv σ H Q hx13_=>by
 obtain ⟨ρ,l,S,d,l',S',sim,ro,rd,hm,p⟩:=hx13_
 cases rd with
 | nil=>cases hm
 | @cons x v' xs vs r1 r2 =>
  obtain ⟨⟨l1,S1⟩,q1,hm⟩:=bnd hm
  exact ⟨v',vs,rfl,ρ,l,S,x,l1,S1,sim,ro,r1,q1,λρ1 H1 σ1 e1 s1 ro1=>⟨ρ1,l1,S1,xs,l',S',s1,ro1,r2.mono e1,hm,λρ2 H2 σ2 e2 s2 ro2=>p ρ2 H2 σ2 (e1.trans e2) s2 ro2⟩⟩
theorem zej {k n:Nat}(hc:X.calm=true) (h:zhf X es gs) (hn:(assignEach es X.env).length=n:=by rfl) (hst:(assignEach es X.env).findIdx? (·.1)=none:=by rfl):PG3 X (.Tuple es k pos) (zcy n gs) :=
 PG.imp (zna hc h hn hst) λv σ H Q hx14_=>by
  obtain ⟨ρ,l,S,d,l',S',sim,ro,rd,hm,p⟩:=hx14_
  cases rd with
  | @tup xs a vs ha r =>
   have hm:(if xs.length=n then gs xs l S else none)=some (l',S'):=hm
   by_cases hl:xs.length=n
   ·rw [if_pos hl] at hm
    exact ⟨a,vs,rfl,SqT.of ha,by rw [<-r.length];exact hl,ρ,l,S,xs,l',S',sim,ro,r,hm,p⟩
   ·rw [if_neg hl] at hm;cases hm
  | _=>cases hm
theorem zzc {K:QFg}{ρ:List Addr}{S S':Sto}{H:Hp}{x y z:D}{x' y' z':V}{Q:Hp->Prop}(sim:Sim K ρ S H) (rx:RD ρ H x x') (ry:RD ρ H y y') (rz:RD ρ H z z') (h:zeg x y z S=some S') (q:∀H',Ext ρ H ρ H'->Sim K ρ S' H'->Q H'):rSetL x' y' z' H Q:=by
 unfold zeg at h
 split at h
 ·split at h
  ·rename_i hx
   obtain ⟨j,hj,h⟩:=bnd h
   cases h
   cases ry
   obtain ⟨a,us,ha',hH,r3⟩:=sim.lst hx
   cases rx with
   | ref hn =>
    rw [ha'] at hn;cases hn
    exact ⟨a,us,_,j,rfl,rfl,hH,by rw [<-r3.length];exact hj,q _ (zhe ha' hH) (sim.set ha' hx hH (r3.set rz j))⟩
  ·cases h
 ·cases h
theorem zk4 (ho:PE3 X o mo) (hi:PE3 X i mi)
  (ha:∀v,assign (.Subscript o i pos) X.env v=(do
   let ov <-holding [v] (eval o X.env)
   let iv <-holding [v,ov] (eval i X.env)
   standAt pos
   holding [v,ov,iv] (setItem ov iv v)
   release [v,ov,iv] []):=by intro _;rfl):PG3 X (.Subscript o i pos) (zga mo mi) :=
 PG.imp (zvv ho hi zxj ha) λv σ H Q hx15_=>by
  obtain ⟨ρ,l,S,d,l',S',sim,ro,rd,hm,p⟩:=hx15_
  obtain ⟨⟨x,S1⟩,q1,hm⟩:=bnd hm
  obtain ⟨⟨y,S2⟩,q2,hm⟩:=bnd hm
  obtain ⟨S3,q3,hm⟩:=bnd hm
  cases hm
  exact ⟨ρ,l,S,x,S1,sim,ro,q1,λρ1 H1 x' e1 s1 r1=>⟨ρ1,l,S1,y,S2,s1,ro.mono e1,q2,λρ2 H2 y' e2 s2 r2=>zzc s2 (r1.mono e2) r2 (rd.mono (e1.trans e2)) q3 λH3 e3 s3=>p ρ2 H3 σ (e1.trans (e2.trans e3)) s3 (ro.mono (e1.trans (e2.trans e3)))⟩⟩
theorem zey (he:PE3 X e me) (hg:PG3 X tgt g) (hs:swapsWithSole [tgt] e pos.line X.env=pure false:=by rfl) (hw:swappedStores [tgt] e X.env=pure none:=by rfl)
  (h1:(assignEach [tgt] X.env).map (·.2)=[assign tgt X.env]:=by rfl):PS3 X (.Assign [tgt] e pos) (zak me g):=PS.imp (zvw he hg hs hw h1) λE σ H hx16_=>by
 obtain ⟨ρ,l,S,f,l',S',sim,ro,hm,p⟩:=hx16_
 obtain ⟨⟨x,S1⟩,q1,hm⟩:=bnd hm
 obtain ⟨⟨l2,S2⟩,q2,hm⟩:=bnd hm
 cases hm
 exact ⟨ρ,l,S,x,S1,sim,ro,q1,λρ1 H1 x' e1 s1 r1=>⟨ρ1,l,S1,x,_,_,s1,ro.mono e1,r1,q2,λρ2 H2 σ2 e2 s2 r2=>p ρ2 H2 σ2 (e1.trans e2) s2 r2⟩⟩
theorem zav (j:Nat) (hN:X.N.Nodup) (he:PE3 X e me) (hi:X.N[j]? = some x:=by rfl) (hx:Loc X.env.scope x:=by first|exact Or.inl rfl|exact Or.inr rfl) (hs:swapsWith e (some (.Name x pos')) pos.line X.env=pure false:=by rfl) (hf:X.fn x=true\/X.env.scope.names.lookup x=some .local:=by first|exact .inl rfl|exact .inr rfl|assumption) :
  PS3 X (.Assign [.Name x pos'] e pos) (zak me (zag j)):=PS.imp (zvx hN hi hx he hs hf) λE σ H hx17_=>by
 obtain ⟨ρ,l,S,f,l',S',sim,ro,hm,p⟩:=hx17_
 obtain ⟨⟨x,S1⟩,q1,hm⟩:=bnd hm
 cases hm
 exact ⟨ρ,l,S,x,_,sim,ro,q1,λρ1 H1 x' e1 s1 r1=>p ρ1 H1 _ e1 s1 ((ro.mono e1).set j r1)⟩
end
noncomputable def zde (g:GM) (b:SM):List D->SM
 | [],l,S=>some (.nx,l,S)
 | x :: xs,l,S=>(g x l S).bind λp=>(b p.1 p.2).bind λq=>match q.1 with
  | .nx=>zde g b xs q.2.1 q.2.2
  | .ct=>zde g b xs q.2.1 q.2.2
  | .bk=>some (.nx,q.2)
  | .rt d=>some (.rt d,q.2)
noncomputable def zdf (g:GM) (b:SM) (n:Nat):Nat->Nat->SM
 | 0,_,_,_=>none
 | k+1,i,l,S=>(lstOf S n).bind λxs=>match xs[i]? with
  | none=>some (.nx,l,S)
  | some x=>(g x l S).bind λp=>(b p.1 p.2).bind λq=>match q.1 with
   | .nx=>zdf g b n k (i+1) q.2.1 q.2.2
   | .ct=>zdf g b n k (i+1) q.2.1 q.2.2
   | .bk=>some (.nx,q.2)
   | .rt d=>some (.rt d,q.2)
noncomputable def zc3 (e:EM) (g:GM) (b:SM):SM:=λl S=>(e l S).bind λp=>match p.1 with
 | .tup xs=>zde g b xs l p.2
 | .ref n=>(lstOf p.2 n).bind λxs=>zdf g b n (xs.length+1) 0 l p.2
 | _=>none
noncomputable def zas (lo:Int) (n:Nat):List D:=(List.range n).map λ(i:Nat)=>.int (lo+i)
noncomputable def zbj (as:AM):Lo->Sto->Option ((Int × Nat) × Sto):=λl S=>(as l S).bind λp=>match p.1 with
 | [.int j]=>if -(2 ^ 62)<=j/\j<2 ^ 62 then some ((0,j.toNat),p.2) else none
 | _=>none
noncomputable def zgb (as:AM):Lo->Sto->Option ((Int × Nat) × Sto):=λl S=>(as l S).bind λp=>match p.1 with
 | [.int i,.int j]=>if -(2 ^ 62)<=i/\i<2 ^ 62/\-(2 ^ 62)<=j/\j<2 ^ 62 then some ((i,(j-i).toNat),p.2) else none
 | _=>none
noncomputable def zd9 (r:Lo->Sto->Option ((Int × Nat) × Sto)) (g:GM) (b:SM):SM:=λl S=>(r l S).bind λp=>zde g b (zas p.1.1 p.1.2) l p.2
section
variable {K:QFg}{g:GM}{b:SM}{E:Ends}
theorem zo1 {next:SM}{x:D}{v:V}{ρ:List Addr}{l:Lo}{S:Sto}{H:Hp}{σ:St}{f:Fl}{l':Lo}{S':Sto}(sim:Sim K ρ S H) (ro:RO ρ H l σ) (rx:RD ρ H x v)
  (hm:((g x l S).bind λp=>(b p.1 p.2).bind λq=>match q.1 with
   | .nx=>next q.2.1 q.2.2
   | .ct=>next q.2.1 q.2.2
   | .bk=>some (.nx,q.2)
   | .rt d=>some (.rt d,q.2))=some (f,l',S')) (p:∀ρ' H' σ',Ext ρ H ρ' H'->Sim K ρ' S' H'->RO ρ' H' l' σ'->zff ρ' H' E σ' f)
  {N:St->Hp->Prop} (hN:∀ρ1 H1 σ1 l1 S1,Ext ρ H ρ1 H1->Sim K ρ1 S1 H1->RO ρ1 H1 l1 σ1->next l1 S1=some (f,l',S')->N σ1 H1) :
  tg K g v σ H λσ2 H2=>ts K b { E with nx:=N,ct:=N,bk:=E.nx } σ2 H2:=by
 obtain ⟨⟨l1,S1⟩,q1,hm⟩:=bnd hm
 obtain ⟨⟨fl,l2,S2⟩,q2,hm⟩:=bnd hm
 refine ⟨ρ,l,S,x,l1,S1,sim,ro,rx,q1,λρ1 H1 σ1 e1 s1 r1=>⟨ρ1,l1,S1,fl,l2,S2,s1,r1,q2,λρ2 H2 σ2 e2 s2 r2=>?_⟩⟩
 cases fl with
 | nx=>exact hN ρ2 H2 σ2 l2 S2 (e1.trans e2) s2 r2 hm
 | ct=>exact hN ρ2 H2 σ2 l2 S2 (e1.trans e2) s2 r2 hm
 | bk=>cases hm;exact p ρ2 H2 σ2 (e1.trans e2) s2 r2
 | rt d=>cases hm;exact p ρ2 H2 σ2 (e1.trans e2) s2 r2
end
section
variable {X:Cx}{tgt iter:Expr}{body:List Stmt}{g:GM}{b:SM}{m:EM}{pos:Pos}
theorem zo2 {K:QFg}{J:It}{vs:List V}{xs:List D}{ρ:List Addr}{l:Lo}{S:Sto}{H:Hp}{σ:St}{f:Fl}{l':Lo}{S':Sto}{E:Ends}(R:List Addr->Hp->Prop) (hR:∀ρ H ρ' H',Ext ρ H ρ' H'->R ρ H->R ρ' H')
  (hgo:∀(i:Nat) ρ H v,R ρ H->vs[i]? = some v->J.go i H) (hy:∀(i:Nat) ρ H v H',R ρ H->i<vs.length->J.yld i H v H'->H' = H/\vs[i]? = some v) (hst:∀ρ H,R ρ H->J.stop vs.length H)
  (hv:∀ρ H,R ρ H->RDs ρ H xs vs) (r0:R ρ H)
  (sim:Sim K ρ S H) (ro:RO ρ H l σ) (hm:zde g b xs l S=some (f,l',S')) (p:∀ρ' H' σ',Ext ρ H ρ' H'->Sim K ρ' S' H'->RO ρ' H' l' σ'->zff ρ' H' E σ' f) :
  ∃W:Nat->Nat->St->Hp->Prop,(∃m,W 0 m σ H)/\∀i m σ H,W i m σ H ->
   (J.stop i H/\E.nx σ H)\/(J.go i H/\∃N:St->Hp->Prop,(∀σ' H',N σ' H'->∃m',m' < m/\W (i+1) m' σ' H')/\∀x H',J.yld i H x H'->tg K g x σ H' λσ2 H2=>ts K b { E with nx:=N,ct:=N,bk:=E.nx } σ2 H2):=by
 refine ⟨λi m σ1 H1=>m=xs.length-i/\i<=xs.length/\∃ρ1 l1 S1,Ext ρ H ρ1 H1/\Sim K ρ1 S1 H1/\RO ρ1 H1 l1 σ1/\zde g b (xs.drop i) l1 S1=some (f,l',S'),⟨xs.length,by simp,Nat.zero_le _,ρ,l,S,Ext.refl ..,sim,ro,hm⟩,?_⟩
 rintro i m σ1 H1 ⟨rfl,hi,ρ1,l1,S1,e1,s1,ro1,hm1⟩
 have R1:=hR _ _ _ _ e1 r0
 have hlen:=(hv _ _ r0).length
 by_cases hlt:i<xs.length
 ·have hx:xs[i]? = some xs[i]:=qge hlt
  obtain ⟨v,hvi,rv⟩:=(hv _ _ R1).get hx
  rw [List.drop_eq_getElem_cons hlt] at hm1
  refine .inr ⟨hgo i ρ1 H1 v R1 hvi,_,λσ' H' h=>h,λy H' hyl=>?_⟩
  obtain ⟨e,hy2⟩:=hy i ρ1 H1 y H' R1 (by omega) hyl
  subst e
  rw [hvi] at hy2;cases hy2
  refine zo1 (next:=zde g b (xs.drop (i+1))) s1 ro1 rv hm1 (λρ' H' σ' e'=>p ρ' H' σ' (e1.trans e')) λρ2 H2 σ2 l2 S2 e2 s2 ro2 hm2=>?_
  exact ⟨xs.length-(i+1),by omega,rfl,hlt,ρ2,l2,S2,e1.trans e2,s2,ro2,hm2⟩
 ·have hil:i=xs.length:=by omega
  subst hil
  rw [List.drop_length] at hm1
  cases hm1
  exact .inl ⟨by rw [hlen];exact hst _ _ R1,p ρ1 H1 σ1 e1 s1 ro1⟩
theorem zzd (ρ:List Addr) (H:Hp) (lo:Int) (n:Nat):RDs ρ H (zas lo n) ((List.range n).map λ(i:Nat)=>V.int (lo+i)):=by
 unfold zas
 generalize List.range n=l
 induction l with
 | nil=>exact .nil
 | cons a r ih=>exact .cons (.int _) ih
theorem zze {lo:Int}{n i:Nat}(h:i<n) (hv:v=.int (lo+i)):((List.range n).map λ(i:Nat)=>V.int (lo+i))[i]? = some v:=by
 rw [qgm,List.getElem?_range h,hv];rfl
theorem PI.or (h:PI X tgt iter wi) (h':PI X tgt iter wj):PI X tgt iter (λσ H R=>wi σ H R\/wj σ H R):=by
 intro pins s σ H R I q
 rcases q with q|q
 ·exact h pins s σ H R I q
 ·exact h' pins s σ H R I q
theorem zzf {K:QFg}{n:Nat}{a:Addr}{ρ:List Addr}{l:Lo}{S:Sto}{H:Hp}{σ:St}{f:Fl}{l':Lo}{S':Sto}{E:Ends}{k:Nat}(ha:ρ[n]? = some a)
  (sim:Sim K ρ S H) (ro:RO ρ H l σ) (hm:zdf g b n k 0 l S=some (f,l',S')) (p:∀ρ' H' σ',Ext ρ H ρ' H'->Sim K ρ' S' H'->RO ρ' H' l' σ'->zff ρ' H' E σ' f) :
  ∃W:Nat->Nat->St->Hp->Prop,(∃m,W 0 m σ H)/\∀i m σ H,W i m σ H ->
   ((Itl K a).stop i H/\E.nx σ H)\/((Itl K a).go i H/\∃N:St->Hp->Prop,(∀σ' H',N σ' H'->∃m',m' < m/\W (i+1) m' σ' H')/\∀x H',(Itl K a).yld i H x H'->tg K g x σ H' λσ2 H2=>ts K b { E with nx:=N,ct:=N,bk:=E.nx } σ2 H2):=by
 refine ⟨λi m σ1 H1=>∃ρ1 l1 S1,Ext ρ H ρ1 H1/\Sim K ρ1 S1 H1/\RO ρ1 H1 l1 σ1/\zdf g b n m i l1 S1=some (f,l',S'),⟨k,ρ,l,S,Ext.refl ..,sim,ro,hm⟩,?_⟩
 rintro i m σ1 H1 ⟨ρ1,l1,S1,e1,s1,ro1,hm1⟩
 cases m with
 | zero=>cases hm1
 | succ m =>
  have ha1:=e1.pre n a ha
  unfold zdf at hm1
  obtain ⟨xs,hx,hm1⟩:=bnd hm1
  obtain ⟨a',vs,ha',sq,rv⟩:=s1.lstOf hx
  rw [ha1] at ha';cases ha'
  cases hi:xs[i]? with
  | none =>
   rw [hi] at hm1
   cases hm1
   have hl:xs.length<=i:=List.getElem?_eq_none_iff.mp hi
   exact .inl ⟨⟨vs,sq,by rw [<-rv.length];exact hl⟩,p ρ1 H1 σ1 e1 s1 ro1⟩
  | some x =>
   rw [hi] at hm1
   obtain ⟨v,hvi,r⟩:=rv.get hi
   refine .inr ⟨⟨vs,v,sq,hvi⟩,_,λσ' H' h=>h,λy H' hyl=>?_⟩
   obtain ⟨e,hy2⟩:=hyl
   subst e
   have hy3:=hy2 vs sq
   rw [hvi] at hy3;cases hy3
   refine zo1 (next:=zdf g b n m (i+1)) s1 ro1 r hm1 (λρ' H' σ' e'=>p ρ' H' σ' (e1.trans e')) λρ2 H2 σ2 l2 S2 e2 s2 ro2 hm2=>?_
   exact ⟨m,Nat.lt_succ_self m,ρ2,l2,S2,e1.trans e2,s2,ro2,hm2⟩
theorem zgc (hp:PassesOwn (model X.prog X.w) X.A X.env X.xe) (hc:X.calm=true) (hi:PE3 X iter m) (hg:PG3 X tgt g) (hb:zcx X body b)
  (hs:∀x,foldedSetIterable iter X.env x=pure x:=by intro _;rfl):PS3 X (.For tgt iter body [] pos) (zc3 m g b) :=
 PS.imp (zne hp hc (PI.or (znb hi) (zkh hi)) hg hb hs) λE σ H hx18_=>by
  obtain ⟨ρ,l,S,f,l',S',sim,ro,hm,p⟩:=hx18_
  obtain ⟨⟨x,S1⟩,q1,hm⟩:=bnd hm
  dsimp only at hm
  split at hm
  ·rename_i xs
   refine .inr ⟨ρ,l,S,.tup xs,S1,sim,ro,q1,λρ1 H1 x' e1 s1 r1=>?_⟩
   cases r1 with
   | @tup xs a vs ha r =>
    refine ⟨a,rfl,⟨vs,SqT.of ha⟩,zo2 (vs:=vs) (λρ' H'=>H' a=some (.tup vs)/\RDs ρ' H' xs vs) (λρ H ρ' H' e ⟨h1,h2⟩=>⟨e.tup _ _ h1,h2.mono e⟩)
     (λi ρ H v ⟨h1,_⟩ hv=>⟨vs,v,SqT.of h1,hv⟩) (λi ρ H v H' ⟨h1,_⟩ _ hy=>⟨hy.1,hy.2 vs (SqT.of h1)⟩) (λρ H ⟨h1,_⟩=>⟨vs,SqT.of h1,qlr _⟩) (λρ H h=>h.2) ⟨ha,r⟩ s1 (ro.mono e1) hm λρ' H' σ' e'=>p ρ' H' σ' (e1.trans e')⟩
  ·rename_i n
   obtain ⟨xs,hx,hm⟩:=bnd hm
   refine .inl ⟨ρ,l,S,.ref n,S1,sim,ro,q1,λρ1 H1 x' e1 s1 r1=>?_⟩
   obtain ⟨a,vs,ha,sq,rv⟩:=s1.lstOf hx
   cases r1 with
   | ref hn =>
    rw [ha] at hn;cases hn
    exact ⟨a,rfl,⟨vs,sq⟩,zzf ha s1 (ro.mono e1) hm (λρ' H' σ' e'=>p ρ' H' σ' (e1.trans e'))⟩
  ·cases hm
theorem zhk {a:Expr}{mA:AM}{p0 pos':Pos}(hp:PassesOwn (model X.prog X.w) X.A X.env X.xe) (hc:X.calm=true) (hgl:Gl X "range") (hmg:X.mg "range" = none) (ha:PA3 X [a] mA) (hg:PG3 X tgt g) (hb:zcx X body b)
  (hs:∀x,foldedSetIterable (.Call (.Name "range" p0) [a] [] pos') X.env x=pure x:=by intro _;rfl) (hst:starEach [a] X.env=[(false,eval a X.env)]:=by rfl):PS3 X (.For tgt (.Call (.Name "range" p0) [a] [] pos') body [] pos) (zd9 (zbj mA) g b) :=
 PS.imp (zne hp hc (znd hgl hmg ha hst) hg hb hs) λE σ H hx19_=>by
  obtain ⟨ρ,l,S,f,l',S',sim,ro,hm,p⟩:=hx19_
  obtain ⟨⟨⟨lo,n⟩,S1⟩,q1,hm⟩:=bnd hm
  obtain ⟨⟨xs,S2⟩,q2,q1⟩:=bnd q1
  dsimp only at q1 hm
  split at q1
  ·rename_i j
   obtain ⟨hz,e⟩:=za1 q1
   cases e
   refine ⟨ρ,l,S,[.int j],S1,sim,ro,q2,λρ1 H1 vs e1 s1 r1=>?_⟩
   obtain ⟨v,rfl,rv⟩:=r1.one
   cases rv
   refine ⟨j,rfl,hz.1,hz.2,zo2 (vs:=(List.range j.toNat).map λ(i:Nat)=>V.int (0+i)) (λ_ _=>True) (λ_ _ _ _ _ h=>h) (λi ρ H v _ hv=>?_) (λi ρ H v H' _ hl hy=>⟨hy.1,?_⟩) (λρ H _=>?_) (λρ H _=>zzd ρ H 0 j.toNat) trivial s1 (ro.mono e1) hm λρ' H' σ' e'=>p ρ' H' σ' (e1.trans e')⟩
   ·have:=(qme hv).1
    simp at this
    show i<j.toNat
    omega
   ·obtain ⟨_,hy⟩:=hy
    exact zze (by simpa using hl) hy
   ·show j.toNat<=_
    simp
  ·cases q1
end
noncomputable def zby (n:Nat) (b:SM):FM:=λds S=>(b (ds.map some++List.replicate (n-ds.length) none) S).bind λp=>match p.1 with
 | .rt d=>some (d,p.2.2)
 | .nx=>some (.non,p.2.2)
 | _=>none
theorem RDs.locals (r:RDs ρ H ds vs) (N:List Str):RO ρ H (ds.map some++List.replicate (N.length-ds.length) none) (L2.start N vs):=by
 unfold L2.start
 rw [<-r.length]
 refine ⟨by simp [r.length],λi d h=>?_⟩
 by_cases hl:i<ds.length
 ·rw [List.getElem?_append_left (by simpa using hl),qgm] at h
  cases e:ds[i]? with
  | none=>rw [e] at h;cases h
  | some d' =>
   rw [e] at h
   have h':some (some d')=some (some d):=h
   cases h'
   obtain ⟨v,h1,h2⟩:=r.get e
   exact ⟨v,by rw [List.getElem?_append_left (by rw [qlm,<-r.length];exact hl),qgm,h1];rfl,h2⟩
 ·rw [List.getElem?_append_right (by simpa using hl),List.getElem?_replicate] at h
  split at h
  ·cases h
  ·cases h
theorem zo3 {P:Program}{w:World}{K:QFg}{mg:Str->Option Value}{base:Heap}{x qual:Str}{st:Stmt}{f:Addr}{fd:FuncData}{N ps:List Str}{k n:Nat}{b:SM}(F:Fun K x qual st f fd) (S:FnScope N ps (zaq st)) (hn:ps.length=n)
  (hbody:∀(cdv:Value),PySem.W.codeIn K cdv qual=true->∀(A:Around) (outer:List Env) (s:Shared) (H:Hp) (E:XK),Room k (A.deeper (envOfC qual (zaq st) s.heap.objs.size f cdv)) ->
   zcx (zb2 CX0 P w K mg base N qual (zaq st) f cdv A outer s H E).nox (zdd st) b):FnOk P w K mg base CX0 (k+1) f fd ps (sp3 K n (zby N.length b)):=by
 obtain ⟨oc,od,kV,doc,pm,an,cdv,ct,osl,rfl,lk,hcd⟩:=F.ex
 refine znr lk hcd S (λvs H Q E h=>by rw [h.1,hn]) λA outer s H vs Q E hr h=>?_
 obtain ⟨hl,ρ,ds,S0,v,S',sim,rd,hm,p⟩:=h
 refine ⟨_,PSs.nox (hbody cdv hcd A outer s H E hr),?_⟩
 obtain ⟨⟨fl,l',S1⟩,q,hm⟩:=bnd hm
 refine ⟨ρ,_,S0,fl,l',S1,sim,rd.locals N,q,λρ' H' σ' e' s' r'=>?_⟩
 cases fl with
 | nx=>cases hm;exact p ρ' H' _ e' s' .non
 | rt d=>cases hm;exact λv' rv=>p ρ' H' v' e' s' rv
 | bk=>cases hm
 | ct=>cases hm
noncomputable def zbt (env:Env):List (Str × NameKind)->List (Str × Addr)->List (Str × Addr)
 | [],cs=>cs
 | (n,k) :: r,cs=>if k == .free then (match env.cells.lookup n with|some c=>zbt env r ((n,c) :: cs)|none=>zbt env r cs) else zbt env r cs
theorem zo4 (env:Env):∀(names:List (Str × NameKind)) (cs:List (Str × Addr)),(∀x∈names,x.2=.free->∃c,env.cells.lookup x.1=some c) ->
  (forIn names cs (λx r=>if (x.2 == NameKind.free)=true then do let c <-cellOf env x.1;pure (ForInStep.yield ((x.1,c) :: r)) else pure (ForInStep.yield r)):Sem (List (Str × Addr)))=pure (zbt env names cs)
 | [],cs,_=>rfl
 | (n,k) :: r,cs,h=>by
  have ih:=λcs=>zo4 env r cs λx hx=>h x (List.mem_cons_of_mem _ hx)
  rw [List.forIn_cons]
  by_cases hk:k=.free
  ·subst hk
   obtain ⟨c,hc⟩:=h (n,.free) List.mem_cons_self rfl
   simp only [beq_self_eq_true,if_true,cellOf,hc,zbt,pure_bind,bind_assoc]
   exact ih _
  ·have hb:(k == NameKind.free)=false:=by simpa using hk
   simp only [hb,qbf,if_false,zbt,pure_bind]
   exact ih _
theorem zk5 (scope:Scope) (env:Env) (h:∀x∈scope.names,x.2=.free->∃c,env.cells.lookup x.1=some c):closureFor scope env=pure (zbt env scope.names []):=by
 have e:=zo4 env scope.names [] h
 unfold closureFor
 show (forIn scope.names ([]:List (Str × Addr)) (λ(x:Str × NameKind) (r:List (Str × Addr))=>if (x.2 == NameKind.free)=true then do let c <-cellOf env x.1;pure (ForInStep.yield ((x.1,c) :: r)) else pure (ForInStep.yield r)) >>= λcs=>pure cs)=_
 rw [e,pure_bind]
theorem zgd (env:Env):∀(names:List (Str × NameKind)) (cs:List (Str × Addr)),(∀x c,cs.lookup x=some c->env.cells.lookup x=some c)->∀x c,(zbt env names cs).lookup x=some c->env.cells.lookup x=some c
 | [],cs,h,x,c,q=>h x c q
 | (n,k) :: r,cs,h,x,c,q=>by
  unfold zbt at q
  split at q
  ·split at q
   ·rename_i c' e
    refine zgd env r _ (λy d hy=>?_) x c q
    rw [List.lookup_cons] at hy
    split at hy
    ·rename_i hb
     have:y=n:=by simpa using hb
     cases hy
     rw [this];exact e
    ·exact h y d hy
   ·exact zgd env r cs h x c q
  ·exact zgd env r cs h x c q
theorem zek (env:Env):∀(names:List (Str × NameKind)) (cs:List (Str × Addr)) (x:Str),((x,NameKind.free)∈names\/∃c,cs.lookup x=some c)->(∃c,env.cells.lookup x=some c)->∃c,(zbt env names cs).lookup x=some c
 | [],cs,x,h,_=>by
  rcases h with h|h
  ·cases h
  ·exact h
 | (n,k) :: r,cs,x,h,hx=>by
  unfold zbt
  by_cases hk:(k == NameKind.free)=true
  ·rw [if_pos hk]
   split
   ·rename_i c' e
    refine zek env r _ x ?_ hx
    by_cases hxn:x=n
    ·exact .inr ⟨c',by rw [hxn,List.lookup_cons];simp⟩
    ·rcases h with h|⟨c,h⟩
     ·rcases List.mem_cons.mp h with h|h
      ·cases h;exact absurd rfl hxn
      ·exact .inl h
     ·exact .inr ⟨c,by
       rw [List.lookup_cons]
       have:(x == n)=false:=by simpa using hxn
       rw [this];exact h⟩
   ·rename_i e
    refine zek env r _ x ?_ hx
    rcases h with h|h
    ·rcases List.mem_cons.mp h with h|h
     ·cases h
      obtain ⟨c,hc⟩:=hx
      rw [hc] at e;cases e
     ·exact .inl h
    ·exact .inr h
  ·rw [if_neg hk]
   refine zek env r _ x ?_ hx
   rcases h with h|h
   ·rcases List.mem_cons.mp h with h|h
    ·cases h;exact absurd rfl hk
    ·exact .inl h
   ·exact .inr h
noncomputable def cxC (X:Cx) (N':List Str) (scope:Scope) (C:Addr) (s:Shared) (H:Hp) (fp:List Addr) (pins:List (Addr × Obj)):Cx where
 prog:=X.prog
 w:=X.w
 K:=X.K
 mg:=X.mg
 base:=X.base
 A:=X.A
 N:=N'
 s₀:=s
 H₀:=H
 env:=compEnvC scope (zbt X.env scope.names []) C X.env
 outer:=X.stack
 stack:=X.stack
 ex:=fp
 fn:=λ_=>false
 calm:=X.calm
 pn:=X.pn++pins
 xe:=λ_ _=>False
section
theorem zzg {elt target iter:Expr}{ifs:List Expr}{scope:Scope}{pos:Pos}{it acc:Value}{env:Env}(I:Nat->Shared->Prop)
  (turn:∀n s,I n s->wpAny (model prog w) A (pyNext it) (λr s₁=>match r with
   | none=>R (.ok .next) s₁
   | some v=>wpAny (model prog w) A (letOwnedTupleGo target it v) (λ_ s₁'=>wpAny (model prog w) A (assign target env v) (λ_ s₂ =>
     wpAny (model prog w) A (forIn ifs true λc r=>if r=true then do let ok <-isTrue c env (eval c env);pure (ForInStep.yield ok) else pure (ForInStep.yield r)) (λok s₃ =>
      if ok=true then wpAny (model prog w) A (eval elt env) (λx s₄ =>
       wpAny (model prog w) A (call (.builtin "list.append") [acc,x]) (λ_ s₅=>∃m,m<n/\I m s₅) (notedBy (model prog w) A env λe s'=>R (.error e) s') s₄) (notedBy (model prog w) A env λe s'=>R (.error e) s') s₃
      else ∃m,m<n/\I m s₃) (notedBy (model prog w) A env λe s'=>R (.error e) s') s₂) (notedBy (model prog w) A env λe s'=>R (.error e) s') s₁') (notedBy (model prog w) A env λe s'=>R (.error e) s') s₁) (notedBy (model prog w) A env λe s'=>R (.error e) s') s)
  (n:Nat) (h:I n s) :
  codeAny (model prog w) A (.compLoop (.ListComp elt [⟨target,iter,ifs,0⟩] scope pos) 0 it acc env) R s:=by
 refine codeAny_loop rfl I (λn s hI=>?_) n h
 show wpAny _ A ((compTurn (.ListComp elt [⟨target,iter,ifs,0⟩] scope pos) 0 it acc env).onRaise (λx=>do noteFrame x env;theTreesLotGoes x)) _ _ s
 refine wpAny_noted ?_
 rw [compTurn_list]
 refine qwb (wpAny_standAt (qwb (wpAny_mono (turn n s hI) (λr s₁ h₁=>?_) λ_ _ h'=>h')))
 cases r with
 | none=>exact qwp h₁
 | some v =>
  refine qwb (wpAny_mono h₁ (λ_ s₁' h₁=>?_) λ_ _ h'=>h')
  refine qwb (wpAny_mono h₁ (λ_ s₂ h₂=>qwb (wpAny_mono h₂ (λok s₃ h₃=>?_) λ_ _ h'=>h')) λ_ _ h'=>h')
  cases ok with
  | false=>exact qwp ⟨rfl,h₃⟩
  | true =>
   exact qwb (qwb (wpAny_mono h₃ (λx s₄ h₄=>qwb (wpAny_mono h₄ (λ_ s₅ h₅=>qwp (qwp ⟨rfl,h₅⟩)) λ_ _ h'=>h')) λ_ _ h'=>h'))
end
def PTs (X:Cx) (ifs:List Expr) (t:TT):Prop:=∀(pins:List (Addr × Obj)) (s:Shared) (σ:St) (H:Hp) (Q:Bool->Hp->Prop),Inv X pins σ H s->t σ H Q ->
 wpAny (model X.prog X.w) X.A (forIn ifs true λc r=>if r=true then do let ok <-isTrue c X.env (eval c X.env);pure (ForInStep.yield ok) else pure (ForInStep.yield r)) (TP X pins σ Q) X.xe s
theorem zzh:PTs X [] (λ_ H Q=>Q true H):=λ_ _ _ H _ I h=>wpAny_tests_nil ⟨H,I,h⟩
theorem zzi (h:PT X c t):PTs X [c] t:=λpins s σ H Q I q=>wpAny_tests_one (h pins s σ H Q I q)
def zi7 (K:QFg) (wi:TI) (src:St->St) (g:TG) (tts:TT) (t:TE):TE:=λσ H Q=>wi σ H λJ H1=>∀D,H1 D=none->K.lookup D=none->∃W:Nat->Nat->St->Hp->Prop,
 (∃m,W 0 m (src σ) (upd H1 D (.lst [])))/\∀i m σ' H',W i m σ' H' ->
  (J.stop i H'/\Q (.ref D) H')\/(J.go i H'/\∃N:St->Hp->Prop,(∀σ' H',N σ' H'->∃m',m' < m/\W (i+1) m' σ' H') /\
   ∀x H'',J.yld i H' x H''->g x σ' H'' λσ2 H2=>tts σ2 H2 λb H3=>if b=true then t σ2 H3 (λv H4=>∃ys,H4 D=some (.lst ys)/\ys.length<sizeLine/\N σ2 (upd H4 D (.lst (ys++[v])))) else N σ2 H3)
theorem zi8 {scope:Scope}{env:Env}:∀{names:List (Str × NameKind)}{x:Str},names.lookup x=some .free ->
  ((names.map λ(n,k)=>if (k == NameKind.free && env.scope.kind == .function && env.kindOf n == some .cell) then (n,NameKind.cell) else (n,k)).lookup x=some .cell \/
   (names.map λ(n,k)=>if (k == NameKind.free && env.scope.kind == .function && env.kindOf n == some .cell) then (n,NameKind.cell) else (n,k)).lookup x=some .free)
 | [],x,h=>by simp at h
 | (n,k) :: r,x,h=>by
  have ih:=@zi8 scope env r x
  show List.lookup x ((if (k == NameKind.free && env.scope.kind == .function && env.kindOf n == some .cell)=true then (n,NameKind.cell) else (n,k)) :: _)=_\/List.lookup x ((if (k == NameKind.free && env.scope.kind == .function && env.kindOf n == some .cell)=true then (n,NameKind.cell) else (n,k)) :: _)=_
  cases hx:x == n with
  | true =>
   simp only [List.lookup_cons,hx] at h
   cases h
   by_cases hc:(NameKind.free == NameKind.free && env.scope.kind == .function && env.kindOf n == some .cell)=true
   ·rw [if_pos hc];simp [List.lookup_cons,hx]
   ·rw [if_neg hc];simp [List.lookup_cons,hx]
  | false =>
   simp only [List.lookup_cons,hx] at h
   by_cases hc:(k == NameKind.free && env.scope.kind == .function && env.kindOf n == some .cell)=true
   ·rw [if_pos hc];simp only [List.lookup_cons,hx];exact ih h
   ·rw [if_neg hc];simp only [List.lookup_cons,hx];exact ih h
structure CompSc (X:Cx) (N':List Str) (scope:Scope) (src:St->St):Prop where
 kind:scope.kind=.function
 nocell:∀y∈scope.names,y.2≠.cell
 names:∀y∈scope.names,y.2=.local->scope.names.lookup y.1=some .local
 free:∀y∈scope.names,y.2=.free->X.env.kindOf y.1=some .cell\/X.env.kindOf y.1=some .free
 rel:∀y,(relabel scope X.env).names.lookup y=some .cell\/(relabel scope X.env).names.lookup y=some .free->(y,NameKind.free)∈scope.names
 len:∀σ,(src σ).length=N'.length
 src:∀σ (i:Nat) v x,(src σ)[i]? = some (some v)->N'[i]? = some x->∃j:Nat,X.N[j]? = some x/\σ[j]? = some (some v)/\scope.names.lookup x=some .free
section
variable {K:QFg}{ρ ρ':List Addr}{H H':Hp}{S:Sto}
theorem Sim.notin (s:Sim K ρ S H) (h1:H a=none) (h2:K.lookup a=none):∀n:Nat,ρ[n]?≠some a:=λn hn=>by
 have hl:n<S.length:=by rw [<-s.len];exact (qme hn).1
 have q:=s.at' n a _ hn (qge hl)
 cases e:S[n] with
 | lst xs=>rw [e] at q;obtain ⟨vs,z,_⟩:=q;rw [h1] at z;cases z
 | flst xs =>
  rw [e] at q
  obtain ⟨vs,z,_⟩:=q
  rcases z with ⟨o,z⟩|⟨o,_,_,z,_⟩
  ·rw [h1] at z;cases z
  ·rw [h2] at z;cases z
 | iset g m=>rw [e] at q;have q:H a=_:=q;rw [h1] at q;cases q
 | dct kvs=>rw [e] at q;obtain ⟨vs,z,_⟩:=q;rw [h1] at z;cases z
 | tdct kvs=>rw [e] at q;obtain ⟨vs,z,_⟩:=q;rw [h1] at z;cases z
 | fdct kvs=>rw [e] at q;obtain ⟨o,vs,z,_⟩:=q;rw [h1] at z;cases z
 | ftdct kvs=>rw [e] at q;obtain ⟨o,vs,z,_⟩:=q;rw [h1] at z;cases z
 | tset ks=>rw [e] at q;obtain ⟨xs,_,z,_⟩:=q;rw [h1] at z;cases z
 | fnc x=>rw [e] at q;obtain ⟨_,o,z⟩:=q;rw [h2] at z;cases z
 | exc c=>rw [e] at q;obtain ⟨C,_,z⟩:=q;rw [h1] at z;cases z
 | tab x=>rw [e] at q;obtain ⟨_,_,_,_,z,_⟩:=q;rw [h1] at z;cases z
 | lam g caps=>rw [e] at q;obtain ⟨_,_,_,_,z,_⟩:=q;rw [h1] at z;cases z
 | dead=>rw [e] at q;obtain ⟨_,_,z,_⟩:=q;rw [h1] at z;cases z
theorem Sim.adopt (s:Sim K ρ S H) (ha:H a=some (.lst vs)) (hn:∀n:Nat,ρ[n]?≠some a) (r:RDs ρ H xs vs):Sim K (ρ++[a]) (S++[.lst xs]) H:=by
 refine ⟨by simp [s.len],λi j b x1 x2 h1 h2 h3 h4 m1 m2=>?_,λn b o h1 h2=>?_⟩
 ·rcases zbk h1 with g1|⟨e1,f1⟩ <;> rcases zbk h2 with g2|⟨e2,f2⟩
  ·rcases zbk h3 with h3|⟨e3,_⟩ <;> rcases zbk h4 with h4|⟨e4,_⟩
   ·exact s.nd i j b _ _ g1 g2 h3 h4 m1 m2
   ·have:=(qme g2).1;have:=s.len;lia
   ·have:=(qme g1).1;have:=s.len;lia
   ·lia
  ·subst f2;exact absurd g1 (hn i)
  ·subst f1;exact absurd g2 (hn j)
  ·lia
 ·rcases zbk h1 with h1|⟨e1,f1⟩
  ·rcases zbk h2 with h2|⟨e2,f2⟩
   ·exact (s.at' n b o h1 h2).more ext0_push
   ·have:=(qme h1).1;have:=s.len;lia
  ·subst f1
   rcases zbk h2 with h2|⟨e2,f2⟩
   ·have:=(qme h2).1;have:=s.len;lia
   ·subst f2
    exact ⟨vs,ha,r.mono0 ext0_push⟩
theorem Sim.beside (s:Sim K ρ S H) (ha:H a=some (.lst ys)) (hn:∀n:Nat,ρ[n]?≠some a):Sim K ρ S (upd H a u) :=
 ⟨s.len,s.nd,λn b o h1 h2=>(s.at' n b o h1 h2).written ha λ_ z=>hn n (by rw [h1,z])⟩
theorem Ext.beside (e:Ext ρ0 H0 ρ H) (h0:H0 a=none) (ha:H a=some (.lst ys)):Ext ρ0 H0 ρ (upd H a u) :=
 ⟨⟨e.pre,λb vs h=>by rw [zaj (zcm (e.tup b vs h) ha (by intro z;cases z))];exact e.tup b vs h,λb o vs h=>by rw [zaj (zcm (e.frz b o vs h) ha (by intro z;cases z))];exact e.frz b o vs h⟩,λb vs h n=>⟨by rw [zaj (zbh h h0)];exact (e.out b vs h n).1,(e.out b vs h n).2⟩⟩
theorem Ext.adopt (e:Ext ρ0 H0 ρ H) (h0:H0 a=none):Ext ρ0 H0 (ρ++[a]) H :=
 ⟨⟨λn b h=>(ext0_push (H:=H)).pre n b (e.pre n b h),e.tup,e.frz⟩,λb vs h n=>⟨(e.out b vs h n).1,λi hi=>by
  rcases zbk hi with hi|⟨_,z⟩
  ·exact (e.out b vs h n).2 i hi
  ·rw [z,h0] at h;cases h⟩⟩
end
abbrev ItM:=Nat->Sto->Option (Option D)
abbrev IM:=Lo->Sto->Option (ItM × Nat × Sto)
def zhl (K:QFg) (ρ:List Addr) (H:Hp) (it:ItM) (J:It):Prop:=∀(i:Nat) ρ' S' H',Ext ρ H ρ' H'->Sim K ρ' S' H' ->
 (it i S' = some none->J.stop i H')/\∀x,it i S' = some (some x)->J.go i H'/\∀y H'',J.yld i H' y H''->H'' = H'/\RD ρ' H' x y
inductive ti (K:QFg) (im:IM) (σ:St) (H:Hp) (R:It->Hp->Prop):Prop
 | mk (ρ:_) (l:_) (S:_) (it:_) (k:_) (S':_) (_:Sim K ρ S H) (_:RO ρ H l σ) (_:im l S=some (it,k,S')) (_:∀ρ' H' J,Ext ρ H ρ' H'->Sim K ρ' S' H'->zhl K ρ' H' it J->R J H')
def PI3 (X:Cx) (tgt iter:Expr) (im:IM):Prop:=PI X tgt iter (ti X.K im)
theorem PI.imp {X:Cx}{tgt iter:Expr}{t u:TI}(h:PI X tgt iter t) (i:∀σ H R,u σ H R->t σ H R):PI X tgt iter u:=λpins s σ H Q I q=>h pins s σ H Q I (i _ _ _ q)
noncomputable def itX (xs:List D):ItM:=λi _=>some xs[i]?
noncomputable def itL (n:Nat):ItM:=λi S=>(lstOf S n).bind λxs=>some xs[i]?
noncomputable def zcd (e:EM):IM:=λl S=>(e l S).bind λp=>match p.1 with
 | .tup xs=>some (itX xs,xs.length+1,p.2)
 | .ref n=>(lstOf p.2 n).bind λxs=>some (itL n,xs.length+1,p.2)
 | _=>none
noncomputable def zco (r:Lo->Sto->Option ((Int × Nat) × Sto)):IM:=λl S=>(r l S).bind λp=>some (itX (zas p.1.1 p.1.2),p.1.2+1,p.2)
section
variable {K:QFg}
theorem zzj (ha:H a=some (.tup vs)) (r:RDs ρ H xs vs):zhl K ρ H (itX xs) (Itt K a):=by
 intro i ρ' S' H' e s
 have ha':=SqT.of (K:=K) (e.tup _ _ ha)
 have r':=r.mono e
 refine ⟨λh=>?_,λx h=>?_⟩
 ·have h:xs[i]? = none:=qoi h
  exact ⟨vs,ha',by rw [<-r.length];exact List.getElem?_eq_none_iff.mp h⟩
 ·have h:xs[i]? = some x:=qoi h
  obtain ⟨v,hv,rv⟩:=r'.get h
  refine ⟨⟨vs,v,ha',hv⟩,λy H'' ⟨e1,e2⟩=>⟨e1,?_⟩⟩
  have:=e2 vs ha'
  rw [hv] at this;cases this
  exact rv
theorem zzk (ha:ρ[n]? = some a):zhl K ρ H (itL n) (Itl K a):=by
 intro i ρ' S' H' e s
 have ha':=e.pre _ _ ha
 refine ⟨λh=>?_,λx h=>?_⟩
 ·obtain ⟨xs,h1,h⟩:=bnd h
  have h:xs[i]? = none:=qoi h
  obtain ⟨b,vs,hb,sq,r⟩:=s.lstOf h1
  rw [ha'] at hb;cases hb
  exact ⟨vs,sq,by rw [<-r.length];exact List.getElem?_eq_none_iff.mp h⟩
 ·obtain ⟨xs,h1,h⟩:=bnd h
  have h:xs[i]? = some x:=qoi h
  obtain ⟨b,vs,hb,sq,r⟩:=s.lstOf h1
  rw [ha'] at hb;cases hb
  obtain ⟨v,hv,rv⟩:=r.get h
  refine ⟨⟨vs,v,sq,hv⟩,λy H'' ⟨e1,e2⟩=>⟨e1,?_⟩⟩
  have:=e2 vs sq
  rw [hv] at this;cases this
  exact rv
theorem zzl {lo:Int}{n:Nat}:zhl K ρ H (itX (zas lo n)) (Itr lo n):=by
 intro i ρ' S' H' e s
 refine ⟨λh=>?_,λx h=>?_⟩
 ·have h:(zas lo n)[i]? = none:=qoi h
  have:=List.getElem?_eq_none_iff.mp h
  simp [zas] at this
  exact this
 ·have h:(zas lo n)[i]? = some x:=qoi h
  have hl:=(qme h).1
  simp only [zas,qlm,List.length_range] at hl
  refine ⟨hl,λy H'' ⟨e1,e2⟩=>⟨e1,?_⟩⟩
  unfold zas at h
  rw [qgm,List.getElem?_range hl] at h
  cases h
  rw [e2]
  exact .int _
end
section
variable {X:Cx}{tgt iter:Expr}{m:EM}{mA:AM}{p0 pos':Pos}{a a2:Expr}
theorem zez (hi:PE3 X iter m):PI3 X tgt iter (zcd m):=PI.imp (PI.or (znb hi) (zkh hi)) λσ H R hx1_=>by
 obtain ⟨ρ,l,S,it,k,S',sim,ro,hm,p⟩:=hx1_
 obtain ⟨⟨x,S1⟩,q1,hm⟩:=bnd hm
 dsimp only at hm
 split at hm
 ·rename_i xs
  cases hm
  refine .inr ⟨ρ,l,S,.tup xs,_,sim,ro,q1,λρ1 H1 x' e1 s1 r1=>?_⟩
  cases r1 with
  | @tup xs a vs ha r=>exact ⟨a,rfl,⟨vs,SqT.of ha⟩,p ρ1 H1 _ e1 s1 (zzj ha r)⟩
 ·rename_i n
  obtain ⟨xs,hx,hm⟩:=bnd hm
  cases hm
  refine .inl ⟨ρ,l,S,.ref n,_,sim,ro,q1,λρ1 H1 x' e1 s1 r1=>?_⟩
  obtain ⟨a,vs,ha,sq,rv⟩:=s1.lstOf hx
  cases r1 with
  | ref hn =>
   rw [ha] at hn;cases hn
   exact ⟨a,rfl,⟨vs,sq⟩,p ρ1 H1 _ e1 s1 (zzk ha)⟩
 ·cases hm
theorem zge (hgl:Gl X "range") (hmg:X.mg "range" = none) (ha:PA3 X [a] mA) (hst:starEach [a] X.env=[(false,eval a X.env)]:=by rfl):PI3 X tgt (.Call (.Name "range" p0) [a] [] pos') (zco (zbj mA)) :=
 PI.imp (znd hgl hmg ha hst) λσ H R hx2_=>by
  obtain ⟨ρ,l,S,it,k,S',sim,ro,hm,p⟩:=hx2_
  obtain ⟨⟨⟨lo,n⟩,S1⟩,q1,hm⟩:=bnd hm
  cases hm
  obtain ⟨⟨xs,S2⟩,q2,q1⟩:=bnd q1
  dsimp only at q1
  split at q1
  ·rename_i j
   obtain ⟨hz,e⟩:=za1 q1
   cases e
   refine ⟨ρ,l,S,[.int j],_,sim,ro,q2,λρ1 H1 vs e1 s1 r1=>?_⟩
   obtain ⟨v,rfl,rv⟩:=r1.one
   cases rv
   exact ⟨j,rfl,hz.1,hz.2,p ρ1 H1 _ e1 s1 zzl⟩
  ·cases q1
end
noncomputable def zci (it:ItM) (g:GM) (t:TM) (e:EM):Nat->Nat->Lo->Sto->Option (List D × Sto)
 | 0,_,_,_=>none
 | k+1,i,l,S=>(it i S).bind λo=>match o with
  | none=>some ([],S)
  | some x=>(g x l S).bind λp=>(t p.1 p.2).bind λq=>if q.1=true then (e p.1 q.2).bind λr=>(zci it g t e k (i+1) p.1 r.2).bind λz=>some (r.1 :: z.1,z.2) else zci it g t e k (i+1) p.1 q.2
noncomputable def za5 {α:Type}(ixs:List (Option Nat)) (l:List (Option α)):List (Option α):=ixs.map λo=>match o with
 | some j=>(l[j]?).join
 | none=>none
noncomputable def zbd (im:IM) (ixs:List (Option Nat)) (g:GM) (t:TM) (e:EM):EM:=λl S=>(im l S).bind λp=>(zci p.1 g t e p.2.1 0 (za5 ixs l) p.2.2).bind λz=>if z.1.length<=sizeLine then some (.ref z.2.length,z.2++[.lst z.1]) else none
noncomputable def zar:TM:=λ_ S=>some (true,S)
theorem zi9 (ixs:List (Option Nat)) (r:RO ρ H l σ):RO ρ H (za5 ixs l) (za5 ixs σ):=by
 refine ⟨by simp [za5],λi d h=>?_⟩
 unfold za5 at h ⊢
 rw [qgm] at h ⊢
 cases e:ixs[i]? with
 | none=>rw [e] at h;cases h
 | some o =>
  rw [e] at h
  cases o with
  | none=>cases h
  | some j =>
   have h:((l[j]?).join:Option D)=some d:=qoi h
   cases e2:l[j]? with
   | none=>rw [e2] at h;cases h
   | some o2 =>
    rw [e2] at h
    have h:o2=some d:=h
    subst h
    obtain ⟨v,h1,h2⟩:=r.get j d e2
    exact ⟨v,by show some ((σ[j]?).join)=_;rw [h1];rfl,h2⟩
inductive CI3 (K:QFg) (it:ItM) (g:GM) (t:TM) (e:EM) (S2:Sto) (all:List D) (ρ1:List Addr) (H1:Hp) (Da:Addr) (i m:Nat) (σ':St) (H':Hp):Prop
 | mk (ρ':List Addr) (l':Lo) (S':Sto) (ds:List D) (vs:List V) (rest:List D) (_:Ext ρ1 H1 ρ' H') (_:Sim K ρ' S' H') (_:RO ρ' H' l' σ') (_:H' Da=some (.lst vs)) (_:(∀n:Nat,ρ'[n]?≠some Da)) (_:RDs ρ' H' ds vs) (_:zci it g t e m i l' S' = some (rest,S2)) (_:ds++rest=all)
theorem zo5 {K:QFg}{im:IM}{ixs:List (Option Nat)}{g:GM}{t:TM}{e:EM}(σ:St) (H:Hp) (Q:VK) (q:te K (zbd im ixs g t e) σ H Q):zi7 K (ti K im) (za5 ixs) (tg K g) (tt K t) (te K e) σ H Q:=by
 obtain ⟨ρ,l,S,v,S',sim,ro,hm,p⟩:=q
 obtain ⟨⟨it,k,S1⟩,q1,hm⟩:=bnd hm
 obtain ⟨⟨all,S2⟩,q2,hm⟩:=bnd hm
 obtain ⟨hz,he⟩:=za1 hm
 cases he
 refine ⟨ρ,l,S,it,k,S1,sim,ro,q1,λρ1 H1 J e1 s1 io D hD hK=>?_⟩
 dsimp only at q2 hz p
 refine ⟨λi m σ' H'=>CI3 K it g t e S2 all ρ1 H1 D i m σ' H',⟨k,?_⟩,?_⟩
 ·exact ⟨ρ1,za5 ixs l,S1,[],[],all,zbx hD,s1.laid hD,(zi9 ixs (ro.mono e1)).mono (zbx hD),zbo,s1.notin hD hK,.nil,q2,rfl⟩
 ·rintro i m σ' H' ⟨ρ',l',S',ds,vs,rest,e2,s2,ro2,hD2,hn2,rd2,hc,hall⟩
  cases m with
  | zero=>cases hc
  | succ m =>
   unfold zci at hc
   obtain ⟨o,ho,hc⟩:=bnd hc
   obtain ⟨iStop,iGo⟩:=io i ρ' S' H' e2 s2
   cases o with
   | none =>
    cases hc
    rw [List.append_nil] at hall
    subst hall
    refine .inl ⟨iStop ho,p (ρ'++[D]) H' (.ref D) (e1.trans (e2.adopt hD)) (s2.adopt hD2 hn2 rd2) (.ref ?_)⟩
    rw [<-s2.len];exact zd2 ρ' D
   | some x =>
    obtain ⟨⟨l3,S3⟩,q3,hc⟩:=bnd hc
    obtain ⟨⟨b,S4⟩,q4,hc⟩:=bnd hc
    obtain ⟨hgo,hy⟩:=iGo x ho
    refine .inr ⟨hgo,_,λσ' H' h=>h,λy H'' hyl=>?_⟩
    obtain ⟨rfl,ry⟩:=hy y H'' hyl
    refine ⟨ρ',l',S',x,l3,S3,s2,ro2,ry,q3,λρ3 H3 σ3 e3 s3 ro3=>⟨ρ3,l3,S3,b,S4,s3,ro3,q4,λρ4 H4 e4 s4=>?_⟩⟩
    obtain ⟨hD3,hn3⟩:=e3.out D _ hD2 hn2
    obtain ⟨hD4,hn4⟩:=e4.out D _ hD3 hn3
    cases b with
    | false=>exact zc1 ⟨m,Nat.lt_succ_self m,ρ4,l3,S4,ds,vs,rest,e2.trans (e3.trans e4),s4,ro3.mono e4,hD4,hn4,rd2.mono (e3.trans e4),hc,hall⟩
    | true =>
     have hc:((e l3 S4).bind λr=>(zci it g t e m (i+1) l3 r.2).bind λz=>some (r.1 :: z.1,z.2))=some (rest,S2):=hc
     obtain ⟨⟨y5,S5⟩,q5,hc⟩:=bnd hc
     obtain ⟨⟨rest',S6⟩,q6,hc⟩:=bnd hc
     cases hc
     refine zc2 ⟨ρ4,l3,S4,y5,S5,s4,ro3.mono e4,q5,λρ5 H5 v5 e5 s5 r5=>?_⟩
     obtain ⟨hD5,hn5⟩:=e5.out D _ hD4 hn4
     have e25:=e2.trans (e3.trans (e4.trans e5))
     have rd5:=rd2.mono (e3.trans (e4.trans e5))
     have hlen:vs.length<sizeLine:=by
      have h1:=rd5.length
      have h2:=congrArg List.length hall
      rw [qla,List.length_cons] at h2
      lia
     refine ⟨vs,hD5,hlen,m,Nat.lt_succ_self m,ρ5,l3,S5,ds++[y5],vs++[v5],rest',e25.beside hD hD5,s5.beside hD5 hn5,?_,zbo,hn5,((rd5.append (.cons r5 .nil)).mono0 (zd1 hD5)),q6,by rw [<-hall];simp⟩
     have r0:=(ro3.mono e4).mono e5
     exact ⟨r0.len,λi d h=>let ⟨w,h1,h2⟩:=r0.get i d h;⟨w,h1,h2.mono0 (zd1 hD5)⟩⟩
theorem zdg:PTs X [] (tt X.K zar):=λpins s σ H Q I hx4_=>by
 obtain ⟨ρ,l,S,v,S',sim,ro,hm,p⟩:=hx4_
 cases hm
 exact zzh pins s σ H Q I (p ρ H (Ext.refl ..) sim)
theorem zhm (h:PT3 X c t):PTs X [c] (tt X.K t):=zzi h
noncomputable def zk6:D->D->Sto->Option (D × Sto)
 | .int i,.int j,S=>some (.int (i+j),S)
 | .tup xs,.tup ys,S=>if xs.length+ys.length<=sizeLine then some (.tup (xs++ys),S) else none
 | .ref n,.ref m,S=>match S[n]?,S[m]? with
  | some (.lst xs),some (.lst ys)=>if xs.length+ys.length<=sizeLine then some (.ref S.length,S++[.lst (xs++ys)]) else none
  | _,_=>none
 | _,_,_=>none
theorem zzm {K:QFg}:Op3 K zk6 (λx y H Q=>rI0 (λi j=>.int (i+j)) x y H Q\/(zg7 K x y H Q\/zk1 K x y H Q)\/zn7 x y H Q):=by
 intro ρ S H x y x' y' v S' Q sim rx ry h p
 unfold zk6 at h
 split at h
 ·cases rx;cases ry;cases h
  exact .inl ⟨_,_,rfl,rfl,p ρ H _ (Ext.refl ..) sim (.int _)⟩
 ·refine .inr (.inl (zy0 ρ S H _ _ x' y' v S' Q sim rx ry ?_ p))
  unfold zk0
  exact h
 ·split at h
  ·rename_i xs ys e1 e2
   obtain ⟨hz,e⟩:=za1 h
   cases e
   obtain ⟨a,us,ha,hH,r2⟩:=sim.lst e1
   obtain ⟨b,ws,hb,hH2,r3⟩:=sim.lst e2
   cases rx with
   | ref hn =>
    rw [ha] at hn;cases hn
    cases ry with
    | ref hm =>
     rw [hb] at hm;cases hm
     exact .inr (.inr ⟨a,b,us,ws,rfl,rfl,hH,hH2,by rw [<-r2.length,<-r3.length];exact hz,zf7 sim (r2.append r3) p⟩)
  ·cases h
 ·cases h
section
end
def Has (P:Program) (w:World) (K:QFg) (mg:Str->Option Value) (base:Heap) (x:Str) (k n:Nat) (m:FM):Prop :=
 ∃(f:Addr) (fd:FuncData) (ps:List Str),FnOk P w K mg base CX0 k f fd ps (sp3 K n m)/\mg x=some (.ref f)/\PySem.W.keepIn K (.ref f)=true/\Binds K fd ps []
section
theorem zbg (F:Has X.prog X.w X.K X.mg X.base x k n m) (hr:Room j X.A) (hkj:k<=j) (hg:Gl X x)
  (ha:PA3 X (a :: es) mA) (hl:∀l S v S',mA l S=some (v,S')->v.length=n) (hdb:(x == ("__debug__":Str))=false:=by decide) (he:starEach (a :: es) X.env=(false,eval a X.env) :: starEach es X.env:=by rfl) (hpl:(backTo pos (starEach es X.env)).any (·.1)=false:=by rfl) :
  PE3 X (.Call (.Name x p) (a :: es) [] pos) (zae m mA):=by
 obtain ⟨f,fd,ps,F,hm,hk,hb⟩:=F
 exact zza F (hr.mono hkj) hg hm hk hb ha hl hdb he hpl
theorem zzn:bootBuiltins "abs" = some (.builtin "abs"):=by decide +kernel
theorem zzo:bootBuiltins "int" = some (.type "int"):=by decide +kernel
theorem zzp:bootBuiltins "tuple" = some (.type "tuple"):=by decide +kernel
theorem zzq:bootBuiltins "list" = some (.type "list"):=by decide +kernel
theorem zzr:bootBuiltins "min" = some (.builtin "min"):=by decide +kernel
theorem zzs:bootBuiltins "max" = some (.builtin "max"):=by decide +kernel
theorem zk7 (hg:Gl X "abs") (hm:X.mg "abs" = none) (ha:PA3 X (a :: es) mA) (he:starEach (a :: es) X.env=(false,eval a X.env) :: starEach es X.env:=by rfl) (hpl:(backTo pos (starEach es X.env)).any (·.1)=false:=by rfl):PE3 X (.Call (.Name "abs" p) (a :: es) [] pos) (zae zfj mA) :=
 zfh zws zy2 hg hm zzn ha (by decide) (by decide) he hpl
theorem zja (hg:Gl X "tuple") (hm:X.mg "tuple" = none) (ha:PA3 X (a :: es) mA) (he:starEach (a :: es) X.env=(false,eval a X.env) :: starEach es X.env:=by rfl) (hpl:(backTo pos (starEach es X.env)).any (·.1)=false:=by rfl):PE3 X (.Call (.Name "tuple" p) (a :: es) [] pos) (zae zdp mA) :=
 zoo zxq zy4 hg hm zzp ha (by decide) (by decide) he hpl
end
theorem zzt {P:Program}{w:World}{K:QFg}{mg:Str->Option Value}{base:Heap}{x:Str}{st:Stmt}{f:Addr}{fd:FuncData}{N ps:List Str}{k n:Nat}{b:SM}(F:Fun K x x st f fd) (hm:mg x=some (.ref f)) (S:FnScope N ps (zaq st)) (hn:ps.length=n) (hb:Binds K fd ps [])
  (hbody:∀(cdv:Value),PySem.W.codeIn K cdv x=true->∀(A:Around) (outer:List Env) (s:Shared) (H:Hp) (E:XK),Room k (A.deeper (envOfC x (zaq st) s.heap.objs.size f cdv)) ->
   zcx (zb2 CX0 P w K mg base N x (zaq st) f cdv A outer s H E).nox (zdd st) b):Has P w K mg base x (k+1) n (zby N.length b) :=
 ⟨f,fd,ps,zo3 F S hn hbody,hm,F.kp,hb⟩
noncomputable def chk (scO scope:Scope) (NO N':List Str) (ixs:List (Option Nat)):Bool :=
 decide (scope.kind=.function) && (scope.names.all λy=>y.2 != .cell) && (scope.names.all λy=>y.2 != .local || scope.names.lookup y.1 == some .local) &&
 (scope.names.all λy=>y.2 != .free || (scO.names.lookup y.1 == some .cell || scO.names.lookup y.1 == some .free)) && (ixs.length == N'.length) &&
 ((List.range ixs.length).all λi=>match ixs[i]? with|some (some j)=>(NO[j]? == N'[i]? && (match N'[i]? with|some x=>scope.names.lookup x == some .free|none=>false))|_=>true)
theorem zjb (hX:X.env.scope=scO) (hN:X.N=NO) (h:chk scO scope NO N' ixs=true):CompSc X N' scope (za5 ixs):=by
 unfold chk at h
 simp only [Bool.and_eq_true,decide_eq_true_eq,List.all_eq_true,beq_iff_eq,Bool.or_eq_true,bne_iff_ne,ne_eq] at h
 obtain ⟨⟨⟨⟨⟨h1,h2⟩,h3⟩,h4⟩,h5⟩,h6⟩:=h
 refine ⟨h1,h2,λy hy hl=>?_,λy hy hl=>?_,λy hy=>?_,λσ=>by simp [za5,h5],λσ i v x hv hx=>?_⟩
 ·rcases h3 y hy with z|z
  ·exact absurd hl z
  ·exact z
 ·show X.env.scope.names.lookup y.1=_\/X.env.scope.names.lookup y.1=_
  rw [hX]
  rcases h4 y hy with z|z
  ·exact absurd hl z
  ·exact z
 ·have mem:∃k,(k=NameKind.cell\/k=NameKind.free)/\(y,k)∈(relabel scope X.env).names:=by
   rcases hy with z|z
   ·exact ⟨_,.inl rfl,PySem.mem_of_lookup z⟩
   ·exact ⟨_,.inr rfl,PySem.mem_of_lookup z⟩
  obtain ⟨k,hk,hm⟩:=mem
  unfold relabel at hm
  obtain ⟨⟨n,k'⟩,hm1,hm2⟩:=List.mem_map.mp hm
  dsimp only at hm2
  split at hm2
  ·rename_i hc
   have:k' = .free:=by
    rw [Bool.and_eq_true,Bool.and_eq_true] at hc
    exact eq_of_beq hc.1.1
   cases hm2
   rw [<-this];exact hm1
  ·cases hm2
   rcases hk with z|z
   ·exact absurd z (h2 _ hm1)
   ·rw [<-z];exact hm1
 ·have hl:i<ixs.length:=by
   have:=(qme hv).1
   simpa [za5] using this
  unfold za5 at hv
  rw [qgm] at hv
  have q:=h6 i (List.mem_range.mpr hl)
  cases e:ixs[i]? with
  | none=>rw [e] at hv;cases hv
  | some o =>
   rw [e] at hv
   cases o with
   | none=>cases hv
   | some j =>
    rw [e] at q
    dsimp only at q
    rw [hx] at q
    simp only [Bool.and_eq_true,beq_iff_eq] at q
    have hv:((σ[j]?).join:Option V)=some v:=qoi hv
    refine ⟨j,by rw [hN];exact q.1,?_,q.2⟩
    cases e2:σ[j]? with
    | none=>rw [e2] at hv;cases hv
    | some o2=>rw [e2] at hv;have hv:o2=some v:=hv;rw [hv]
theorem zzu {K:QFg}{H:Hp}{a:Addr}{ns:List Int}{m:FM}(hO:zix H) (hS:SqL K H a (ns.map V.int)) (h:∃S',m [.ref 0] [.flst (ns.map D.int)]=some (.bl true,S')):sp3 K 1 m [.ref a] H (λv _=>v=.bl true) λ_ _ _=>False:=by
 obtain ⟨S',h⟩:=h
 have rn:∀ns:List Int,RDs [a] H (ns.map D.int) (ns.map V.int):=λns=>by
  induction ns with
  | nil=>exact .nil
  | cons x r ih=>exact .cons (.int x) ih
 refine ⟨rfl,[a],[.ref 0],_,_,S',⟨rfl,λi j b o1 o2 h1 h2 h3 h4 m1 m2=>?_,λn b o h1 h2=>?_⟩,.cons (.ref rfl) .nil,h,λρ' H' v' e s r=>?_⟩
 ·cases i with
  | zero=>cases h3;cases m1
  | succ i=>cases h3
 ·cases n with
  | succ n=>cases h1
  | zero =>
   cases h1;cases h2
   refine ⟨_,?_,rn ns⟩
   rcases hS with (z|⟨o,z⟩)|z
   ·rcases hO a with y|⟨o,xs,y⟩ <;> (rw [z] at y;cases y)
   ·exact .inl ⟨o,z⟩
   ·exact .inr z
 ·cases r;rfl
noncomputable def top (b:List Stmt) (i:Nat):Stmt:=b.getD i (.Pass ⟨0,0,0,0⟩)
def We (m:EM) (l:Lo) (S:Sto) (Q:D->Sto->Prop):Prop:=∃v S',m l S=some (v,S')/\Q v S'
def Wt (m:TM) (l:Lo) (S:Sto) (Q:Bool->Sto->Prop):Prop:=∃v S',m l S=some (v,S')/\Q v S'
def Wa (m:AM) (l:Lo) (S:Sto) (Q:List D->Sto->Prop):Prop:=∃v S',m l S=some (v,S')/\Q v S'
def Wo (o:Option (D × Sto)) (Q:D->Sto->Prop):Prop:=∃v S',o=some (v,S')/\Q v S'
def Wg (o:Option (Lo × Sto)) (Q:Lo->Sto->Prop):Prop:=∃l S',o=some (l,S')/\Q l S'
def Wr (o:Option (Fl × Lo × Sto)) (Q:Fl->Lo->Sto->Prop):Prop:=∃f l S',o=some (f,l,S')/\Q f l S'
abbrev Ws (m:SM) (l:Lo) (S:Sto) (Q:Fl->Lo->Sto->Prop):Prop:=Wr (m l S) Q
section
theorem zam {i:Nat}:We (zaa i) l S Q = ∃d,l[i]? = some (some d)/\Q d S:=by
 apply propext;unfold We zaa
 constructor
 ·rintro ⟨v,S',h,q⟩
  split at h
  ·rename_i d e;cases h;exact ⟨_,e,q⟩
  ·cases h
 ·rintro ⟨d,e,q⟩
  exact ⟨d,S,by rw [e],q⟩
theorem zcw:We (eC d) l S Q=Q d S:=by
 apply propext;unfold We eC
 exact ⟨λhx1_=>by obtain ⟨v,S',h,q⟩:=hx1_;cases h;exact q,λq=>⟨_,_,rfl,q⟩⟩
theorem zbz {f:D->D->Sto->Option (D × Sto)}:We (eOp f a b) l S Q=We a l S λx S1=>We b l S1 λy S2=>Wo (f x y S2) Q:=by
 apply propext
 constructor
 ·rintro ⟨v,S',h,q⟩
  obtain ⟨⟨x,S1⟩,h1,h⟩:=bnd h
  obtain ⟨⟨y,S2⟩,h2,h⟩:=bnd h
  exact ⟨x,S1,h1,y,S2,h2,v,S',h,q⟩
 ·rintro ⟨x,S1,h1,y,S2,h2,v,S',h,q⟩
  exact ⟨v,S',by unfold eOp;rw [h1];show (b l S1).bind _=_;rw [h2];exact h,q⟩
theorem zo6 {f:D->Sto->Option (D × Sto)}:We (eUn f a) l S Q=We a l S λx S1=>Wo (f x S1) Q:=by
 apply propext
 constructor
 ·rintro ⟨v,S',h,q⟩
  obtain ⟨⟨x,S1⟩,h1,h⟩:=bnd h
  exact ⟨x,S1,h1,v,S',h,q⟩
 ·rintro ⟨x,S1,h1,v,S',h,q⟩
  exact ⟨v,S',by unfold eUn;rw [h1];exact h,q⟩
theorem za2:Wa zad l S QA=QA [] S:=by
 apply propext
 exact ⟨λhx2_=>by obtain ⟨v,S',h,q⟩:=hx2_;cases h;exact q,λq=>⟨_,_,rfl,q⟩⟩
theorem za3:Wa (zab a r) l S QA=We a l S λx S1=>Wa r l S1 λxs S2=>QA (x :: xs) S2:=by
 apply propext
 constructor
 ·rintro ⟨v,S',h,q⟩
  obtain ⟨⟨x,S1⟩,h1,h⟩:=bnd h
  obtain ⟨⟨y,S2⟩,h2,h⟩:=bnd h
  cases h
  exact ⟨x,S1,h1,y,_,h2,q⟩
 ·rintro ⟨x,S1,h1,y,S2,h2,q⟩
  exact ⟨x :: y,S2,by unfold zab;rw [h1];show (r l S1).bind _=_;rw [h2];rfl,q⟩
theorem za8:We (zae f r) l S Q=Wa r l S λxs S1=>Wo (f xs S1) Q:=by
 apply propext
 constructor
 ·rintro ⟨v,S',h,q⟩
  obtain ⟨⟨x,S1⟩,h1,h⟩:=bnd h
  exact ⟨x,S1,h1,v,S',h,q⟩
 ·rintro ⟨x,S1,h1,v,S',h,q⟩
  exact ⟨v,S',by unfold zae;rw [h1];exact h,q⟩
theorem zdq {f:D->List D->Sto->Option (D × Sto)}:We (zbi f a r) l S Q=We a l S λx S1=>(∃xs,zf9 x S1=some xs)/\Wa r l S1 λys S2=>Wo (f x ys S2) Q:=by
 apply propext
 constructor
 ·rintro ⟨v,S',h,q⟩
  obtain ⟨⟨x,S1⟩,h1,h⟩:=bnd h
  obtain ⟨xs,h2,h⟩:=bnd h
  obtain ⟨⟨y,S2⟩,h3,h⟩:=bnd h
  exact ⟨x,S1,h1,⟨xs,h2⟩,y,S2,h3,v,S',h,q⟩
 ·rintro ⟨x,S1,h1,⟨xs,h2⟩,y,S2,h3,v,S',h,q⟩
  refine ⟨v,S',?_,q⟩
  unfold zbi;rw [h1];show (zf9 x S1).bind _=_;rw [h2];show (r l S1).bind _=_;rw [h3];exact h
theorem zc4:Wt (tE a) l S QB=We a l S λx S1=>∃k,x=.bl k/\QB k S1:=by
 apply propext
 constructor
 ·rintro ⟨v,S',h,q⟩
  obtain ⟨⟨x,S1⟩,h1,h⟩:=bnd h
  refine ⟨x,S1,h1,?_⟩
  cases x with
  | bl k=>cases h;exact ⟨_,rfl,q⟩
  | _=>cases h
 ·rintro ⟨x,S1,h1,k,rfl,q⟩
  exact ⟨k,S1,by unfold tE;rw [h1];rfl,q⟩
theorem zzv:Wt (zf2 t u) l S QB=Wt t l S λk S1=>if k=true then Wt u l S1 QB else QB false S1:=by
 apply propext
 constructor
 ·rintro ⟨v,S',h,q⟩
  obtain ⟨⟨x,S1⟩,h1,h⟩:=bnd h
  refine ⟨x,S1,h1,?_⟩
  cases x with
  | true=>exact ⟨v,S',h,q⟩
  | false=>cases h;exact q
 ·rintro ⟨x,S1,h1,h⟩
  cases x with
  | true=>obtain ⟨v,S',h,q⟩:=h;exact ⟨v,S',by unfold zf2;rw [h1];exact h,q⟩
  | false=>exact ⟨false,S1,by unfold zf2;rw [h1];rfl,h⟩
theorem zo7:Wt (zdn t u) l S QB=Wt t l S λk S1=>if k=true then QB true S1 else Wt u l S1 QB:=by
 apply propext
 constructor
 ·rintro ⟨v,S',h,q⟩
  obtain ⟨⟨x,S1⟩,h1,h⟩:=bnd h
  refine ⟨x,S1,h1,?_⟩
  cases x with
  | false=>exact ⟨v,S',h,q⟩
  | true=>cases h;exact q
 ·rintro ⟨x,S1,h1,h⟩
  cases x with
  | false=>obtain ⟨v,S',h,q⟩:=h;exact ⟨v,S',by unfold zdn;rw [h1];exact h,q⟩
  | true=>exact ⟨true,S1,by unfold zdn;rw [h1];rfl,h⟩
theorem zhn:Wt zar l S QB=QB true S:=by
 apply propext
 exact ⟨λhx3_=>by obtain ⟨v,S',h,q⟩:=hx3_;cases h;exact q,λq=>⟨_,_,rfl,q⟩⟩
theorem zzw:We (zf4 a b) l S Q=We a l S λx S1=>∃k,x=.bl k/\if k=true then We b l S1 Q else Q (.bl false) S1:=by
 apply propext
 constructor
 ·rintro ⟨v,S',h,q⟩
  obtain ⟨⟨x,S1⟩,h1,h⟩:=bnd h
  refine ⟨x,S1,h1,?_⟩
  cases x with
  | bl k =>
   cases k with
   | true=>exact ⟨true,rfl,v,S',h,q⟩
   | false=>cases h;exact ⟨false,rfl,q⟩
  | _=>cases h
 ·rintro ⟨x,S1,h1,k,rfl,h⟩
  cases k with
  | true=>obtain ⟨v,S',h,q⟩:=h;exact ⟨v,S',by unfold zf4;rw [h1];exact h,q⟩
  | false=>exact ⟨_,S1,by unfold zf4;rw [h1];rfl,h⟩
theorem zo8:We (zi1 a) l S Q=We a l S λx S1=>∃k,x=.bl k/\Q (.bl (!k)) S1:=by
 apply propext
 constructor
 ·rintro ⟨v,S',h,q⟩
  obtain ⟨⟨x,S1⟩,h1,h⟩:=bnd h
  refine ⟨x,S1,h1,?_⟩
  cases x with
  | bl k=>cases h;exact ⟨k,rfl,q⟩
  | _=>cases h
 ·rintro ⟨x,S1,h1,k,rfl,h⟩
  exact ⟨_,S1,by unfold zi1;rw [h1];rfl,h⟩
theorem zo9:We (zfg t a b) l S Q=Wt t l S λk S1=>if k=true then We a l S1 Q else We b l S1 Q:=by
 apply propext
 constructor
 ·rintro ⟨v,S',h,q⟩
  obtain ⟨⟨x,S1⟩,h1,h⟩:=bnd h
  refine ⟨x,S1,h1,?_⟩
  cases x with
  | true=>exact ⟨v,S',h,q⟩
  | false=>exact ⟨v,S',h,q⟩
 ·rintro ⟨x,S1,h1,h⟩
  cases x with
  | true=>obtain ⟨v,S',h,q⟩:=h;exact ⟨v,S',by unfold zfg;rw [h1];exact h,q⟩
  | false=>obtain ⟨v,S',h,q⟩:=h;exact ⟨v,S',by unfold zfg;rw [h1];exact h,q⟩
theorem zfm:Ws zcu l S QS=QS .nx l S:=by
 apply propext
 exact ⟨λhx4_=>by obtain ⟨f,v,S',h,q⟩:=hx4_;cases h;exact q,λq=>⟨_,_,_,rfl,q⟩⟩
theorem zjc:Ws (zai m n) l S QS=Ws m l S λf l1 S1=>match f with | .nx=>Ws n l1 S1 QS|f=>QS f l1 S1:=by
 apply propext
 constructor
 ·rintro ⟨f,v,S',h,q⟩
  obtain ⟨⟨g,l1,S1⟩,h1,h⟩:=bnd h
  refine ⟨g,l1,S1,h1,?_⟩
  cases g with
  | nx=>exact ⟨f,v,S',h,q⟩
  | _=>cases h;exact q
 ·rintro ⟨g,l1,S1,h1,h⟩
  cases g with
  | nx=>obtain ⟨f,v,S',h,q⟩:=h;exact ⟨f,v,S',by unfold zai;rw [h1];exact h,q⟩
  | bk=>exact ⟨_,_,_,by unfold zai;rw [h1];rfl,h⟩
  | ct=>exact ⟨_,_,_,by unfold zai;rw [h1];rfl,h⟩
  | rt d=>exact ⟨_,_,_,by unfold zai;rw [h1];rfl,h⟩
theorem zax (R:Lo->Sto->Prop) (h1:Ws m l S λf l1 S1=>f=.nx/\R l1 S1) (h2:∀l1 S1,R l1 S1->Ws n l1 S1 QS):Ws (zai m n) l S QS:=by
 rw [zjc]
 obtain ⟨f,l1,S1,e,rfl,r⟩:=h1
 exact ⟨_,_,_,e,h2 l1 S1 r⟩
theorem zk8:Ws (sIf t m n) l S QS=Wt t l S λk S1=>if k=true then Ws m l S1 QS else Ws n l S1 QS:=by
 apply propext
 constructor
 ·rintro ⟨f,v,S',h,q⟩
  obtain ⟨⟨x,S1⟩,h1,h⟩:=bnd h
  refine ⟨x,S1,h1,?_⟩
  cases x with
  | true=>exact ⟨f,v,S',h,q⟩
  | false=>exact ⟨f,v,S',h,q⟩
 ·rintro ⟨x,S1,h1,h⟩
  cases x with
  | true=>obtain ⟨f,v,S',h,q⟩:=h;exact ⟨f,v,S',by unfold sIf;rw [h1];exact h,q⟩
  | false=>obtain ⟨f,v,S',h,q⟩:=h;exact ⟨f,v,S',by unfold sIf;rw [h1];exact h,q⟩
theorem zel:Ws (zb8 a) l S QS=We a l S λ_ S1=>QS .nx l S1:=by
 apply propext
 constructor
 ·rintro ⟨f,v,S',h,q⟩
  obtain ⟨⟨x,S1⟩,h1,h⟩:=bnd h
  cases h
  exact ⟨x,_,h1,q⟩
 ·rintro ⟨x,S1,h1,q⟩
  exact ⟨_,_,_,by unfold zb8;rw [h1];rfl,q⟩
theorem zfn:Ws (zbp a) l S QS=We a l S λx S1=>QS (.rt x) l S1:=by
 apply propext
 constructor
 ·rintro ⟨f,v,S',h,q⟩
  obtain ⟨⟨x,S1⟩,h1,h⟩:=bnd h
  cases h
  exact ⟨x,_,h1,q⟩
 ·rintro ⟨x,S1,h1,q⟩
  exact ⟨_,_,_,by unfold zbp;rw [h1];rfl,q⟩
theorem zb4:Ws (zak a g) l S QS=We a l S λx S1=>Wg (g x l S1) λl2 S2=>QS .nx l2 S2:=by
 apply propext
 constructor
 ·rintro ⟨f,v,S',h,q⟩
  obtain ⟨⟨x,S1⟩,h1,h⟩:=bnd h
  obtain ⟨⟨l2,S2⟩,h2,h⟩:=bnd h
  cases h
  exact ⟨x,S1,h1,_,_,h2,q⟩
 ·rintro ⟨x,S1,h1,l2,S2,h2,q⟩
  refine ⟨_,_,_,?_,q⟩
  unfold zak;rw [h1];show (g x l S1).bind _=_;rw [h2];rfl
theorem zay {i:Nat}:Wg (zag i d l S) QG=QG (l.set i (some d)) S:=by
 apply propext
 exact ⟨λhx7_=>by obtain ⟨v,S',h,q⟩:=hx7_;cases h;exact q,λq=>⟨_,_,rfl,q⟩⟩
theorem zgf {k:Nat}{gs:GsM}:Wg (zcy k gs (.tup xs) l S) QG=(xs.length=k/\Wg (gs xs l S) QG):=by
 apply propext
 constructor
 ·rintro ⟨v,S',h,q⟩
  have h:(if xs.length=k then gs xs l S else none)=some (v,S'):=h
  by_cases hl:xs.length=k
  ·rw [if_pos hl] at h;exact ⟨hl,v,S',h,q⟩
  ·rw [if_neg hl] at h;cases h
 ·rintro ⟨hl,v,S',h,q⟩
  exact ⟨v,S',by show (if xs.length=k then gs xs l S else none)=_;rw [if_pos hl];exact h,q⟩
theorem zgg:Wg (zcv [] l S) QG=QG l S:=by
 apply propext
 exact ⟨λhx8_=>by obtain ⟨v,S',h,q⟩:=hx8_;cases h;exact q,λq=>⟨_,_,rfl,q⟩⟩
theorem zgh {gs:GsM}:Wg (zbl g gs (x :: xs) l S) QG=Wg (g x l S) λl1 S1=>Wg (gs xs l1 S1) QG:=by
 apply propext
 constructor
 ·rintro ⟨v,S',h,q⟩
  obtain ⟨⟨l1,S1⟩,h1,h⟩:=bnd h
  exact ⟨l1,S1,h1,v,S',h,q⟩
 ·rintro ⟨l1,S1,h1,v,S',h,q⟩
  exact ⟨v,S',by show (g x l S).bind _=_;rw [h1];exact h,q⟩
theorem zzx:Wg (zga o i v l S) QG=We o l S λx S1=>We i l S1 λy S2=>∃S',zeg x y v S2=some S'/\QG l S':=by
 apply propext
 constructor
 ·rintro ⟨l',S',h,q⟩
  obtain ⟨⟨x,S1⟩,h1,h⟩:=bnd h
  obtain ⟨⟨y,S2⟩,h2,h⟩:=bnd h
  obtain ⟨S3,h3,h⟩:=bnd h
  cases h
  exact ⟨x,S1,h1,y,S2,h2,_,h3,q⟩
 ·rintro ⟨x,S1,h1,y,S2,h2,S3,h3,q⟩
  refine ⟨l,S3,?_,q⟩
  unfold zga;rw [h1];show (i l S1).bind _=_;rw [h2];show (zeg x y v S2).bind _=_;rw [h3];rfl
theorem zbq:Wo (some (d,S)) Q=Q d S:=by
 apply propext
 exact ⟨λhx9_=>by obtain ⟨v,S',h,q⟩:=hx9_;cases h;exact q,λq=>⟨_,_,rfl,q⟩⟩
theorem ze0 {α:Type}{o:Option α}{f:α->Option (D × Sto)}:Wo (o.bind f) Q = ∃x,o=some x/\Wo (f x) Q:=by
 cases o with
 | none=>simp [Wo]
 | some x=>simp [Wo]
theorem zem {p:Prop} [Decidable p] {x:D × Sto}:Wo (if p then some x else none) Q=(p/\Q x.1 x.2):=by
 obtain ⟨a,b⟩:=x
 by_cases hp:p
 ·rw [if_pos hp]
  apply propext
  exact ⟨λhx10_=>by obtain ⟨v,S',h,q⟩:=hx10_;cases h;exact ⟨hp,q⟩,λq=>⟨a,b,rfl,q.2⟩⟩
 ·simp [hp,Wo]
theorem zk9 {g:Int->Int->D}{i j:Int}:Wo (oI0 g (.int i) (.int j) S) Q=Q (g i j) S:=zbq
theorem zzy {C:Int->Int->Bool}{g:Int->Int->D}{i j:Int}:Wo (oI C g (.int i) (.int j) S) Q=(C i j=true/\Q (g i j) S):=zem
theorem zpa {xs:List D}{i:Int}:Wo (dIx (.tup xs) (.int i) S) Q = ∃v,L2.atI xs i=some v/\Q v S:=by
 show Wo ((L2.atI xs i).bind λv=>some (v,S)) Q=_
 rw [ze0];simp only [zbq]
theorem zpb {k:Nat}{i:Int}:Wo (dIx (.ref k) (.int i) S) Q = ∃xs,lstOf S k=some xs/\∃v,L2.atI xs i=some v/\Q v S:=by
 show Wo ((lstOf S k).bind λxs=>(L2.atI xs i).bind λv=>some (v,S)) Q=_
 rw [ze0];simp only [ze0,zbq]
theorem zpc:Wo (zhj [.tup xs] S) Q=Q (.int xs.length) S:=zbq
theorem zpd {k:Nat}:Wo (zhj [.ref k] S) Q = ∃xs,lstOf S k=some xs/\Q (.int xs.length) S:=by
 show Wo ((lstOf S k).bind λxs=>some (.int xs.length,S)) Q=_
 rw [ze0];simp only [zbq]
theorem zzz {i:Int}:Wo (zfj [.int i] S) Q=Q (.int (if i<0 then -i else i)) S:=zbq
theorem zc5:Wo (zat xs S) Q=(xs.length<=sizeLine/\Q (.tup xs) S):=zem
theorem zho:Wo (zbf xs S) Q=(xs.length<=sizeLine/\Q (.ref S.length) (S++[.lst xs])):=zem
theorem zhp {k:Nat}:Wo (zdp [.ref k] S) Q = ∃xs,lstOf S k=some xs/\Q (.tup xs) S:=by
 show Wo ((lstOf S k).bind λxs=>some (.tup xs,S)) Q=_
 rw [ze0];simp only [zbq]
theorem zla {i j:Int}:Wo (dEq (.int i) (.int j) S) Q=Q (.bl (decide (i=j))) S:=zbq
theorem zlb:Wo (dNe (.str i) (.str j) S) Q=Q (.bl (!decide (i=j))) S:=zbq
theorem zz0:Wo (dIs x .non S) Q=Q (.bl (zd6 x)) S:=by
 cases x <;> exact zbq
theorem zz1:Wo (zf8 x .non S) Q=Q (.bl (!zd6 x)) S:=by
 cases x <;> exact zbq
theorem zz2 {k:Nat}:Wo (zb7 (.ref k) [x] S) Q = ∃xs,S[k]? = some (.lst xs)/\xs.length<sizeLine/\Q .non (S.set k (.lst (xs++[x]))):=by
 show Wo (match S[k]? with|some (.lst xs)=>if xs.length<sizeLine then some (.non,S.set k (.lst (xs++[x]))) else none|_=>none) Q=_
 cases e:S[k]? with
 | none=>simp [Wo]
 | some o =>
  cases o with
  | lst xs=>simp [zem]
  | flst xs=>simp [Wo]
  | iset f n=>simp [Wo]
  | dct kvs=>simp [Wo]
  | fdct kvs=>simp [Wo]
  | ftdct kvs=>simp [Wo]
  | tset ks=>simp [Wo]
  | fnc x=>simp [Wo]
  | tdct kvs=>simp [Wo]
  | exc c=>simp [Wo]
  | tab x=>simp [Wo]
  | lam g caps=>simp [Wo]
  | dead=>simp [Wo]
theorem zcj {k:Nat}{b:SM}{ds:List D}:Wo (zby k b ds S) Q=Ws b (ds.map some++List.replicate (k-ds.length) none) S λf _ S1=>match f with | .rt d=>Q d S1 | .nx=>Q .non S1|_=>False:=by
 apply propext
 constructor
 ·rintro ⟨v,S',h,q⟩
  obtain ⟨⟨f,l1,S1⟩,h1,h⟩:=bnd h
  refine ⟨f,l1,S1,h1,?_⟩
  cases f with
  | rt d=>cases h;exact q
  | nx=>cases h;exact q
  | bk=>cases h
  | ct=>cases h
 ·rintro ⟨f,l1,S1,h1,q⟩
  cases f with
  | rt d=>exact ⟨_,_,by unfold zby;rw [h1];rfl,q⟩
  | nx=>exact ⟨_,_,by unfold zby;rw [h1];rfl,q⟩
  | bk=>cases q
  | ct=>cases q
end
theorem Wo.mono {o:Option (D × Sto)}(h:Wo o Q) (i:∀v S,Q v S->Q' v S):Wo o Q':=let ⟨v,S,e,q⟩:=h;⟨v,S,e,i v S q⟩
theorem Wr.mono {o:Option (Fl × Lo × Sto)}(h:Wr o Q) (i:∀f v S,Q f v S->Q' f v S):Wr o Q':=let ⟨f,v,S,e,q⟩:=h;⟨f,v,S,e,i f v S q⟩
section
theorem zz3:Ws (zd9 (zbj as) g b) l S QS=Wa as l S λxs S1=>∃j,xs=[.int j]/\(-(2 ^ 62)<=j/\j<2 ^ 62)/\Wr (zde g b (zas 0 j.toNat) l S1) QS:=by
 apply propext
 constructor
 ·rintro ⟨f,v,S',h,q⟩
  obtain ⟨⟨⟨lo,n⟩,S1⟩,h1,h⟩:=bnd h
  obtain ⟨⟨xs,S2⟩,h2,h1⟩:=bnd h1
  dsimp only at h1
  split at h1
  ·rename_i j
   obtain ⟨hz,e⟩:=za1 h1
   cases e
   exact ⟨_,_,h2,j,rfl,hz,f,v,S',h,q⟩
  ·cases h1
 ·rintro ⟨xs,S1,h1,j,rfl,hz,f,v,S',h,q⟩
  refine ⟨f,v,S',?_,q⟩
  have:zbj as l S=some ((0,j.toNat),S1):=by
   unfold zbj;rw [h1];show (if _ then _ else _)=_;rw [if_pos hz]
  unfold zd9;show (zbj as l S).bind _=_;rw [this];exact h
theorem zpe:Ws (zc3 e g b) l S QS=We e l S λx S1=>Wr (match x with | .tup xs=>zde g b xs l S1 | .ref n=>(lstOf S1 n).bind λxs=>zdf g b n (xs.length+1) 0 l S1|_=>none) QS:=by
 apply propext
 constructor
 ·rintro ⟨f,v,S',h,q⟩
  obtain ⟨⟨x,S1⟩,h1,h⟩:=bnd h
  exact ⟨x,S1,h1,f,v,S',h,q⟩
 ·rintro ⟨x,S1,h1,f,v,S',h,q⟩
  exact ⟨f,v,S',by unfold zc3;rw [h1];exact h,q⟩
theorem zlc {lo:Int}{n i:Nat}(h:(zas lo n)[i]? = some x):i<n/\x=.int (lo+i):=by
 have hl:=(qme h).1
 simp only [zas,qlm,List.length_range] at hl
 unfold zas at h
 rw [qgm,List.getElem?_range hl] at h
 exact ⟨hl,(qoi h).symm⟩
theorem zdh (lo:Int) (n:Nat):(zas lo n).length=n:=by simp [zas]
end
mutual
noncomputable def zan (S:Sto):Nat->D->Option PyData
 | 0,_=>none
 | _+1,.non=>some .none
 | _+1,.bl b=>some (.bool b)
 | _+1,.int i=>if i.natAbs.log2<1920 then some (.int i) else none
 | _+1,.str x=>some (.str x)
 | k+1,.tup xs=>(pyAll S k xs).bind λds=>some (.tuple ds)
 | k+1,.ref n=>(lstOf S n).bind λxs=>(pyAll S k xs).bind λds=>some (.list ds)
 | _+1,.fn _=>none
termination_by k=>(k,0)
noncomputable def pyAll (S:Sto):Nat->List D->Option (List PyData)
 | _,[]=>some []
 | k,x :: xs=>(zan S k x).bind λd=>(pyAll S k xs).bind λds=>some (d :: ds)
termination_by k xs=>(k,xs.length+1)
end
noncomputable def zhq:FM
 | [x],S=>(zan S 140 x).bind λd=>if d.shown.length<=sizeLine then some (.str d.shown,S) else none
 | _,_=>none
section
theorem zld (I:Inv X pins σ H s) (sim:Sim X.K ρ S H) (ih:∀(d:D) (v:V) (u:Value) (p:PyData),RD ρ H d v->RelV v u->zan S k d=some p->(∃as,Reads s.heap u p as)/\p.showable=true/\p.hasDict=false/\p.depth<=k):∀(xs:List D) (vs:List V) (us:List Value) (ds:List PyData),RDs ρ H xs vs->Vals vs us->pyAll S k xs=some ds->(∃as,ReadsAll s.heap us ds as)/\PyData.showableAll ds=true/\PyData.hasDictAll ds=false/\PyData.depthAll ds<=k:=by
 intro xs
 induction xs with
 | nil =>
  intro vs us ds r e h
  unfold pyAll at h;cases h;cases r;cases e
  exact ⟨⟨_,.nil⟩,rfl,rfl,Nat.zero_le _⟩
 | cons x xs ihx =>
  intro vs us ds r e h
  unfold pyAll at h
  obtain ⟨d,h1,h⟩:=bnd h
  obtain ⟨ds',h2,h⟩:=bnd h
  cases h
  cases r with
  | cons r1 r2 =>
   cases e with
   | cons e1 e2 =>
    obtain ⟨⟨as,q1⟩,q2,q3,q4⟩:=ih x _ _ d r1 e1 h1
    obtain ⟨⟨bs,p1⟩,p2,p3,p4⟩:=ihx _ _ ds' r2 e2 h2
    refine ⟨⟨_,.cons q1 p1⟩,?_,?_,?_⟩
    ·unfold PyData.showableAll;rw [q2,p2];rfl
    ·unfold PyData.hasDictAll;rw [q3,p3];rfl
    ·unfold PyData.depthAll;omega
theorem zgi (I:Inv X pins σ H s) (sim:Sim X.K ρ S H):∀(k:Nat) (d:D) (v:V) (u:Value) (p:PyData),RD ρ H d v->RelV v u->zan S k d=some p->(∃as,Reads s.heap u p as)/\p.showable=true/\p.hasDict=false/\p.depth<=k:=by
 intro k
 induction k with
 | zero=>intro d v u p _ _ h;unfold zan at h;cases h
 | succ k ih =>
  intro d v u p r e h
  cases d with
  | non  =>
   unfold zan at h;cases h;cases r;cases e
   exact ⟨⟨_,.none⟩,rfl,rfl,Nat.zero_le _⟩
  | bl b =>
   unfold zan at h;cases h;cases r;cases e
   exact ⟨⟨_,.bool b⟩,rfl,rfl,Nat.zero_le _⟩
  | int i =>
   unfold zan at h
   obtain ⟨hz,e2⟩:=za1 h
   cases e2;cases r
   obtain ⟨t,rfl⟩:=e
   exact ⟨⟨_,.int i t⟩,by unfold PyData.showable;exact decide_eq_true hz,rfl,Nat.zero_le _⟩
  | str x =>
   unfold zan at h;cases h;cases r
   obtain ⟨t,rfl⟩:=e
   exact ⟨⟨_,.str x t⟩,rfl,rfl,Nat.zero_le _⟩
  | fn _=>unfold zan at h;cases h
  | tup xs =>
   unfold zan at h
   obtain ⟨ds,h1,h⟩:=bnd h
   cases h
   cases r with
   | tup ha r =>
    cases e
    obtain ⟨its,rv,⟨o,ho,hc,n,hd⟩,hz⟩:=I.tuple (SqT.of ha)
    obtain ⟨⟨as,h2⟩,h3,h4,h5⟩:=zld I sim ih xs _ _ ds r rv h1
    refine ⟨⟨as,.tuple ho hc hd (by simpa using h2)⟩,?_,?_,?_⟩
    ·unfold PyData.showable;exact h3
    ·unfold PyData.hasDict;exact h4
    ·unfold PyData.depth;omega
  | ref n =>
   unfold zan at h
   obtain ⟨xs,h0,h⟩:=bnd h
   obtain ⟨ds,h1,h⟩:=bnd h
   cases h
   obtain ⟨a,vs,ha,sq,rd⟩:=sim.lstOf h0
   cases r with
   | ref hn =>
    rw [ha] at hn;cases hn
    cases e
    obtain ⟨its,rv,pl,hz⟩:=I.list sq
    obtain ⟨o,ho,hc,m,hd⟩:=pl.isList
    obtain ⟨⟨as,h2⟩,h3,h4,h5⟩:=zld I sim ih xs _ _ ds rd rv h1
    refine ⟨⟨_,.list ho hc hd (by simpa using h2)⟩,?_,?_,?_⟩
    ·unfold PyData.showable;exact h3
    ·unfold PyData.hasDict;exact h4
    ·unfold PyData.depth;omega
theorem zz4 (I:Inv X pins σ H s) (sim:Sim X.K ρ S H):∀(k:Nat) (xs:List D) (vs:List V) (us:List Value) (ds:List PyData),RDs ρ H xs vs->Vals vs us->pyAll S k xs=some ds->(∃as,ReadsAll s.heap us ds as)/\PyData.showableAll ds=true/\PyData.hasDictAll ds=false/\PyData.depthAll ds<=k
 | k=>zld I sim (zgi I sim k)
end
section
theorem zz5 (hr:Room k X.A):CallR X (.builtin "repr") (λxs H Q=>∃v ρ S d pd,xs=[v]/\Sim X.K ρ S H/\RD ρ H d v/\zan S 140 d=some pd/\pd.shown.length<=sizeLine/\Q (.str pd.shown) H):=by
 intro pins s σ H xs us Q I r h
 obtain ⟨v,ρ,S,d,pd,rfl,sim,rd,hp,hz,q⟩:=h
 obtain ⟨u,rfl,ru⟩:=zcr r
 have key:=zgi I sim 140 d v u pd rd ru hp
 have byRef:∀a,u=.ref a->wpAny (model X.prog X.w) X.A (call (.builtin "repr") [u]) (EP X pins σ Q) X.xe s:=λb hb=>by
  subst hb
  obtain ⟨⟨as,h1⟩,h2,h3,h4⟩:=key
  have hu:X.A.units+(pd.depth+1)<cLine:=by have:=hr.un;omega
  refine repr_of_reads' h1 h2 (λz=>by rw [h3] at z;cases z) hr.gd hu (λ_ _ e=>e) (λh' u tk hk=>?_) hz
  exact ⟨.str pd.shown,H,I.kept hk,⟨u,rfl⟩,q⟩
 have hp':=hp
 cases rd with
 | non=>cases ru;unfold zan at hp';cases hp';exact P.repr_of_none ⟨.str _,H,I.tok _,⟨_,rfl⟩,q⟩
 | bl b=>cases ru;unfold zan at hp';cases hp';exact P.repr_of_bool ⟨.str _,H,I.tok _,⟨_,by cases b <;> rfl⟩,q⟩
 | int i =>
  obtain ⟨t,rfl⟩:=ru
  unfold zan at hp'
  obtain ⟨hi,e⟩:=za1 hp'
  cases e
  exact P.repr_of_int hi ⟨.str _,H,I.tok _,⟨_,rfl⟩,q⟩
 | str x=>obtain ⟨t,rfl⟩:=ru;unfold zan at hp';cases hp';exact P.repr_of_str ⟨.str _,H,I.tok _,⟨_,rfl⟩,q⟩ hz
 | tup ha r=>exact byRef _ ru
 | ref hn=>exact byRef _ ru
 | fn b=>unfold zan at hp';cases hp'
theorem zz6 {K:QFg}:Fn3 K zhq (λxs H Q=>∃v ρ S d pd,xs=[v]/\Sim K ρ S H/\RD ρ H d v/\zan S 140 d=some pd/\pd.shown.length<=sizeLine/\Q (.str pd.shown) H):=by
 intro ρ S H xs vs v S' Q sim r h p
 unfold zhq at h
 split at h
 ·obtain ⟨pd,h1,h⟩:=bnd h
  obtain ⟨hz,e⟩:=za1 h
  cases e
  obtain ⟨w,rfl,rw'⟩:=r.one
  exact ⟨w,ρ,_,_,pd,rfl,sim,rw',h1,hz,p ρ H _ (Ext.refl ..) sim (.str _)⟩
 ·cases h
theorem zz7:bootBuiltins "repr" = some (.builtin "repr"):=by decide +kernel
end
theorem zz8:fillsNumberSlot (.type "tuple") "mul" = pure false :=
 PySem.fillsNumberSlot_seq (id:="tuple.__mul__") (r:=some (.builtin "tuple.__rmul__")) PySem.F.slot_tuple_mul.lookup (by decide +kernel) PySem.F.slot_tuple_rmul.lookup (by decide +kernel)
theorem zz9:seqRepeat? (.type "tuple")=pure (some (.builtin "tuple.__mul__")):=by
 unfold seqRepeat?
 rw [PySem.seqSlot_of (T:="tuple") (name:="__mul__") (id:="tuple.__mul__") PySem.F.slot_tuple_mul.lookup (by decide +kernel),PySem.seqSlot_of (T:="tuple") (name:="__rmul__") (id:="tuple.__rmul__") PySem.F.slot_tuple_rmul.lookup (by decide +kernel)]
 rfl
open PySem.AutoSeq1 (wpAny_loadPart')
theorem yaa (a:Int) (t:Tok) (l:Addr) (items:Array Value) (n:Nat) (dd:Option Addr) (sl:Array (Option Value)) :
  Meets (Builtin.«int.__rmul__» ⟨[.int a t,.ref l],[]⟩) (λ_ R s=>s.heap.get? l=some { cls:=.type "tuple",dict:=dd,data:=.seq items n,slots:=sl }/\R (.ok (.ret Value.notImplemented)) s) :=
 .of_wp λprog w A R s h=>by obtain ⟨hp,g,d,tk,os⟩:=s;obtain ⟨hl,h⟩:=h;wp_walk;exact ⟨_,rfl,h⟩
section
theorem yab (ht:IsTup s.heap t items) (k0:2<=k) (k1:k<2 ^ 31) (hi:items.isEmpty=false) (hz:items.size*k.toNat<=sizeLine)
  (h:Q (.ref s.heap.objs.size) { s with heap:=s.heap.push { cls:=.type "tuple",data:=.seq ((List.replicate k.toNat items).foldl (·++·) #[]) } }) (h6:((List.replicate k.toNat items).foldl (·++·) #[]).size<=sizeLine) :
  wpAny (model prog w) A (call (.builtin "tuple.__mul__") [.ref t,.int k u]) Q E s:=by
 refine wpAny_call_entry PySem.F.slot_tuple_mul ht.typeIs PySem.F.entry_tuple_mul ?_ (PySem.F.args_tuple_mul_2 _ _)
 show wpAny _ _ (asIndex (.int k u) >>= _) _ _ s
 refine qwb ?_
 show wpAny _ _ (pure k) _ _ s
 refine qwp ?_
 have e1:(decide (k < -(2 ^ 63)) || decide (k ≥ 2 ^ 63))=false:=by
  rw [Bool.or_eq_false_iff];exact ⟨decide_eq_false (by omega),decide_eq_false (by omega)⟩
 have e2:(items.isEmpty || k == 1)=false:=by rw [hi,Bool.false_or];exact beq_false_of_ne (by omega)
 have e3:(decide (k<=0) || items.isEmpty)=false:=by rw [hi,Bool.or_false];exact decide_eq_false (by omega)
 show wpAny _ _ (if (decide (k < -(2 ^ 63)) || decide (k ≥ 2 ^ 63))=true then _ else _) _ _ s
 rw [if_neg (by rw [e1];exact Bool.false_ne_true)]
 refine qwb (tupleItemsOf_ ht ?_)
 show wpAny _ _ (if (items.isEmpty || k == 1)=true then _ else _) _ _ s
 rw [if_neg (by rw [e2];exact Bool.false_ne_true)]
 show wpAny _ _ (if (decide (k<=0) || items.isEmpty)=true then _ else _) _ _ s
 rw [if_neg (by rw [e3];exact Bool.false_ne_true)]
 have hk:(items.size:Int)*k=((items.size*k.toNat:Nat):Int):=by rw [Int.natCast_mul,Int.toNat_of_nonneg (by omega)]
 have hs:(sizeLine:Nat)=16777216:=by decide
 show wpAny _ _ (if (items.size:Int)*k > (2 ^ 63-1) / 8 then _ else _) _ _ s
 rw [if_neg (by rw [hk];omega)]
 show wpAny _ _ (if Builtin.Tuple.tupleTooMany ((items.size:Int)*k)=true then _ else _) _ _ s
 rw [if_neg (by unfold Builtin.Tuple.tupleTooMany;rw [hk];simp only [decide_eq_true_eq];omega)]
 first
  | exact qwb (m:=Builtin.Tuple.tupleExact _) (wpAny_newObj_type (qwp ⟨_,rfl,h⟩) h6)
  | exact qwb (m:=Builtin.Tuple.tupleExact _) (wpAny_newObj_type (qwp ⟨_,rfl,qwp h⟩) h6)
theorem yac (ht:IsTup s.heap t items) (h:Q (.ref t) s) :
  wpAny (model prog w) A (call (.builtin "tuple.__mul__") [.ref t,.int 1 u]) Q E s:=by
 refine wpAny_call_entry PySem.F.slot_tuple_mul ht.typeIs PySem.F.entry_tuple_mul ?_ (PySem.F.args_tuple_mul_2 _ _)
 show wpAny _ _ (asIndex (.int 1 u) >>= _) _ _ s
 refine qwb ?_
 show wpAny _ _ (pure (1:Int)) _ _ s
 refine qwp ?_
 show wpAny _ _ (if (decide ((1:Int) < -(2 ^ 63)) || decide ((1:Int) ≥ 2 ^ 63))=true then _ else _) _ _ s
 rw [if_neg (by decide)]
 refine qwb (tupleItemsOf_ ht ?_)
 show wpAny _ _ (if (items.isEmpty || (1:Int) == 1)=true then _ else _) _ _ s
 rw [if_pos (by simp)]
 unfold Builtin.Tuple.tupleIsExact
 refine qwb (qwb (wpAny_typeOf ht.typeIs (qwp ?_)))
 rw [if_pos (by decide)]
 exact qwb (wpAny_rule (qwp ⟨_,rfl,h⟩))
theorem yad (ht:IsTup s.heap t items) (k0:k=0) (hi:items.isEmpty=false)
  (h:Q (.ref s.heap.objs.size) { s with heap:=s.heap.push { cls:=.type "tuple",data:=.seq #[] } }) :
  wpAny (model prog w) A (call (.builtin "tuple.__mul__") [.ref t,.int k u]) Q E s:=by
 subst k0
 refine wpAny_call_entry PySem.F.slot_tuple_mul ht.typeIs PySem.F.entry_tuple_mul ?_ (PySem.F.args_tuple_mul_2 _ _)
 show wpAny _ _ (asIndex (.int 0 u) >>= _) _ _ s
 refine qwb ?_
 show wpAny _ _ (pure (0:Int)) _ _ s
 refine qwp ?_
 show wpAny _ _ (if (decide ((0:Int) < -(2 ^ 63)) || decide ((0:Int) ≥ 2 ^ 63))=true then _ else _) _ _ s
 rw [if_neg (by decide)]
 refine qwb (tupleItemsOf_ ht ?_)
 show wpAny _ _ (if (items.isEmpty || (0:Int) == 1)=true then _ else _) _ _ s
 rw [if_neg (by rw [hi];decide)]
 show wpAny _ _ (if (decide ((0:Int)<=0) || items.isEmpty)=true then _ else _) _ _ s
 rw [if_pos (by simp)]
 first
  | exact qwb (m:=Builtin.Tuple.tupleExact _) (wpAny_newObj_type (qwp ⟨_,rfl,h⟩) (Nat.zero_le _))
  | exact qwb (m:=Builtin.Tuple.tupleExact _) (wpAny_newObj_type (qwp ⟨_,rfl,h⟩) (by decide))
end
def zpf (K:QFg):R2:=λx y H Q=>∃a k xs,x=.ref a/\y=.int k/\SqT K H a xs/\xs≠[]/\0<=k/\k<2 ^ 31/\xs.length*k.toNat<=sizeLine /\
 (k=1->Q (.ref a) H)/\(k≠1->∀p,H p=none->Q (.ref p) (upd H p (.tup (List.replicate k.toNat xs).flatten)))
theorem yae:OpR X (binaryOp .Mult) (zpf X.K):=by
 intro pins s σ H x y v u Q I rx ry h
 obtain ⟨a,k,xs,rfl,rfl,hx,hne,k0,k1,hz,q1,q2⟩:=h
 cases rx
 obtain ⟨t,rfl⟩:=ry
 obtain ⟨its,r,pt,_⟩:=I.tuple hx
 have hne':its≠[]:=λz=>hne (r.nil_iff.mp z)
 have hie:its.toArray.isEmpty=false:=by cases its with
  | nil=>exact absurd rfl hne'
  | cons _ _=>simp
 obtain ⟨⟨cls,dd,data,sl⟩,ho,hc,n,hd⟩:=id pt
 simp only at hc hd
 subst hc hd
 refine wpAny_binaryOp_repeat_ref (T:="tuple") (U:="int") (by decide) ⟨_,ho,rfl⟩ (λs'=>typeIs_int s' k t) zz8 PySem.F.fills_int_mul PySem.F.slot_int_rmul zz9 PySem.F.slot_int_index.lookup
  (call_meets PySem.F.slot_int_rmul (typeIs_int s k t) PySem.F.entry_int_rmul (PySem.F.args_int_rmul_2 _ _) (yaa k t a its.toArray n dd sl) ⟨ho,rfl,⟨_,ho,rfl⟩,?_⟩)
 have f0:∀m:Nat,List.foldl (λx1 x2=>x1++x2) #[] (List.replicate m its.toArray)=(List.replicate m its).flatten.toArray:=λm=>by
  have:=zkq its m []
  rw [List.nil_append] at this
  exact this
 have hl:xs.length=its.length:=r.length
 by_cases e1:k=1
 ·subst e1
  exact yac pt ⟨.ref a,H,I,rfl,q1 rfl⟩
 ·by_cases e0:k=0
  ·refine yad pt e0 hie ?_
   have hv:Vals ([]:List V) ([]:List Value):=.nil
   refine ⟨.ref s.heap.objs.size,_,I.laid (t':=s.toks) (o:=.tup []) (λb ob q=>qps _ q) (qlr _) ?_,rfl,?_⟩
   ·exact ⟨Nat.zero_le _,[],.nil,IsTD.new _ _⟩
   ·have:=q2 e1 _ (I.hok.fresh (qlr _))
    subst e0
    exact this
  ·have hlen:(List.replicate k.toNat its).flatten.length=k.toNat*its.length:=zks its k.toNat
   refine yab pt (by omega) k1 hie (by rw [List.size_toArray,<-hl];exact hz) ?_ ?_
   ·rw [f0]
    refine ⟨.ref s.heap.objs.size,_,I.laid (t':=s.toks) (o:=.tup (List.replicate k.toNat xs).flatten) (λb ob q=>qps _ q) (qlr _) ?_,rfl,q2 e1 _ (I.hok.fresh (qlr _))⟩
    exact ⟨by rw [zks,Nat.mul_comm];exact hz,_,r.rep k.toNat,IsTD.new _ _⟩
   ·rw [f0,List.size_toArray,hlen,Nat.mul_comm,<-hl];exact hz
noncomputable def zfo:D->D->Sto->Option (D × Sto)
 | .int i,.int j,S=>if (-(2 ^ 64)<i/\i<2 ^ 64)\/(-(2 ^ 64)<j/\j<2 ^ 64) then some (.int (i*j),S) else none
 | .tup (x :: xs),.int k,S=>if 0<=k/\k<2 ^ 31/\(xs.length+1)*k.toNat<=sizeLine then some (.tup (List.replicate k.toNat (x :: xs)).flatten,S) else none
 | _,_,_=>none
theorem yaf {K:QFg}:Op3 K zfo (λx y H Q=>rI CMul (λi j=>.int (i*j)) x y H Q\/zpf K x y H Q):=by
 intro ρ S H x y x' y' v S' Q sim rx ry h p
 unfold zfo at h
 split at h
 ·obtain ⟨hc,e⟩:=za1 h
  cases e;cases rx;cases ry
  exact .inl ⟨_,_,rfl,rfl,hc,p ρ H _ (Ext.refl ..) sim (.int _)⟩
 ·rename_i x xs k
  obtain ⟨⟨k0,k1,hz⟩,e⟩:=za1 h
  cases e;cases ry
  cases rx with
  | @tup _ a vs ha r =>
   have hl:=r.length
   refine .inr ⟨a,k,vs,rfl,rfl,SqT.of ha,?_,k0,k1,by rw [<-hl];exact hz,λe=>?_,λ_=>zf6 sim (r.rep k.toNat) p⟩
   ·intro z;rw [z] at hl;cases hl
   ·subst e
    have e2:(List.replicate (1:Int).toNat (x :: xs)).flatten=x :: xs:=by simp
    rw [e2] at p
    exact p ρ H _ (Ext.refl ..) sim (.tup ha r)
 ·cases h
section
theorem zle (ha:PE3 X a ma) (hb:PE3 X b mb):PE3 X (.BinOp a .Mult b pos) (eOp zfo ma mb):=zf5 (op_mul.or yae) yaf ha hb
end
noncomputable def whl (c:TM) (b:SM):Nat->SM
 | 0,_,_=>none
 | k+1,l,S=>(c l S).bind λp=>if p.1=true then (b l p.2).bind λq=>match q.1 with
  | .nx=>whl c b k q.2.1 q.2.2
  | .ct=>whl c b k q.2.1 q.2.2
  | .bk=>some (.nx,q.2)
  | .rt d=>some (.rt d,q.2) else some (.nx,l,p.2)
section
theorem yag (n:Nat) (hp:PassesOwn (model X.prog X.w) X.A X.env X.xe) (hc:PT3 X c mc) (hb:zcx X body mb):PS3 X (.While c body [] pos) (whl mc mb n) :=
 PS.imp (zvz hp hc hb) λE σ H hx1_=>by
  obtain ⟨ρ,l,S,f,l',S',sim,ro,hm,p⟩:=hx1_
  refine ⟨λm σ1 H1=>∃ρ1 l1 S1,Ext ρ H ρ1 H1/\Sim X.K ρ1 S1 H1/\RO ρ1 H1 l1 σ1/\whl mc mb m l1 S1=some (f,l',S'),⟨n,ρ,l,S,Ext.refl ..,sim,ro,hm⟩,?_⟩
  rintro m σ1 H1 ⟨ρ1,l1,S1,e1,s1,ro1,hm1⟩
  cases m with
  | zero=>cases hm1
  | succ m =>
   unfold whl at hm1
   obtain ⟨⟨k,S2⟩,q1,hm1⟩:=bnd hm1
   refine ⟨ρ1,l1,S1,k,S2,s1,ro1,q1,λρ2 H2 e2 s2=>?_⟩
   cases k with
   | false =>
    cases hm1
    exact zc1 (p ρ2 H2 σ1 (e1.trans e2) s2 (ro1.mono e2))
   | true =>
    have hm1:((mb l1 S2).bind λq=>match q.1 with
     | .nx=>whl mc mb m q.2.1 q.2.2
     | .ct=>whl mc mb m q.2.1 q.2.2
     | .bk=>some (.nx,q.2)
     | .rt d=>some (.rt d,q.2))=some (f,l',S'):=hm1
    obtain ⟨⟨fl,l3,S3⟩,q2,hm1⟩:=bnd hm1
    refine zc2 ⟨_,λσ' H' h=>h,ρ2,l1,S2,fl,l3,S3,s2,ro1.mono e2,q2,λρ3 H3 σ3 e3 s3 ro3=>?_⟩
    cases fl with
    | nx=>exact ⟨m,Nat.lt_succ_self m,ρ3,l3,S3,e1.trans (e2.trans e3),s3,ro3,hm1⟩
    | ct=>exact ⟨m,Nat.lt_succ_self m,ρ3,l3,S3,e1.trans (e2.trans e3),s3,ro3,hm1⟩
    | bk=>cases hm1;exact p ρ3 H3 σ3 (e1.trans (e2.trans e3)) s3 ro3
    | rt d=>cases hm1;exact p ρ3 H3 σ3 (e1.trans (e2.trans e3)) s3 ro3
end
noncomputable def zlf (b:Bool):D->Bool
 | .bl c=>c == b
 | _=>false
noncomputable def zea:D->D->Sto->Option (D × Sto)
 | x,.bl b,S=>some (.bl (!zlf b x),S)
 | _,_,_=>none
noncomputable def vBl (b:Bool):V->Bool
 | .bl c=>c == b
 | _=>false
theorem yah (r:RD ρ H x x'):vBl b x' = zlf b x:=by
 cases r <;> rfl
section
theorem yai:OpR X (compareOp .IsNot) (λx y H Q=>(∀z,x≠.flt z)/\∃b,y=.bl b/\Q (.bl (!vBl b x)) H):=by
 intro pins s σ H x y v u Q I rx ry h
 obtain ⟨hx,b,rfl,q⟩:=h
 cases ry
 cases x <;> first
  | (cases rx;exact wpAny_isNot_plain rfl (za7 I q rfl))
  | (rename_i c;cases rx;cases c <;> cases b <;> exact wpAny_isNot_plain rfl (za7 I q (by decide +kernel)))
  | (obtain ⟨t,rfl⟩:=rx;exact wpAny_isNot_plain rfl (za7 I q rfl))
theorem yaj (r:RD ρ H x x'):∀z,x'≠.flt z:=by
 cases r <;> (intro z e;cases e)
theorem yak {K:QFg}:Op3 K zea (λx y H Q=>(∀z,x≠.flt z)/\∃b,y=.bl b/\Q (.bl (!vBl b x)) H):=by
 intro ρ S H x y x' y' v S' Q sim rx ry h p
 unfold zea at h
 split at h
 ·cases h;cases ry
  exact ⟨yaj rx,_,rfl,by rw [yah rx];exact p ρ H _ (Ext.refl ..) sim (.bl _)⟩
 ·cases h
theorem zpg (ha:PE3 X a ma) (hb:PE3 X b mb):PT3 X (.Compare a [.IsNot] [b] pos) (tE (eOp zea ma mb)):=zd4 yai yak ha hb (zdy b)
end
noncomputable def ze1:D->D->Sto->Option (D × Sto):=λx y S=>(zan S 60 x).bind λp=>(zan S 60 y).bind λq=>if p.canLay0=true/\q.canLay0=true then some (.bl (!p.eqv q),S) else none
def zph (K:QFg) (neg:Bool):R2:=λx y H Q=>∃ρ S dx dy p q,Sim K ρ S H/\RD ρ H dx x/\RD ρ H dy y/\zan S 60 dx=some p/\zan S 60 dy=some q/\p.canLay0=true/\q.canLay0=true/\Q (.bl (if neg then !p.eqv q else p.eqv q)) H
section
theorem yal (hr:Room k X.A):OpR X (compareOp .NotEq) (zph X.K true):=by
 intro pins s σ H x y v u Q I rx ry h
 obtain ⟨ρ,S,dx,dy,p,q,sim,r1,r2,h1,h2,c1,c2,hq⟩:=h
 obtain ⟨⟨as,k1⟩,_,_,k2⟩:=zgi I sim 60 dx x v p r1 rx h1
 obtain ⟨⟨bs,k3⟩,_,_,k4⟩:=zgi I sim 60 dy y u q r2 ry h2
 have hu:X.A.units+min p.depth q.depth<cLine:=by have:=hr.un;have:min p.depth q.depth<=p.depth:=Nat.min_le_left _ _;omega
 exact PySem.SeqAt.compareNe_reads k1 k3 c1 c2 hu ⟨.bl _,H,I,rfl,hq⟩
theorem yam {K:QFg}:Op3 K ze1 (zph K true):=by
 intro ρ S H x y x' y' v S' Q sim rx ry h p
 obtain ⟨d1,h1,h⟩:=bnd h
 obtain ⟨d2,h2,h⟩:=bnd h
 obtain ⟨hc,e⟩:=za1 h
 cases e
 exact ⟨ρ,_,x,y,d1,d2,sim,rx,ry,h1,h2,hc.1,hc.2,p ρ H _ (Ext.refl ..) sim (.bl _)⟩
theorem yan (hr:Room k X.A) (ha:PE3 X a ma) (hb:PE3 X b mb):PT3 X (.Compare a [.NotEq] [b] pos) (tE (eOp ze1 ma mb)):=zd4 (yal hr) yam ha hb (zdy b)
end
noncomputable def zjd:D->Bool
 | .non=>true | .bl _=>true | .int _=>true | .str _=>true
 | _=>false
noncomputable def zje:D->D->Bool
 | .non,.non=>true
 | .bl a,.bl b=>a == b
 | .bl a,.int b=>(if a then 1 else 0) == b
 | .int a,.bl b=>a == (if b then 1 else 0)
 | .int a,.int b=>a == b
 | .str a,.str b=>a == b
 | _,_=>false
noncomputable def yao (S:Sto):D->Option (List D)
 | .tup xs=>some xs
 | .ref n=>lstOf S n
 | _=>none
noncomputable def zpi (neg:Bool):D->D->Sto->Option (D × Sto):=λx y S=>(yao S y).bind λxs=>if zjd x=true/\xs.all zjd=true then some (.bl (if neg then !(xs.any λy=>zje y x) else xs.any λy=>zje y x),S) else none
theorem zpj (r:RD ρ H x x'):zd0 x' = zjd x:=by
 cases r <;> rfl
theorem yap (r:RD ρ H x x') (r':RD ρ H y y'):eqV x' y' = zje x y:=by
 cases r <;> cases r' <;> rfl
theorem zpk:∀{xs:List D}{vs:List V},RDs ρ H xs vs->vs.all zd0=xs.all zjd
 | _,_,.nil=>rfl
 | _,_,.cons r q=>by rw [List.all_cons,List.all_cons,zpj r,zpk q]
theorem zpl (rx:RD ρ H x x'):∀{xs:List D}{vs:List V},RDs ρ H xs vs->inV x' vs=xs.any λy=>zje y x
 | _,_,.nil=>rfl
 | _,_,.cons r q=>by
  have ih:=zpl rx q
  unfold inV at ih ⊢
  rw [List.any_cons,List.any_cons,yap r rx,ih]
theorem zpm {K:QFg}{neg:Bool}:Op3 K (zpi neg) (rIn K neg):=by
 intro ρ S H x y x' y' v S' Q sim rx ry h p
 obtain ⟨xs,h1,h⟩:=bnd h
 obtain ⟨hc,e⟩:=za1 h
 cases e
 have fin:∀a vs,y' = .ref a->(SqL K H a vs\/SqT K H a vs)->RDs ρ H xs vs->rIn K neg x' y' H Q:=λa vs e1 e2 r=>by
  refine ⟨a,vs,e1,e2,by rw [zpj rx];exact hc.1,by rw [zpk r];exact hc.2,?_⟩
  rw [zpl rx r]
  exact p ρ H _ (Ext.refl ..) sim (.bl _)
 cases ry with
 | tup ha r=>cases h1;exact fin _ _ rfl (.inr (SqT.of ha)) r
 | ref hn =>
  obtain ⟨a,vs,ha,sq,r⟩:=sim.lstOf h1
  rw [ha] at hn;cases hn
  exact fin _ _ rfl (.inl sq) r
 | _=>cases h1
noncomputable def zlg:Sto->D->Option ((Int->Bool) × Nat)
 | S,.ref n=>match S[n]? with
  | some (.iset f k)=>some (f,k)
  | _=>none
 | _,_=>none
theorem Sim.isetOf {K:QFg}{ρ:List Addr}{S:Sto}{H:Hp}{x:D}{v:V}{f:Int->Bool}{k:Nat}(s:Sim K ρ S H) (r:RD ρ H x v) (h:zlg S x=some (f,k)):∃n a,x=.ref n/\v=.ref a/\ρ[n]? = some a/\S[n]? = some (.iset f k)/\H a=some (.set f k):=by
 unfold zlg at h
 split at h
 ·rename_i n
  split at h
  ·rename_i f' k' e
   cases h
   cases r with
   | @ref _ a hn=>exact ⟨n,a,rfl,rfl,hn,e,s.at' n a _ hn e⟩
  ·cases h
 ·cases h
noncomputable def zlh (neg:Bool):D->D->Sto->Option (D × Sto)
 | .int i,y,S=>(zlg S y).bind λp=>some (.bl (if neg then !p.1 i else p.1 i),S)
 | _,_,_=>none
def zpn (neg:Bool):R2:=λx y H Q=>∃i a f n,x=.int i/\y=.ref a/\H a=some (.set f n)/\Q (.bl (if neg then !f i else f i)) H
section
theorem op_notInI:OpR X (compareOp .NotIn) (zpn true):=by
 intro pins s σ H x y v u Q I rx ry h
 obtain ⟨i,a,f,n,rfl,rfl,hH,q⟩:=h
 obtain ⟨t,rfl⟩:=rx
 cases ry
 exact PySem.wpAny_notInSet_of (knd:=intKind X.prog X.w) (k:=i) (PySem.intKind_is X.prog X.w i t) rfl (I.hok a _ hH) ⟨.bl _,H,I.tok _,rfl,q⟩
theorem op3_inI {K:QFg}{neg:Bool}:Op3 K (zlh neg) (zpn neg):=by
 intro ρ S H x y x' y' v S' Q sim rx ry h p
 unfold zlh at h
 split at h
 ·obtain ⟨⟨f,k⟩,h1,h⟩:=bnd h
  cases h
  cases rx
  obtain ⟨n,a,rfl,rfl,_,_,hH⟩:=sim.isetOf ry h1
  exact ⟨_,a,f,k,rfl,rfl,hH,p ρ H _ (Ext.refl ..) sim (.bl _)⟩
 ·cases h
noncomputable def dIn (neg:Bool):D->D->Sto->Option (D × Sto):=λx y S=>match zlh neg x y S with|some v=>some v|none=>zpi neg x y S
theorem yaq (ha:PE3 X a ma) (hb:PE3 X b mb) (hm:behindInMarks .NotIn b=false:=by rfl):PE3 X (.Compare a [.NotIn] [b] pos) (eOp (dIn true) ma mb):=zkv (op_notInI.or zn1) (op3_inI.or zpm) ha hb hm
theorem yar (ha:PE3 X a ma) (hb:PE3 X b mb) (hm:behindInMarks .NotIn b=false:=by rfl):PT3 X (.Compare a [.NotIn] [b] pos) (tE (eOp (dIn true) ma mb)):=zd4 (op_notInI.or zn1) (op3_inI.or zpm) ha hb hm
end
section
end
section
end
section
end
noncomputable def zhr:Nat:=1000000
section
end
section
end
noncomputable def zgj:D->D->Sto->Option (D × Sto)
 | .ref n,.int k,S=>match S[n]? with
  | some (.lst xs)=>if -(2 ^ 63)<=k/\k<2 ^ 63/\xs.length*k.toNat<=sizeLine then some (.ref S.length,S++[.lst (List.replicate k.toNat xs).flatten]) else none
  | _=>none
 | _,_,_=>none
theorem yas {K:QFg}:Op3 K zgj zn8:=by
 intro ρ S H x y x' y' v S' Q sim rx ry h p
 unfold zgj at h
 split at h
 ·split at h
  ·rename_i n k S xs e
   obtain ⟨⟨h1,h2,h3⟩,e2⟩:=za1 h
   cases e2
   cases ry
   obtain ⟨a,us,ha,hH,r2⟩:=sim.lst e
   cases rx with
   | ref hn =>
    rw [ha] at hn;cases hn
    exact ⟨a,k,us,rfl,rfl,hH,h1,h2,by rw [<-r2.length];exact h3,zf7 sim (r2.rep k.toNat) p⟩
  ·cases h
 ·cases h
theorem yat (ha:PE3 X a ma) (hb:PE3 X b mb):PE3 X (.BinOp a .Mult b pos) (eOp zgj ma mb):=zf5 zxy yas ha hb
section
end
noncomputable def isT:D->Bool
 | .bl b=>b
 | _=>false
noncomputable def zen:D->Bool
 | .bl _=>true
 | _=>false
noncomputable def vT:V->Bool
 | .bl b=>b
 | _=>false
noncomputable def zjf:V->Bool
 | .bl _=>true
 | _=>false
noncomputable def zhs:FM
 | [.ref n],S=>(lstOf S n).bind λxs=>if xs.all zen=true then some (.bl (xs.all isT),S) else none
 | _,_=>none
noncomputable def zgk:FM
 | [.ref n],S=>(lstOf S n).bind λxs=>if xs.all zen=true then some (.bl (xs.any isT),S) else none
 | _,_=>none
theorem yau (r:RD ρ H x x'):vT x' = isT x/\zjf x' = zen x:=by
 cases r <;> exact ⟨rfl,rfl⟩
theorem zli:∀{xs:List D}{vs:List V},RDs ρ H xs vs->vs.all vT=xs.all isT/\vs.any vT=xs.any isT/\vs.all zjf=xs.all zen
 | _,_,.nil=>⟨rfl,rfl,rfl⟩
 | _,_,.cons r q=>by
  obtain ⟨h1,h2⟩:=yau r
  obtain ⟨h3,h4,h5⟩:=zli q
  simp only [List.all_cons,List.any_cons,h1,h2,h3,h4,h5,and_self]
section
theorem yav {ys:List V}(tr:Nat->Bool) (h:∀(i:Nat) y,ys[i]? = some y->tr i=vT y):(List.range ys.length).all tr=ys.all vT/\(List.range ys.length).any tr=ys.any vT:=by
 have e:(List.range ys.length).map tr=ys.map vT:=by
  apply List.ext_getElem?
  intro i
  rw [qgm,qgm]
  by_cases hi:i<ys.length
  ·rw [List.getElem?_range hi,qge hi]
   simp [h i _ (qge hi)]
  ·rw [List.getElem?_eq_none_iff.mpr (by simpa using hi),List.getElem?_eq_none_iff.mpr (by simpa using hi)];rfl
 have a1:(List.range ys.length).all tr=((List.range ys.length).map tr).all id:=by rw [List.all_map];rfl
 have a2:ys.all vT=(ys.map vT).all id:=by rw [List.all_map];rfl
 have a3:(List.range ys.length).any tr=((List.range ys.length).map tr).any id:=by rw [List.any_map];rfl
 have a4:ys.any vT=(ys.map vT).any id:=by rw [List.any_map];rfl
 exact ⟨by rw [a1,a2,e],by rw [a3,a4,e]⟩
def zjg (K:QFg) (f:List V->Bool):List V->Hp->VK->Prop:=λxs H Q=>∃p ys,xs=[.ref p]/\SqL K H p ys/\ys.all zjf=true/\Q (.bl (f ys)) H
theorem zpo {pins:List (Addr × Obj)}{s:Shared}{σ:St}{H:Hp}{p:Addr}{ys:List V}{E:Value->Shared->Prop}{R:Bool->Bool->Shared->Prop}(hc:X.calm=true) (I:Inv X pins σ H s) (hq:SqL X.K H p ys) (hb:ys.all zjf=true)
  (h:∀s',Inv X pins σ H s'->R (ys.all vT) (ys.any vT) s') :
  wpAny (model X.prog X.w) X.A.in1 (pyIter (.ref p)) (λit s₂=>∃I fp wr n P St tr,it=.ref I/\Walks X.prog X.w X.A.in1 I fp wr n P St/\St 0 s₂.heap/\TruthOf X.prog X.w X.A.in1 P tr /\
   ∀h' tk,(∀b o,b ∉ wr->s₂.heap.get? b=some o->h'.get? b=some o)->R ((List.range n).all tr) ((List.range n).any tr) { s₂ with heap:=h',toks:=tk }) E s:=by
 obtain ⟨its,rv,pl,hz⟩:=I.list hq
 refine wpAny_pyIter_list pl.isList ?_
 have hne:p≠s.heap.objs.size:=by
  obtain ⟨o,ho,_⟩:=pl.isList
  exact Nat.ne_of_lt (Heap.lt_size ho)
 have I1:Inv X pins σ H { s with heap:=s.heap.push { cls:=.type "list_iterator",data:=.fields #[.ref p,rawInt 0] } }:=I.kept (t':=s.toks) λb o e=>qps _ e
 have fp:=I.fpOk (qlr s.heap.objs.size) I.fresh
 refine ⟨_,_,_,its.toArray.size,_,_,λi=>match its[i]? with|some (.bool b)=>b|_=>false,rfl,Walks.list (A:=X.A.in1) (I.ok.hd hc) s.heap.objs.size p hne its.toArray,?_,?_,?_⟩
 ·obtain ⟨o,ho,hc',n,hd⟩:=pl.isList
  exact ⟨⟨_,Heap.get?_push_size _ rfl,rfl,rfl⟩,⟨o,qps _ ho,hc',n,hd⟩⟩
 ·intro i v s' Q E' hP hQ
  have e1:its[i]? = some v:=by simpa using hP
  have hl:=rv.length
  have hi:i<ys.length:=by rw [hl];exact (qme e1).1
  obtain ⟨u,hu,ru⟩:=rv.get (qge hi)
  rw [e1] at hu;cases hu
  have hb2:=List.all_eq_true.mp hb _ (qem hi)
  dsimp only at hQ
  rw [e1] at hQ
  revert ru hb2
  generalize ys[i]=y
  intro ru hb2
  cases y with
  | bl b=>cases ru;exact wpAny_truthy_bool hQ
  | _=>exact absurd (show false=true from hb2) Bool.false_ne_true
 ·intro h' tk k
  have hs:its.toArray.size=ys.length:=by rw [List.size_toArray,rv.length]
  obtain ⟨a1,a2⟩:=yav (ys:=ys) (λi=>match its[i]? with|some (.bool b)=>b|_=>false) (λi y hy=>by
   obtain ⟨u,hu,ru⟩:=rv.get hy
   have hb2:=List.all_eq_true.mp hb _ (qmg hy)
   rw [hu]
   cases y with
   | bl b=>cases ru;rfl
   | _=>exact absurd (show false=true from hb2) Bool.false_ne_true)
  rw [hs,a1,a2]
  exact h _ (I1.turned (t':=tk) (λb o hb' e=>k b o (by simpa using hb') e) fp.1 fp.2.1 fp.2.2.2.1 fp.2.2.2.2.1 fp.2.2.2.2.2)
theorem yaw (hc:X.calm=true):CallR X (.builtin "all") (zjg X.K λys=>ys.all vT):=by
 intro pins s σ H xs us Q I r h
 obtain ⟨p,ys,rfl,hq,hb,q⟩:=h
 obtain ⟨u1,rfl,r1⟩:=r.one
 cases r1
 exact PySem.call_all_walk (zpo (R:=λa _ s'=>EP X pins σ Q (.bool a) s') hc I hq hb λs' I'=>⟨.bl _,H,I',rfl,q⟩)
theorem yax (hc:X.calm=true):CallR X (.builtin "any") (zjg X.K λys=>ys.any vT):=by
 intro pins s σ H xs us Q I r h
 obtain ⟨p,ys,rfl,hq,hb,q⟩:=h
 obtain ⟨u1,rfl,r1⟩:=r.one
 cases r1
 exact PySem.call_any_walk (zpo (R:=λ_ a s'=>EP X pins σ Q (.bool a) s') hc I hq hb λs' I'=>⟨.bl _,H,I',rfl,q⟩)
theorem yay {K:QFg}:Fn3 K zhs (zjg K λys=>ys.all vT):=by
 intro ρ S H xs vs v S' Q sim r h p
 unfold zhs at h
 split at h
 ·obtain ⟨ys,h1,h⟩:=bnd h
  obtain ⟨hb,e⟩:=za1 h
  cases e
  obtain ⟨w,rfl,rw'⟩:=r.one
  obtain ⟨a,us,ha,sq,r2⟩:=sim.lstOf h1
  obtain ⟨t1,t2,t3⟩:=zli r2
  cases rw' with
  | ref hn =>
   rw [ha] at hn;cases hn
   exact ⟨_,us,rfl,sq,by rw [t3];exact hb,by dsimp only;rw [t1];exact p ρ H _ (Ext.refl ..) sim (.bl _)⟩
 ·cases h
theorem yaz {K:QFg}:Fn3 K zgk (zjg K λys=>ys.any vT):=by
 intro ρ S H xs vs v S' Q sim r h p
 unfold zgk at h
 split at h
 ·obtain ⟨ys,h1,h⟩:=bnd h
  obtain ⟨hb,e⟩:=za1 h
  cases e
  obtain ⟨w,rfl,rw'⟩:=r.one
  obtain ⟨a,us,ha,sq,r2⟩:=sim.lstOf h1
  obtain ⟨t1,t2,t3⟩:=zli r2
  cases rw' with
  | ref hn =>
   rw [ha] at hn;cases hn
   exact ⟨_,us,rfl,sq,by rw [t3];exact hb,by dsimp only;rw [t2];exact p ρ H _ (Ext.refl ..) sim (.bl _)⟩
 ·cases h
theorem ya0:bootBuiltins "all" = some (.builtin "all"):=by decide +kernel
theorem ya1:bootBuiltins "any" = some (.builtin "any"):=by decide +kernel
theorem ya2 (hc:X.calm=true) (hg:Gl X "all") (hm:X.mg "all" = none) (ha:PA3 X (a :: es) mA) (he:starEach (a :: es) X.env=(false,eval a X.env) :: starEach es X.env:=by rfl) (hpl:(backTo pos (starEach es X.env)).any (·.1)=false:=by rfl):PE3 X (.Call (.Name "all" p) (a :: es) [] pos) (zae zhs mA) :=
 zfh (yaw hc) yay hg hm ya0 ha (by decide) (by decide) he hpl
theorem ya3 (hc:X.calm=true) (hg:Gl X "any") (hm:X.mg "any" = none) (ha:PA3 X (a :: es) mA) (he:starEach (a :: es) X.env=(false,eval a X.env) :: starEach es X.env:=by rfl) (hpl:(backTo pos (starEach es X.env)).any (·.1)=false:=by rfl):PE3 X (.Call (.Name "any" p) (a :: es) [] pos) (zae zgk mA) :=
 zfh (yax hc) yaz hg hm ya1 ha (by decide) (by decide) he hpl
end
theorem ya4 (I:Inv X pins σ H s):sysModules<s.heap.objs.size:=by
 have h:mainGlobals<s.heap.objs.size:=(I.mod.glob.keeps I.bk).lt
 exact Nat.lt_trans (by decide) h
section
theorem ya5:PE X (.Dict [] [] pos) (λ_ H Q=>∀p,H p=none->Q (.ref p) (upd H p (.dK []))):=λpins s σ H Q I h =>
 wpAny_Dict_empty ⟨.ref s.heap.objs.size,_,I.laid (a:=s.heap.objs.size) (o:=.dK []) (t':=s.toks) (λ_ _ q=>qps _ q) (qlr _)
  ⟨Nat.zero_le _,beq_eq_false_iff_ne.mpr (Ne.symm (Nat.ne_of_lt (ya4 I))),[],.nil,Heap.DictOf.new s.heap⟩,rfl,h _ I.fresh⟩
noncomputable def zpp:EM:=λ_ S=>some (.ref S.length,S++[.dct []])
theorem ya6:PE3 X (.Dict [] [] pos) zpp:=PE.imp ya5 λσ H Q hx1_=>by
 obtain ⟨ρ,l,S,v,S',sim,ro,hm,p⟩:=hx1_
 cases hm
 intro a ha
 exact p (ρ++[a]) _ _ (zku ha) (sim.pushG ha ⟨[],zbo,.nil⟩) (.ref (by rw [<-sim.len];exact zd2 ρ a))
end
section
end
mutual
noncomputable def pyT (S:Sto):Nat->D->Option PyData
 | 0,_=>none
 | _+1,.non=>some .none
 | _+1,.bl b=>some (.bool b)
 | _+1,.int i=>if i.natAbs.log2<1920 then some (.int i) else none
 | _+1,.str x=>some (.str x)
 | k+1,.tup xs=>(pyTs S k xs).bind λds=>some (.tuple ds)
 | k+1,.ref n=>match S[n]? with
  | some (.dct [])=>some (.dict [])
  | some (.dct [(Sum.inl i,d)])=>if i.natAbs.log2<1920 then (pyT S k d).bind λp=>some (.dict [(.int i,p)]) else none
  | _=>none
 | _+1,.fn _=>none
termination_by k=>(k,0)
noncomputable def pyTs (S:Sto):Nat->List D->Option (List PyData)
 | _,[]=>some []
 | k,x :: xs=>(pyT S k x).bind λd=>(pyTs S k xs).bind λds=>some (d :: ds)
termination_by k xs=>(k,xs.length+1)
end
mutual
theorem zpq (S:Sto):∀(k:Nat) (d:D) (p q:PyData),pyT S k d=some p->zan S k d=some q->p=q
 | 0,d,p,q,h,_=>by unfold pyT at h;cases h
 | k+1,.non,p,q,h,h'=>by unfold pyT at h;unfold zan at h';cases h;cases h';rfl
 | k+1,.bl b,p,q,h,h'=>by unfold pyT at h;unfold zan at h';cases h;cases h';rfl
 | k+1,.int i,p,q,h,h'=>by
  unfold pyT at h;unfold zan at h'
  obtain ⟨_,rfl⟩:=za1 h
  obtain ⟨_,rfl⟩:=za1 h'
  rfl
 | k+1,.str x,p,q,h,h'=>by unfold pyT at h;unfold zan at h';cases h;cases h';rfl
 | k+1,.fn a,p,q,h,h'=>by unfold pyT at h;cases h
 | k+1,.tup xs,p,q,h,h'=>by
  unfold pyT at h;unfold zan at h'
  obtain ⟨ds,h1,h⟩:=bnd h
  obtain ⟨es,h2,h'⟩:=bnd h'
  cases h;cases h'
  rw [py_agrees S k xs ds es h1 h2]
 | k+1,.ref n,p,q,h,h'=>by
  unfold pyT at h;unfold zan at h'
  obtain ⟨xs,h1,h'⟩:=bnd h'
  unfold lstOf at h1
  split at h
  ·rename_i e;rw [e] at h1;cases h1
  ·rename_i e;rw [e] at h1;cases h1
  ·cases h
termination_by k=>(k,0)
theorem py_agrees (S:Sto):∀(k:Nat) (xs:List D) (p q:List PyData),pyTs S k xs=some p->pyAll S k xs=some q->p=q
 | k,[],p,q,h,h'=>by unfold pyTs at h;unfold pyAll at h';cases h;cases h';rfl
 | k,x :: xs,p,q,h,h'=>by
  unfold pyTs at h;unfold pyAll at h'
  obtain ⟨d,h1,h⟩:=bnd h
  obtain ⟨ds,h2,h⟩:=bnd h
  obtain ⟨e,h3,h'⟩:=bnd h'
  obtain ⟨es,h4,h'⟩:=bnd h'
  cases h;cases h'
  rw [zpq S k x d e h1 h3,py_agrees S k xs ds es h2 h4]
termination_by k xs=>(k,xs.length+1)
end
section
mutual
theorem zlj (I:Inv X pins σ H s) (sim:Sim X.K ρ S H):∀(k:Nat) (d:D) (v:V) (u:Value) (p:PyData),RD ρ H d v->RelV v u->pyT S k d=some p->(∃as,Reads s.heap u p as/\sysModules ∉ as)/\p.showable=true/\p.depth<=k
 | 0,d,v,u,p,_,_,h=>by unfold pyT at h;cases h
 | k+1,.non,v,u,p,r,e,h=>by
  unfold pyT at h;cases h;cases r;cases e
  exact ⟨⟨_,.none,by simp⟩,rfl,Nat.zero_le _⟩
 | k+1,.bl b,v,u,p,r,e,h=>by
  unfold pyT at h;cases h;cases r;cases e
  exact ⟨⟨_,.bool b,by simp⟩,rfl,Nat.zero_le _⟩
 | k+1,.int i,v,u,p,r,e,h=>by
  unfold pyT at h
  obtain ⟨hz,e2⟩:=za1 h
  cases e2;cases r
  obtain ⟨t,rfl⟩:=e
  exact ⟨⟨_,.int i t,by simp⟩,by unfold PyData.showable;exact decide_eq_true hz,Nat.zero_le _⟩
 | k+1,.str x,v,u,p,r,e,h=>by
  unfold pyT at h;cases h;cases r
  obtain ⟨t,rfl⟩:=e
  exact ⟨⟨_,.str x t,by simp⟩,rfl,Nat.zero_le _⟩
 | k+1,.fn _,v,u,p,r,e,h=>by unfold pyT at h;cases h
 | k+1,.tup xs,v,u,p,r,e,h=>by
  unfold pyT at h
  obtain ⟨ds,h1,h⟩:=bnd h
  cases h
  cases r with
  | tup ha r =>
   cases e
   obtain ⟨its,rv,⟨o,ho,hc,n,hd⟩,hz⟩:=I.tuple (SqT.of ha)
   obtain ⟨⟨as,h2,hn⟩,h3,h5⟩:=readsTs_of I sim k xs _ _ ds r rv h1
   refine ⟨⟨as,.tuple ho hc hd (by simpa using h2),hn⟩,?_,?_⟩
   ·unfold PyData.showable;exact h3
   ·unfold PyData.depth;omega
 | k+1,.ref n,v,u,p,r,e,h=>by
  unfold pyT at h
  split at h
  ·rename_i e0
   cases h
   cases r with
   | @ref _ a hn =>
    cases e
    obtain ⟨vs,hH,r2⟩:=sim.at' n a _ hn e0
    obtain ⟨_,hd,ws,r0,o,es,ep,ho,hx,hdt,_,hp,_⟩:=I.hok a _ hH
    cases r0
    cases hes:es.toList with
    | nil =>
     refine ⟨⟨_,.dict (kvs:=[]) ho hx.1 hdt (by rw [hes];exact .nil) (by rw [hes];exact .nil),?_⟩,rfl,by unfold PyData.depth PyData.depthKv;omega⟩
     simp only [List.append_nil,List.mem_singleton]
     exact λz=>by subst z;simp at hd
    | cons e1 e2=>rw [hes] at hp;cases hp
  ·rename_i i d0 e0
   obtain ⟨hi,h⟩:i.natAbs.log2<1920/\((pyT S k d0).bind λp=>some (PyData.dict [(.int i,p)]))=some p:=by
    by_cases hi:i.natAbs.log2<1920
    ·rw [if_pos hi] at h;exact ⟨hi,h⟩
    ·rw [if_neg hi] at h;cases h
   obtain ⟨p0,h1,h⟩:=bnd h
   cases h
   cases r with
   | @ref _ a hn =>
    cases e
    obtain ⟨vs,hH,r2⟩:=sim.at' n a _ hn e0
    obtain ⟨w,rfl,rw'⟩:=r2.one
    obtain ⟨_,hd,ws,r0,o,es,ep,ho,hx,hdt,_,hp,_⟩:=I.hok a _ hH
    cases r0 with
    | @cons _ q0 _ _ hq t =>
     cases t
     obtain ⟨q1,q2⟩:=q0
     obtain ⟨hq1,hq2⟩:=hq
     cases hes:es.toList with
     | nil=>rw [hes] at hp;cases hp
     | cons e1 e2 =>
      rw [hes] at hp
      cases hp with
      | cons hk hval ht =>
       cases ht
       have hq1:Sum.inl i=q1:=hq1
       subst hq1
       have hval:e1.val=q2:=hval
       obtain ⟨⟨as,k1,k2⟩,k3,k4⟩:=zlj I sim k d0 w q2 p0 rw' hq2 h1
       obtain ⟨i',t',e3,e4⟩|⟨x',t',e3,e4⟩:=zdm (show zfb (Sum.inl i) e1.key=true from hk)
       ·cases e3
        refine ⟨⟨_,.dict (kvs:=[(.int i,p0)]) ho hx.1 hdt (as:=[]) (bs:=as++[]) ?_ ?_,?_⟩,?_,?_⟩
        ·rw [hes]
         simp only [List.map_cons,List.map_nil]
         rw [e4]
         have:=ReadsAll.cons (h:=s.heap) (Reads.int i t') ReadsAll.nil
         simpa using this
        ·rw [hes]
         simp only [List.map_cons,List.map_nil]
         rw [hval]
         exact .cons k1 .nil
        ·simp only [List.append_nil,List.mem_append,List.mem_cons,List.not_mem_nil,or_false,not_or]
         exact ⟨λz=>by subst z;simp at hd,k2⟩
        ·unfold PyData.showable PyData.showableKv PyData.showableKv
         rw [k3]
         have:(PyData.int i).showable=true:=by unfold PyData.showable;exact decide_eq_true hi
         rw [this];rfl
        ·unfold PyData.depth PyData.depthKv PyData.depthKv
         have:(PyData.int i).depth=0:=rfl
         omega
       ·cases e3
  ·cases h
termination_by k=>(k,0)
theorem readsTs_of (I:Inv X pins σ H s) (sim:Sim X.K ρ S H):∀(k:Nat) (xs:List D) (vs:List V) (us:List Value) (ds:List PyData),RDs ρ H xs vs->Vals vs us->pyTs S k xs=some ds->(∃as,ReadsAll s.heap us ds as/\sysModules ∉ as)/\PyData.showableAll ds=true/\PyData.depthAll ds<=k
 | k,[],vs,us,ds,r,e,h=>by
  unfold pyTs at h;cases h;cases r;cases e
  exact ⟨⟨_,.nil,by simp⟩,rfl,Nat.zero_le _⟩
 | k,x :: xs,vs,us,ds,r,e,h=>by
  unfold pyTs at h
  obtain ⟨d,h1,h⟩:=bnd h
  obtain ⟨ds',h2,h⟩:=bnd h
  cases h
  cases r with
  | cons r1 r2 =>
   cases e with
   | cons e1 e2 =>
    obtain ⟨⟨as,q1,q5⟩,q2,q4⟩:=zlj I sim k x _ _ d r1 e1 h1
    obtain ⟨⟨bs,p1,p5⟩,p2,p4⟩:=readsTs_of I sim k xs _ _ ds' r2 e2 h2
    refine ⟨⟨_,.cons q1 p1,by simp only [List.mem_append,not_or];exact ⟨q5,p5⟩⟩,?_,?_⟩
    ·unfold PyData.showableAll;rw [q2,p2];rfl
    ·unfold PyData.depthAll;omega
termination_by k xs=>(k,xs.length+1)
end
end
noncomputable def zdr:FM
 | [x],S=>(pyT S 140 x).bind λd=>if d.shown.length<=sizeLine then some (.str d.shown,S) else none
 | _,_=>none
section
theorem ya7 (hr:Room k X.A):CallR X (.builtin "repr") (λxs H Q=>∃v ρ S d pd,xs=[v]/\Sim X.K ρ S H/\RD ρ H d v/\pyT S 140 d=some pd/\pd.shown.length<=sizeLine/\Q (.str pd.shown) H):=by
 intro pins s σ H xs us Q I r h
 obtain ⟨v,ρ,S,d,pd,rfl,sim,rd,hp,hz,q⟩:=h
 obtain ⟨u,rfl,ru⟩:=zcr r
 have key:=zlj I sim 140 d v u pd rd ru hp
 have byRef:∀a,u=.ref a->wpAny (model X.prog X.w) X.A (call (.builtin "repr") [u]) (EP X pins σ Q) X.xe s:=λb hb=>by
  subst hb
  obtain ⟨⟨as,h1,hn⟩,h2,h4⟩:=key
  have hu:X.A.units+(pd.depth+1)<cLine:=by have:=hr.un;omega
  refine repr_of_reads' h1 h2 (λ_=>hn) hr.gd hu (λ_ _ e=>e) (λh' u tk hk=>?_) hz
  exact ⟨.str pd.shown,H,I.kept hk,⟨u,rfl⟩,q⟩
 have hp':=hp
 cases rd with
 | non=>cases ru;unfold pyT at hp';cases hp';exact P.repr_of_none ⟨.str _,H,I.tok _,⟨_,rfl⟩,q⟩
 | bl b=>cases ru;unfold pyT at hp';cases hp';exact P.repr_of_bool ⟨.str _,H,I.tok _,⟨_,by cases b <;> rfl⟩,q⟩
 | int i =>
  obtain ⟨t,rfl⟩:=ru
  unfold pyT at hp'
  obtain ⟨hi,e⟩:=za1 hp'
  cases e
  exact P.repr_of_int hi ⟨.str _,H,I.tok _,⟨_,rfl⟩,q⟩
 | str x=>obtain ⟨t,rfl⟩:=ru;unfold pyT at hp';cases hp';exact P.repr_of_str ⟨.str _,H,I.tok _,⟨_,rfl⟩,q⟩ hz
 | tup ha r=>exact byRef _ ru
 | ref hn=>exact byRef _ ru
 | fn b=>unfold pyT at hp';cases hp'
theorem ya8 {K:QFg}:Fn3 K zdr (λxs H Q=>∃v ρ S d pd,xs=[v]/\Sim K ρ S H/\RD ρ H d v/\pyT S 140 d=some pd/\pd.shown.length<=sizeLine/\Q (.str pd.shown) H):=by
 intro ρ S H xs vs v S' Q sim r h p
 unfold zdr at h
 split at h
 ·obtain ⟨pd,h1,h⟩:=bnd h
  obtain ⟨hz,e⟩:=za1 h
  cases e
  obtain ⟨w,rfl,rw'⟩:=r.one
  exact ⟨w,ρ,_,_,pd,rfl,sim,rw',h1,hz,p ρ H _ (Ext.refl ..) sim (.str _)⟩
 ·cases h
theorem CallR.or3 (h:CallR X f r) (h':CallR X f r'):CallR X f (λxs H Q=>r xs H Q\/r' xs H Q):=by
 intro pins s σ H xs us Q I rr q
 rcases q with q|q
 ·exact h pins s σ H xs us Q I rr q
 ·exact h' pins s σ H xs us Q I rr q
noncomputable def zfp:FM:=λxs S=>match zdr xs S with|some v=>some v|none=>zhq xs S
theorem ya9 {K:QFg}{r r':List V->Hp->VK->Prop}(h:Fn3 K zdr r) (h':Fn3 K zhq r'):Fn3 K zfp (λxs H Q=>r xs H Q\/r' xs H Q):=by
 intro ρ S H xs vs v S' Q sim rr hm p
 unfold zfp at hm
 cases e:zdr xs S with
 | some w=>rw [e] at hm;cases hm;exact .inl (h ρ S H xs vs _ _ Q sim rr e p)
 | none=>rw [e] at hm;exact .inr (h' ρ S H xs vs _ _ Q sim rr hm p)
end
theorem yba (h:zan S 140 x=some p\/pyT S 140 x=some p) (hz:p.shown.length<=sizeLine):Wo (zfp [x] S) Q=Q (.str p.shown) S:=by
 have:zfp [x] S=some (.str p.shown,S):=by
  unfold zfp
  rcases h with h|h
  ·cases e:pyT S 140 x with
   | some q =>
    have:=zpq S 140 x q p e h
    subst this
    have:zdr [x] S=some (.str q.shown,S):=by unfold zdr;dsimp only;rw [e];show (if _ then _ else _)=_;rw [if_pos hz]
    rw [this]
   | none =>
    have:zdr [x] S=none:=by unfold zdr;dsimp only;rw [e];rfl
    rw [this]
    unfold zhq;dsimp only;rw [h];show (if _ then _ else _)=_;rw [if_pos hz]
  ·have:zdr [x] S=some (.str p.shown,S):=by unfold zdr;dsimp only;rw [h];show (if _ then _ else _)=_;rw [if_pos hz]
   rw [this]
 rw [this];exact zbq
section
end
section
variable {P:Program}{w:World}{K:QFg}{elts:List Expr}{z:Nat}{tp:Pos}
end
open AutoSeq1
section
end
section
end
def ybb (K:QFg) (ρ:List Addr) (H:Hp) (it:ItM) (J:It):Prop:=∀(i:Nat) ρ' S' H',Ext ρ H ρ' H'->Sim K ρ' S' H' ->
 (it i S' = some none->J.stop i H')/\∀x,it i S' = some (some x)->J.go i H'/\∀y H'',J.yld i H' y H''->Ext ρ' H' ρ' H''/\Sim K ρ' S' H''/\RD ρ' H'' x y
section
variable {K:QFg}
end
section
end
theorem zjh {α:Type}{c:Prop} [Decidable c] {a:Option α}{v:α}(h:(if c then a else none)=some v):c/\a=some v:=by
 by_cases hc:c
 ·rw [if_pos hc] at h;exact ⟨hc,h⟩
 ·rw [if_neg hc] at h;cases h
section
theorem zpr {vs:Array Value}(hne:t≠b):∀(n i:Nat) (s:Shared) (Q:List Value->Shared->Prop),s.heap.IsListIter b t i->s.heap.IsList t vs->i+n<=vs.size ->
  (∀h1,h1.IsListIter b t (i+n)->Heap.SameBut b s.heap h1->Q ((vs.toList.drop i).take n) { s with heap:=h1 })->wpAny (model prog w) A (draw (.ref b) n) Q E s
 | 0,i,s,Q,hb,_,_,q=>by
  show wpAny _ _ (pure []) Q E s
  exact qwp (by simpa using q s.heap hb (Heap.SameBut.refl ..))
 | n+1,i,s,Q,hb,ht,hle,q=>by
  have hi:i<vs.size:=by omega
  show wpAny _ _ (pyNext (.ref b) >>= _) Q E s
  refine qwb (wpAny_pyNext_list_item hb ht (x:=vs[i]) (by simp [hi]) λh1 b1 s1=>?_)
  refine qwb (wpAny_holding (zpr hne n (i+1) _ _ b1 (ht.extBut s1.extBut hne) (by omega) λh2 b2 s2=>qwp ?_))
  have q2:=q h2 (by rw [show i+(n+1)=i+1+n by omega];exact b2) (s1.trans s2)
  rw [show vs.toList.drop i=vs[i] :: vs.toList.drop (i+1) by simp [List.drop_eq_getElem_cons,hi],List.take_succ_cons] at q2
  exact q2
theorem ybc {vs:Array Value}{ts:List (Bool × (Value->Sem Unit))}{Q:Unit->Shared->Prop}(hA:A.handled=none) (ht:s.heap.IsList t vs) (hn:ts.length=vs.size) (hst:ts.findIdx? (·.1)=none)
  (q:∀h1,Heap.ExtBut s.heap.objs.size s.heap h1->wpAny (model prog w) A (assignInOrder (ts.map (·.2)) vs.toList) Q E { s with heap:=h1 }):wpAny (model prog w) A (unpack (.ref t) ts) Q E s:=by
 have hlt:t≠s.heap.objs.size:=by obtain ⟨o,ho,_⟩:=ht;exact Nat.ne_of_lt (Heap.lt_size ho)
 unfold unpack
 rw [hn,hst]
 refine qwb (wpAny_holding ?_)
 unfold unpackItems
 refine qwb ?_
 ·unfold notIterableAtAll
  refine qwb (wpAny_specialOf ht.typeIs slot_list_iter.lookup (qwp ?_))
  simp only [qbf,if_false]
  refine qwb (wpAny_holding (wpAny_pyIter_list ht ?_))
  have ht0:=ht.push { cls:=.type "list_iterator",data:=.fields #[.ref t,.int 0 0] }
  refine qwb (wpAny_holding (zpr hlt vs.size 0 _ _ ⟨_,Heap.get?_push_size _ rfl,rfl,rfl⟩ ht0 (by omega) λh1 b1 s1=>?_))
  rw [show List.take vs.size (List.drop 0 vs.toList)=vs.toList by rw [List.drop_zero];exact List.take_of_length_le (by simp),if_neg (by simp)]
  refine qwb (wpAny_holding (wpAny_pyNext_list_end hA b1 (ht0.extBut s1.extBut hlt) (by simp) λh2 e2=>?_))
  simp only [Option.isSome_none,qbf,if_false]
  exact qwp (q h2 λc o hc z=>e2 c o hc (s1.extBut c o hc (qps _ z)))
end
section
def ybd (K:QFg) (n:Nat) (t:TGs):TG:=λv σ H Q=>∃a xs,v=.ref a/\SqL K H a xs/\xs.length=n/\t xs σ H Q
theorem ybe {t:TGs}(hc:X.calm=true) (h:PGs X es t) (hn:(assignEach es X.env).length=n:=by rfl) (hst:(assignEach es X.env).findIdx? (·.1)=none:=by rfl):PG X (.Tuple es k pos) (ybd X.K n t):=by
 intro pins s σ H v u Q I r hw
 obtain ⟨a,xs,rfl,hq,hl,hw⟩:=hw
 cases r
 obtain ⟨its,rv,ht,hz⟩:=I.list hq
 rw [assign_Tuple]
 refine qwb (wpAny_standAt (ybc (I.ok.hd hc) ht.isList (by simp [hn,<-hl,rv.length]) hst λh1 hx=>?_))
 have I1:Inv X pins σ H { s with heap:=h1 }:=I.kept (t':=s.toks) λb o e=>hx b o (Nat.ne_of_lt (Heap.lt_size e)) e
 exact h pins _ σ H xs _ Q I1 (by simpa using rv) hw
noncomputable def zht (n:Nat) (g:GsM):GM
 | .tup xs,l,S=>if xs.length=n then g xs l S else none
 | .ref j,l,S=>(lstOf S j).bind λxs=>if xs.length=n then g xs l S else none
 | _,_,_=>none
theorem PG.or {tg:Expr}{t u:TG}(h:PG X tg t) (h':PG X tg u):PG X tg (λv σ H Q=>t v σ H Q\/u v σ H Q):=by
 intro pins s σ H v w Q I r q
 rcases q with q|q
 ·exact h pins s σ H v w Q I r q
 ·exact h' pins s σ H v w Q I r q
theorem ybf (hc:X.calm=true) (h:zhf X es gs) (hn:(assignEach es X.env).length=n:=by rfl) (hst:(assignEach es X.env).findIdx? (·.1)=none:=by rfl):PG3 X (.Tuple es k pos) (zht n gs) :=
 PG.imp (PG.or (zna hc h hn hst) (ybe hc h hn hst)) λv σ H Q hx1_=>by
  obtain ⟨ρ,l,S,d,l',S',sim,ro,rd,hm,p⟩:=hx1_
  cases rd with
  | @tup xs a vs ha r =>
   have hm:(if xs.length=n then gs xs l S else none)=some (l',S'):=hm
   obtain ⟨hl,hm⟩:=zjh hm
   exact .inl ⟨a,vs,rfl,SqT.of ha,by rw [<-r.length];exact hl,ρ,l,S,xs,l',S',sim,ro,r,hm,p⟩
  | @ref j a hj =>
   obtain ⟨xs,hx,hm⟩:=bnd (show (lstOf S j).bind (λxs=>if xs.length=n then gs xs l S else none)=some (l',S') from hm)
   obtain ⟨hl,hm⟩:=zjh hm
   obtain ⟨c,us,hc',sq,rv⟩:=sim.lstOf hx
   rw [hj] at hc';cases hc'
   exact .inr ⟨a,us,rfl,sq,by rw [<-rv.length];exact hl,ρ,l,S,xs,l',S',sim,ro,rv,hm,p⟩
  | _=>cases hm
end
section
variable {lo hi:Option Expr}{ml mh:OM}
end
section
end
noncomputable def zlk:D->D->Sto->Option (D × Sto)
 | .str z,.int i,S=>if z.length<=sizeLine then (atI z.cps.toList i).bind λc=>some (.str ⟨#[c]⟩,S) else none
 | _,_,_=>none
noncomputable def zap:D->D->Sto->Option (D × Sto):=λx y S=>match dIx x y S with|some v=>some v|none=>zlk x y S
theorem ybg {K:QFg}:Op3 K zlk zkn:=by
 intro ρ S H x y x' y' v S' Q sim rx ry h p
 unfold zlk at h
 split at h
 ·cases rx;cases ry
  split at h
  ·rename_i hz
   obtain ⟨c,h1,h⟩:=bnd h
   cases h
   exact ⟨_,_,c,rfl,rfl,hz,h1,p ρ H _ (Ext.refl ..) sim (.str _)⟩
  ·cases h
 ·cases h
theorem ybh {K:QFg}:Op3 K zap (rIx K):=by
 intro ρ S H x y x' y' v S' Q sim rx ry hm p
 unfold zap at hm
 cases e:dIx x y S with
 | some w=>rw [e] at hm;cases hm;exact zyv ρ S H x y x' y' _ _ Q sim rx ry e p
 | none=>rw [e] at hm;exact .inr (.inr (ybg ρ S H x y x' y' _ _ Q sim rx ry hm p))
noncomputable def zcp:FM
 | [.str z],S=>if z.length<=sizeLine then some (.int z.length,S) else none
 | xs,S=>zhj xs S
section
variable {X:Cx}{a b:Expr}{ma mb:EM}{mA:AM}{es:List Expr}{pos p:Pos}{K:QFg}
theorem za9 (ha:PE3 X a ma) (hb:PE3 X b mb) (hs:znx b:=by intro _ _;rfl):PE3 X (.Subscript a b pos) (eOp zap ma mb):=PE.imp (zxf zxh ha hb hs) (zi2 ybh)
theorem ybi:Fn3 K zcp (λxs H Q=>(∃p ys,xs=[.ref p]/\(SqL K H p ys\/SqT K H p ys)/\Q (.int ys.length) H)\/∃z,xs=[.str z]/\z.length<=sizeLine/\Q (.int z.length) H):=by
 intro ρ S H xs vs v S' Q sim r h p
 unfold zcp at h
 split at h
 ·obtain ⟨hz,e⟩:=za1 h
  cases e
  obtain ⟨w,rfl,rw'⟩:=r.one
  cases rw'
  exact .inr ⟨_,rfl,hz,p ρ H _ (Ext.refl ..) sim (.int _)⟩
 ·exact .inl (zy1 ρ S H _ vs v S' Q sim r h p)
theorem zeo (hg:Gl X "len") (hm:X.mg "len" = none) (ha:PA3 X (a :: es) mA) (he:starEach (a :: es) X.env=(false,eval a X.env) :: starEach es X.env:=by rfl) (hpl:(backTo pos (starEach es X.env)).any (·.1)=false:=by rfl):PE3 X (.Call (.Name "len" p) (a :: es) [] pos) (zae zcp mA) :=
 zfh (call_len_seq.or zxp) ybi hg hm PySem.boot_len ha (by decide) (by decide) he hpl
end
noncomputable def zep:D->Option Key
 | .int i=>some (.inl i)
 | .str x=>some (.inr x)
 | _=>none
noncomputable def zcz (kvs:List (Key × D)) (k:Key):Option D:=(kvs.find? λkv=>decide (kv.1=k)).map (·.2)
noncomputable def zc6 (kvs:List (Key × D)) (k:Key) (v:D):List (Key × D):=if (kvs.any λkv=>decide (kv.1=k))=true then kvs.map (λkv=>if kv.1=k then (kv.1,v) else kv) else kvs++[(k,v)]
noncomputable def zeb (S:Sto) (n:Nat):Option (List (Key × D)):=match S[n]? with
 | some (.dct kvs)=>some kvs
 | _=>none
theorem zhu (h:zeb S n=some kvs):S[n]? = some (.dct kvs):=by
 unfold zeb at h
 split at h
 ·cases h;assumption
 ·cases h
section
variable {K:QFg}{ρ:List Addr}{H:Hp}{S:Sto}
theorem kv_get:∀{kvs:List (Key × D)}{vs:List V},RDs ρ H (kvs.map (·.2)) vs->(zcz kvs k=none->zbu ((kvs.map (·.1)).zip vs) k=none)/\∀d,zcz kvs k=some d->∃v,zbu ((kvs.map (·.1)).zip vs) k=some v/\RD ρ H d v
 | [],vs,r=>by
  cases r
  exact ⟨λ_=>rfl,λd h=>by cases h⟩
 | (k',d') :: kvs,vs,r=>by
  cases r with
  | @cons _ v _ vs r1 r2 =>
   by_cases e:k' = k
   ·have e1:zcz ((k',d') :: kvs) k=some d':=by simp [zcz,e]
    have e2:zbu ((((k',d') :: kvs).map (·.1)).zip (v :: vs)) k=some v:=zg8 (p:=(k',v)) e
    rw [e1,e2]
    exact ⟨λz=>(by cases z),λd h=>(by cases h;exact ⟨v,rfl,r1⟩)⟩
   ·have e1:zcz ((k',d') :: kvs) k=zcz kvs k:=by simp [zcz,e]
    have e2:zbu ((((k',d') :: kvs).map (·.1)).zip (v :: vs)) k=zbu ((kvs.map (·.1)).zip vs) k:=zg9 (p:=(k',v)) e
    rw [e1,e2]
    exact kv_get r2
theorem kv_any (k:Key):∀{kvs:List (Key × D)}{vs:List V},RDs ρ H (kvs.map (·.2)) vs->(((kvs.map (·.1)).zip vs).any λkv=>decide (kv.1=k))=kvs.any λkv=>decide (kv.1=k)
 | [],vs,r=>by cases r;rfl
 | (k',d') :: kvs,vs,r=>by
  cases r with
  | @cons _ v _ vs r1 r2 =>
   show (decide (k' = k) || (((kvs.map (·.1)).zip vs).any λkv=>decide (kv.1=k)))=(decide (k' = k) || _)
   rw [kv_any k r2]
theorem zps (rv:RD ρ H d v) (r:RDs ρ H (kvs.map (·.2)) vs):∃ws,zbs ((kvs.map (·.1)).zip vs) k v=((zc6 kvs k d).map (·.1)).zip ws/\RDs ρ H ((zc6 kvs k d).map (·.2)) ws:=by
 unfold zbs zc6
 rw [kv_any k r]
 by_cases e:(kvs.any λkv=>decide (kv.1=k))=true
 ·rw [if_pos e,if_pos e]
  clear e
  induction kvs generalizing vs with
  | nil=>cases r;exact ⟨[],rfl,.nil⟩
  | cons p kvs ih =>
   obtain ⟨k',d'⟩:=p
   cases r with
   | @cons _ u _ us r1 r2 =>
    obtain ⟨ws,h1,h2⟩:=ih r2
    by_cases e:k' = k
    ·refine ⟨v :: ws,?_,?_⟩
     ·simp only [List.map_cons,List.zip_cons_cons,if_pos e];rw [<-h1]
     ·simp only [List.map_cons,if_pos e];exact .cons rv h2
    ·refine ⟨u :: ws,?_,?_⟩
     ·simp only [List.map_cons,List.zip_cons_cons,if_neg e];rw [<-h1]
     ·simp only [List.map_cons,if_neg e];exact .cons r1 h2
 ·rw [if_neg e,if_neg e]
  refine ⟨vs++[v],?_,?_⟩
  ·rw [List.map_append,List.zip_append (by rw [qlm];have:=r.length;rw [qlm] at this;exact this)];rfl
  ·rw [List.map_append];exact r.append (.cons rv .nil)
theorem zgl (h:zep d=some k) (r:RD ρ H d v):v=kV k:=by
 cases r <;> first|(cases h;rfl)|cases h
theorem Sim.dct {n:Nat}{kvs:List (Key × D)}(s:Sim K ρ S H) (h:S[n]? = some (.dct kvs)):∃a vs,ρ[n]? = some a/\H a=some (.dK ((kvs.map (·.1)).zip vs))/\RDs ρ H (kvs.map (·.2)) vs:=by
 have hl:n<ρ.length:=by rw [s.len];exact (qme h).1
 obtain ⟨vs,e,r⟩:=s.at' n _ _ (qge hl) h
 exact ⟨_,vs,qge hl,e,r⟩
end
noncomputable def zhv:D->D->Sto->Option (D × Sto)
 | .ref n,y,S=>(zeb S n).bind λkvs=>(zep y).bind λk=>(zcz kvs k).bind λv=>some (v,S)
 | _,_,_=>none
def ybj:R2:=λx y H Q=>∃a v,x=.ref a/\DGet H a y (some v)/\Q v H
theorem ybk {K:QFg}:Op3 K zhv ybj:=by
 intro ρ S H x y x' y' v S' Q sim rx ry h p
 unfold zhv at h
 split at h
 ·obtain ⟨kvs,h1,h⟩:=bnd h
  obtain ⟨k,h2,h⟩:=bnd h
  obtain ⟨w,h3,h⟩:=bnd h
  cases h
  obtain ⟨a,vs,ha,hH,r⟩:=sim.dct (zhu h1)
  obtain ⟨u,hu,ru⟩:=(kv_get r).2 _ h3
  cases rx with
  | ref hn =>
   rw [ha] at hn;cases hn
   have ey:=zgl h2 ry
   subst ey
   exact ⟨_,u,rfl,by rw [<-hu];exact DGet.k hH,p ρ H u (Ext.refl ..) sim ru⟩
 ·cases h
section
variable {X:Cx}{a b e:Expr}{ma mb me:EM}{pos pos':Pos}{k:Nat}
theorem zgm (hr:Room k X.A):X.A.units+1<cLine:=by have:=hr.un;omega
theorem ybl (hr:Room k X.A):OpR X (compareOp .NotIn) (λy x H Q=>∃a o,x=.ref a/\DGet H a y o/\Q (.bl (!o.isSome)) H):=by
 intro pins s σ H y x v u Q I ry rx h
 obtain ⟨a,o,rfl,g,q⟩:=h
 cases rx
 exact zx6 (zgm hr) I g ry λs' I'=>⟨.bl _,H,I',rfl,q⟩
end
noncomputable def zll:D->D->D->Sto->Option Sto
 | .ref n,y,v,S=>(zeb S n).bind λkvs=>(zep y).bind λk=>if kvs.length<sizeLine then some (S.set n (.dct (zc6 kvs k v))) else none
 | _,_,_,_=>none
theorem zgn (kvs:List (Key × V)):zef (.dK kvs):=⟨λ_ z=>(by cases z),λ_ _ z=>(by cases z)⟩
section
end
section
end
section
end
section
variable {P:Program}{w:World}{K:QFg}{elts:List Expr}{z:Nat}{tp:Pos}
end
section
end
inductive tiL (K:QFg) (im:IM) (σ:St) (H:Hp) (R:It->Hp->Prop):Prop
 | mk (ρ:_) (l:_) (S:_) (it:_) (k:_) (S':_) (_:Sim K ρ S H) (_:RO ρ H l σ) (_:im l S=some (it,k,S')) (_:∀ρ' H' J,Ext ρ H ρ' H'->Sim K ρ' S' H'->ybb K ρ' H' it J->R J H')
def zpt (X:Cx) (tgt iter:Expr) (im:IM):Prop:=PI X tgt iter (tiL X.K im)
section
end
section
end
def ybm:V->Option Int->Option Int->Hp->VK->Prop:=λx lo hi H Q=>∃z,x=.str z/\z.length<=sizeLine/\Q (.str (Txt.slice z lo hi)) H
theorem zpu (h:IsPart v o):∃l:Option (Int × Tok),v=partValue l/\o=l.map (·.1):=by
 cases h with
 | none=>exact ⟨none,rfl,rfl⟩
 | int i t=>exact ⟨some (i,t),rfl,rfl⟩
theorem ybn:SlR X ybm:=by
 intro pins s σ H x v vl vu lo hi sl Q I rx hs pl pu h
 obtain ⟨z,rfl,hz,q⟩:=h
 obtain ⟨t,rfl⟩:=rx
 obtain ⟨l,rfl,rfl⟩:=zpu pl
 obtain ⟨u,rfl,rfl⟩:=zpu pu
 refine ⟨"str",_,F.slot_str_getitem.lookup,typeIs_str _ _ _,?_⟩
 refine wpAny_getItem_str_slice (l:=l) (u:=u) (st:=none) hs rfl ?_
 refine post_val_or_str ⟨Nat.le_trans (Txt.slice_le z _ _) hz,λt' k=>?_⟩
 exact ⟨.str _,H,I.tok _,⟨t',rfl⟩,q⟩
noncomputable def ze2 (m:EM) (lo hi:OM):EM:=λl S=>(m l S).bind λp=>(lo l p.2).bind λq=>(hi l q.2).bind λr=>match p.1 with
 | .tup xs=>some (.tup (zch xs q.1 r.1),r.2)
 | .ref n=>(lstOf r.2 n).bind λxs=>some (.ref r.2.length,r.2++[.lst (zch xs q.1 r.1)])
 | .str z=>if z.length<=sizeLine then some (.str (Txt.slice z q.1 r.1),r.2) else none
 | _=>none
section
variable {lo hi:Option Expr}{ml mh:OM}
theorem zhw (he:PE3 X a ma) (hl:PO3 X lo ml) (hu:PO3 X hi mh):PE3 X (.Subscript a (.Slice lo hi none p2) pos) (ze2 ma ml mh):=PE.imp (zxd (((sl_tup.or zyx).or zxn).or ybn) he hl hu) λσ H Q hx1_=>by
 obtain ⟨ρ,l,S,v,S',sim,ro,hm,p⟩:=hx1_
 obtain ⟨⟨x,S1⟩,h1,hm⟩:=bnd hm
 obtain ⟨⟨y,S2⟩,h2,hm⟩:=bnd hm
 obtain ⟨⟨z,S3⟩,h3,hm⟩:=bnd hm
 refine ⟨ρ,l,S,x,S1,sim,ro,h1,λρ1 H1 x' e1 s1 r1=>⟨ρ1,l,S1,y,S2,s1,ro.mono e1,h2,λρ2 H2 e2 s2=>⟨ρ2,l,S2,z,S3,s2,ro.mono (e1.trans e2),h3,λρ3 H3 e3 s3=>?_⟩⟩⟩
 have e13:=e1.trans (e2.trans e3)
 cases r1 with
 | @tup xs a vs ha r =>
  cases hm
  have ha3:=(e2.trans e3).tup _ _ ha
  have r3:=r.mono (e2.trans e3)
  have hlen:=r.length
  by_cases hw:HT.sIx vs.length 0 y=0/\HT.sIx vs.length vs.length z=vs.length
  ·refine .inl (.inl (.inr ⟨a,vs,rfl,SqT.of ha3,hw,?_⟩))
   have:=zyy xs y z (by rw [hlen];exact hw)
   dsimp only at p
   rw [this] at p
   exact p ρ3 H3 _ e13 s3 (.tup ha3 r3)
  ·refine .inl (.inl (.inl ⟨a,vs,rfl,SqT.of ha3,hw,?_⟩))
   have rc:RDs ρ3 H3 (zch xs y z) (zdz vs y z):=by
    unfold zch zdz
    rw [hlen]
    exact (r3.drop _).take _
   exact zf6 s3 rc (Pv.ext p e13)
 | @ref j b hj =>
  obtain ⟨xs,hx,hm⟩:=bnd (show (lstOf S3 j).bind (λxs=>some (D.ref S3.length,S3++[.lst (zch xs y z)]))=some (v,S') from hm)
  cases hm
  obtain ⟨c,us,hc,sq,rv⟩:=s3.lstOf hx
  have:=(e2.trans e3).pre _ _ hj
  rw [this] at hc;cases hc
  have rc:RDs ρ3 H3 (zch xs y z) (zdz us y z):=by
   unfold zch zdz
   rw [rv.length]
   exact (rv.drop _).take _
  exact .inl (.inr ⟨b,us,rfl,sq,zf7 s3 rc (Pv.ext p e13)⟩)
 | str t =>
  obtain ⟨hz,e⟩:=za1 (show (if t.length<=sizeLine then some (D.str (Txt.slice t y z),S3) else none)=some (v,S') from hm)
  cases e
  exact .inr ⟨t,rfl,hz,p ρ3 H3 _ e13 s3 (.str _)⟩
 | _=>cases hm
end
noncomputable def zlm:D->D->Sto->Option (D × Sto)
 | .str i,.str j,S=>if i.length+j.length<=sizeLine then some (.str (i++j),S) else none
 | _,_,_=>none
noncomputable def zbm:D->D->Sto->Option (D × Sto):=λx y S=>match zlm x y S with|some v=>some v|none=>zk6 x y S
theorem op3_plusS {K:QFg}:Op3 K zlm (λx y H Q=>∃i j,x=.str i/\y=.str j/\i.length+j.length<=sizeLine/\Q (.str (i++j)) H):=by
 intro ρ S H x y x' y' v S' Q sim rx ry h p
 unfold zlm at h
 split at h
 ·obtain ⟨hz,e⟩:=za1 h
  cases e;cases rx;cases ry
  exact ⟨_,_,rfl,rfl,hz,p ρ H _ (Ext.refl ..) sim (.str _)⟩
 ·cases h
theorem zb5 (ha:PE3 X a ma) (hb:PE3 X b mb):PE3 X (.BinOp a .Add b pos) (eOp zbm ma mb):=zf5 (op_add_str.or (op_add.or ((op_catT.or zyz).or zxx))) (op3_plusS.or zzm) ha hb
noncomputable def zhx:FM
 | [.str z],S=>(intText? z).bind λn=>if z.length<=640 then some (.int n,S) else none
 | xs,S=>zk2 xs S
section
variable {X:Cx}{a:Expr}{es:List Expr}{mA:AM}{pos p:Pos}{K:QFg}
theorem call_int_text:CallR X (.type "int") (λxs H Q=>∃z n,xs=[.str z]/\intText? z=some n/\z.length<=640/\Q (.int n) H):=by
 intro pins s σ H xs us Q I r h
 obtain ⟨z,n,rfl,h1,h2,q⟩:=h
 obtain ⟨u,rfl,ru⟩:=zcr r
 obtain ⟨t,rfl⟩:=ru
 exact PySem.W.KIN.call_text h1 h2 ⟨.int n,H,I.tok _,⟨_,rfl⟩,q⟩
theorem ybo:Fn3 K zhx (λxs H Q=>(∃z n,xs=[.str z]/\intText? z=some n/\z.length<=640/\Q (.int n) H)\/((∃i,xs=[.int i]/\Q (.int i) H)\/∃k,xs=[.bl k]/\Q (.int (if k then 1 else 0)) H)):=by
 intro ρ S H xs vs v S' Q sim r h p
 unfold zhx at h
 split at h
 ·obtain ⟨n,h1,h⟩:=bnd h
  obtain ⟨hz,e⟩:=za1 h
  cases e
  obtain ⟨w,rfl,rw'⟩:=r.one
  cases rw'
  exact .inl ⟨_,_,rfl,h1,hz,p ρ H _ (Ext.refl ..) sim (.int _)⟩
 ·exact .inr (zy3 ρ S H _ vs v S' Q sim r h p)
theorem ybp (hg:Gl X "int") (hm:X.mg "int" = none) (ha:PA3 X (a :: es) mA) (he:starEach (a :: es) X.env=(false,eval a X.env) :: starEach es X.env:=by rfl) (hpl:(backTo pos (starEach es X.env)).any (·.1)=false:=by rfl):PE3 X (.Call (.Name "int" p) (a :: es) [] pos) (zae zhx mA) :=
 zoo (call_int_text.or zwt) ybo hg hm zzo ha (by decide) (by decide) he hpl
end
section
end
noncomputable def zgo:List D->Option (List Int)
 | []=>some []
 | .int i :: r=>(zgo r).bind λns=>some (i :: ns)
 | _=>none
theorem zpv:∀{xs:List D}{ns:List Int}{vs:List V},zgo xs=some ns->RDs ρ H xs vs->vs=ns.map V.int
 | [],ts,vs,h,r=>by cases h;cases r;rfl
 | x :: xs,ts,vs,h,r=>by
  cases r with
  | cons r1 r2 =>
   cases r1 with
   | int z =>
    obtain ⟨ts',h1,h⟩:=bnd (show (zgo xs).bind (λts=>some (z :: ts))=some ts from h)
    cases h
    rw [zpv h1 r2];rfl
   | _=>cases h
section
end
section
variable {prog:Program}{w:World}{A:Around}{E:Value->Shared->Prop}{s:Shared}
end
section
variable {P:Program}{w:World}{K:QFg}{tg:Expr}
end
section
variable {X:Cx}{tg:Expr}
end
section
variable {X:Cx}{tgt:Expr}{a:Expr}{mA:AM}{p0 pos':Pos}
end
section
theorem ybq:bootBuiltins "sorted" = some (.builtin "sorted"):=by decide +kernel
end
section
end
section
theorem ybr {elt vx target iter:Expr}{ifs:List Expr}{scope:Scope}{pos:Pos}{it:Value}{D:Addr}{env:Env}(I:Nat->Shared->Prop)
  (turn:∀n s,I n s->wpAny (model prog w) A (pyNext it) (λr s₁=>match r with
   | none=>R (.ok .next) s₁
   | some v=>wpAny (model prog w) A (letOwnedTupleGo target it v) (λ_ s₁'=>wpAny (model prog w) A (assign target env v) (λ_ s₂ =>
     wpAny (model prog w) A (forIn ifs true λc r=>if r=true then do let ok <-isTrue c env (eval c env);pure (ForInStep.yield ok) else pure (ForInStep.yield r)) (λok s₃ =>
      if ok=true then wpAny (model prog w) A (eval elt env) (λkv s₄=>wpAny (model prog w) A (eval vx env) (λvv s₅ =>
       wpAny (model prog w) A (dictSet D kv vv) (λ_ s₆=>∃m,m<n/\I m s₆) (λ_ _=>False) s₅) (λ_ _=>False) s₄) (λ_ _=>False) s₃
      else ∃m,m<n/\I m s₃) (λ_ _=>False) s₂) (λ_ _=>False) s₁') (λ_ _=>False) s₁) (λ_ _=>False) s)
  (n:Nat) (h:I n s) :
  codeAny (model prog w) A (.compLoop (.DictComp elt vx [⟨target,iter,ifs,0⟩] scope pos) 0 it (.ref D) env) R s:=by
 refine codeAny_loop rfl I (λn s hI=>?_) n h
 show wpAny _ A ((compTurn (.DictComp elt vx [⟨target,iter,ifs,0⟩] scope pos) 0 it (.ref D) env).onRaise (λx=>do noteFrame x env;theTreesLotGoes x)) _ _ s
 refine wpAny_noted ?_
 rw [compTurn_dict]
 refine qwb (wpAny_standAt (qwb (wpAny_mono (turn n s hI) (λr s₁ h₁=>?_) λ_ _ h'=>h'.elim)))
 cases r with
 | none=>exact qwp h₁
 | some v =>
  refine qwb (wpAny_mono h₁ (λ_ s₁' h₁=>?_) λ_ _ h'=>h'.elim)
  refine qwb (wpAny_mono h₁ (λ_ s₂ h₂=>qwb (wpAny_mono h₂ (λok s₃ h₃=>?_) λ_ _ h'=>h'.elim)) λ_ _ h'=>h'.elim)
  cases ok with
  | false=>exact qwp ⟨rfl,h₃⟩
  | true =>
   exact qwb (qwb (wpAny_mono h₃ (λkv s₄ h₄=>qwb (wpAny_holding (wpAny_mono h₄ (λvv s₅ h₅=>qwb (wpAny_standAt (wpAny_holding (wpAny_mono h₅ (λ_ s₆ h₆=>qwp ⟨rfl,h₆⟩) λ_ _ h'=>h'.elim)))) λ_ _ h'=>h'.elim))) λ_ _ h'=>h'.elim))
end
noncomputable def zfq (k v:EM):EM:=λl S=>(k l S).bind λp=>(v l p.2).bind λq=>some (.tup [p.1,q.1],q.2)
section
variable {K:QFg}{ρ:List Addr}{H:Hp}{S:Sto}
theorem Sim.besideG (s:Sim K ρ S H) (ha:H a=some u0) (hu:zef u0) (hn:∀n:Nat,ρ[n]?≠some a):Sim K ρ S (upd H a u) :=
 ⟨s.len,s.nd,λn b o h1 h2=>(s.at' n b o h1 h2).writtenG ha hu λ_ z=>hn n (by rw [h1,z])⟩
theorem Ext.besideG (e:Ext ρ0 H0 ρ H) (h0:H0 a=none) (ha:H a=some u0) (hu:zef u0):Ext ρ0 H0 ρ (upd H a u) :=
 ⟨⟨e.pre,λb vs h=>by rw [zaj (zcm (e.tup b vs h) ha (λz=>hu.1 vs z.symm))];exact e.tup b vs h,λb o vs h=>by rw [zaj (zcm (e.frz b o vs h) ha (λz=>hu.2 o vs z.symm))];exact e.frz b o vs h⟩,λb vs h n=>⟨by rw [zaj (zbh h h0)];exact (e.out b vs h n).1,(e.out b vs h n).2⟩⟩
theorem Sim.adoptG (s:Sim K ρ S H) (ha:ObR K ρ H o1 a) (hn:∀n:Nat,ρ[n]?≠some a):Sim K (ρ++[a]) (S++[o1]) H:=by
 refine ⟨by simp [s.len],λi j b x1 x2 h1 h2 h3 h4 m1 m2=>?_,λn b o h1 h2=>?_⟩
 ·have hl:=s.len
  rcases zbk h1 with g1|⟨e1,f1⟩ <;> rcases zbk h2 with g2|⟨e2,f2⟩
  ·have l1:=(qme g1).1
   have l2:=(qme g2).1
   rcases zbk h3 with g3|⟨e3,_⟩ <;> rcases zbk h4 with g4|⟨e4,_⟩
   ·exact s.nd i j b x1 x2 g1 g2 g3 g4 m1 m2
   ·omega
   ·omega
   ·omega
  ·subst f2;exact absurd g1 (hn i)
  ·subst f1;exact absurd g2 (hn j)
  ·omega
 ·rcases zbk h1 with h1|⟨e1,f1⟩
  ·rcases zbk h2 with h2|⟨e2,f2⟩
   ·exact (s.at' n b o h1 h2).more ext0_push
   ·have:=(qme h1).1;have:=s.len;omega
  ·subst f1
   rcases zbk h2 with h2|⟨e2,f2⟩
   ·have:=(qme h2).1;have:=s.len;omega
   ·subst f2
    exact ha.more ext0_push
end
theorem zpw {kvs:List (Key × D)}(r:RDs ρ H (kvs.map (·.2)) vs):((kvs.map (·.1)).zip vs).length=kvs.length:=by
 rw [List.length_zip,qlm];have:=r.length;rw [qlm] at this;omega
noncomputable def kD:Key->D
 | .inl i=>.int i
 | .inr x=>.str x
theorem ybs (k:Key):RD ρ H (kD k) (kV k):=by
 cases k with
 | inl i=>exact .int i
 | inr x=>exact .str x
theorem ybt (h:(zbr P w).is k u=true):RelV (kV k) u:=by
 rcases zdm h with ⟨i,t,rfl,rfl⟩|⟨x,t,rfl,rfl⟩
 ·exact ⟨t,rfl⟩
 ·exact ⟨t,rfl⟩
noncomputable def Itd (o:Obj) (a:Addr) (kvs:List (Key × V)):It:=⟨λi H=>H a=some (.frz o (.dK kvs))/\i<kvs.length,λi H x H'=>H' = H/\∃p,kvs[i]? = some p/\x=kV p.1,λi H=>H a=some (.frz o (.dK kvs))/\kvs.length<=i⟩
theorem ybu (I:Inv X pins σ H s) (h:H a=some (.frz o (.dK kvs))) :
  s.heap.get? a=some o/\kvs.length<=sizeLine/\(a == sysModules)=false/\∃vs,KV kvs vs/\s.heap.DictOf (zbr X.prog X.w) a vs:=I.hok a _ h
theorem ybv {kvs:List (Key × V)}{vs:List (Key × Value)}(r:KV kvs vs) {i:Nat}{p:Key × V}{q:Key × Value}(h1:kvs[i]? = some p) (h2:vs[i]? = some q):p.1=q.1:=by
 have e:=r.keys
 have e1:(kvs.map (·.1))[i]? = some p.1:=by rw [qgm,h1];rfl
 have e2:(vs.map (·.1))[i]? = some q.1:=by rw [qgm,h2];rfl
 rw [e,e2] at e1
 exact (qoi e1).symm
theorem zpx (hd:o.data=.dict es ep) (I:Inv X pins σ H s) (h:H a=some (.frz o (.dK kvs))) :
  ∃vs,KV kvs vs/\s.heap.DictAt (zbr X.prog X.w) a vs ep:=by
 obtain ⟨g0,_,_,vs,rel,od,es',ep',ho,r1,r2,r3⟩:=ybu I h
 rw [g0] at ho;cases ho
 rw [hd] at r2;cases r2
 exact ⟨vs,rel,_,_,g0,r1,hd,r3⟩
theorem ybw {P:Program}{w:World}{K:QFg}{tg:Expr}(a it:Addr) (o:Obj) (es:Array DictEntry) (ep:Nat) (hd:o.data=.dict es ep) (kvs:List (Key × V)):Turn P w K tg (Itd o a kvs) [it] it (λi h=>h.IsKeyIter it a i kvs.length ep) where
 mem:=by simp
 obj:=λi h st b hb=>by
  have e:b=it:=by simpa using hb
  subst e
  obtain ⟨o,e,c,d⟩:=st
  exact ⟨o,e,λv z=>by rw [d] at z;cases z⟩
 keep:=λi h h' st k=>st.at λo e=>k it (by simp) o e
 item:=by
  intro X hP hw hK hc i pins s σ H E I hf st hg
  subst hP hw hK
  obtain ⟨hH,hi⟩:=hg
  obtain ⟨vs,rel,hm⟩:=zpx hd I hH
  have hl:=rel.length
  obtain ⟨p,hp⟩:∃p,kvs[i]? = some p:=⟨_,qge hi⟩
  obtain ⟨q,hq⟩:∃q,vs[i]? = some q:=⟨_,qge (by omega)⟩
  have ek:=ybv rel hp hq
  obtain ⟨f0,f1,f2,f3,f4,f5⟩:=hf it (by simp)
  obtain ⟨qk,qv⟩:=q
  refine wpAny_pyNext_dict_item (by rw [<-hl];exact st) hm hq λkey h' hkey st' sb=>?_
  rw [<-hl] at st'
  have I1:Inv X pins σ H { s with heap:=h' }:=I.turned (t':=s.toks) (λb o hb e=>(sb.2 b hb).trans e) f0 f1 f3 f4 f5
  obtain ⟨o',e,c,d⟩:=id st'
  exact ⟨key,rfl,zit (s:={ s with heap:=h' }) e c d (by decide) ⟨kV p.1,H,I1,by rw [ek];exact ybt hkey,⟨rfl,p,hp,rfl⟩,st',λb hb=>(hf b hb).1⟩⟩
 done:=by
  intro X hP hw hK hc i pins s σ H E I hf st hg
  subst hP hw hK
  obtain ⟨hH,hi⟩:=hg
  obtain ⟨vs,rel,hm⟩:=zpx hd I hH
  have hl:=rel.length
  obtain ⟨f0,f1,f2,f3,f4,f5⟩:=hf it (by simp)
  exact wpAny_pyNext_dict_end (I.ok.hd hc) (by rw [<-hl];exact st) hm (List.getElem?_eq_none_iff.mpr (by omega)) λh' eb=>⟨rfl,I.turned (t':=s.toks) (λb o hb e=>eb b o hb e) f0 f1 f3 f4 f5⟩
 self:=λA i s Q E st h=>wpAny_pyIter_keyiter st h
section
variable {X:Cx}{tg:Expr}
theorem ybx (hl:PE X l tl):PI X tg l (λσ H R=>tl σ H λx H1=>∃a kvs,x=.ref a/\H1 a=some (.dK kvs)/\∀o,R (Itd o a kvs) (upd H1 a (.frz o (.dK kvs)))):=by
 intro pins s σ H R I h
 refine thn (hl pins s σ H _ I h) λv s1 ⟨x,H1,I1,r1,q1⟩=>?_
 obtain ⟨a,kvs,e,hH,q⟩:=q1
 subst e
 cases r1
 obtain ⟨z,hs,vs,rel,o,es,ep,ho,r1,r2,r3⟩:=ziz I1.hok hH
 refine wpAny_pyIter_dict hs (show s1.heap.DictAt (zbr X.prog X.w) a vs ep from ⟨o,es,ho,r1,r2,r3⟩) ?_
 have I2:Inv X pins σ (upd H1 a (.frz o (.dK kvs))) s1:=I1.write (x:=a) (e:=a) (h':=s1.heap) (t':=s1.toks) (by rw [hH];exact True.intro) (.inl rfl) (λb u _ e=>e) ⟨o,ho⟩ ⟨ho,z,hs,vs,rel,o,es,ep,ho,r1,r2,r3⟩
 refine ⟨s1.heap.objs.size,[s1.heap.objs.size],_,_,_,rfl,I2.kept (t':=s1.toks) λb o e=>qps _ e,ybw a _ o es ep r2 kvs,?_,λb hb=>?_,q o⟩
 ·rw [rel.length]
  exact ⟨_,Heap.get?_push_size _ rfl,rfl,rfl⟩
 ·have e:b=s1.heap.objs.size:=by simpa using hb
  subst e
  exact I1.fpOk (qlr _) (I2.hok.fresh (qlr _))
end
noncomputable def zgp (m:EM):IM:=λl S=>(m l S).bind λp=>match p.1 with
 | .ref n=>(zeb p.2 n).bind λkvs=>some (itX (kvs.map λq=>kD q.1),kvs.length+1,p.2.set n (.fdct kvs))
 | _=>none
theorem yby {K:QFg}{ρ:List Addr}{H:Hp}{a:Addr}{o:Obj}{kvs:List (Key × D)}{vs:List V}(r:RDs ρ H (kvs.map (·.2)) vs) (h:H a=some (.frz o (.dK ((kvs.map (·.1)).zip vs)))):zhl K ρ H (itX (kvs.map λq=>kD q.1)) (Itd o a ((kvs.map (·.1)).zip vs)):=by
 intro i ρ' S' H' e s
 have hf:=e.frz _ _ _ h
 have hl:=zpw r
 refine ⟨λh=>?_,λx h=>?_⟩
 ·have h:(kvs.map λq=>kD q.1)[i]? = none:=qoi h
  have:=List.getElem?_eq_none_iff.mp h
  rw [qlm] at this
  exact ⟨hf,by omega⟩
 ·have h:(kvs.map λq=>kD q.1)[i]? = some x:=qoi h
  have hi:=(qme h).1
  rw [qlm] at hi
  refine ⟨⟨hf,by omega⟩,λy H'' ⟨e1,p,hp,e2⟩=>⟨e1,?_⟩⟩
  subst e2
  rw [qgm,qge hi] at h
  cases h
  have:p.1=kvs[i].1:=by
   obtain ⟨h1,h2⟩:=qme hp
   rw [<-h2]
   simp
  rw [this]
  exact ybs _
section
variable {X:Cx}{tgt iter:Expr}{m:EM}
theorem ybz (hi:PE3 X iter m):PI3 X tgt iter (zgp m):=PI.imp (ybx hi) λσ H R hx1_=>by
 obtain ⟨ρ,l,S,it,k,S',sim,ro,hm,p⟩:=hx1_
 obtain ⟨⟨x,S1⟩,q1,hm⟩:=bnd hm
 dsimp only at hm
 split at hm
 ·rename_i n
  obtain ⟨kvs,hx,hm⟩:=bnd hm
  cases hm
  refine ⟨ρ,l,S,.ref n,_,sim,ro,q1,λρ1 H1 x' e1 s1 r1=>?_⟩
  obtain ⟨a,vs,ha,hH,r⟩:=s1.dct (zhu hx)
  cases r1 with
  | ref hn =>
   rw [ha] at hn;cases hn
   refine ⟨a,_,rfl,hH,λo=>?_⟩
   have ex:=zhd (o:=.frz o (.dK ((kvs.map (·.1)).zip vs))) ha hH (zgn _)
   exact p ρ1 _ _ (e1.trans ex) (s1.setG ha (zhu hx) rfl hH (zgn _) ⟨o,vs,zbo,r.mono ex⟩) (yby (r.mono ex) zbo)
 ·cases hm
end
section
end
noncomputable def zln (scope scO:Scope):Scope:={ scope with names:=scope.names.map λ(n,k)=>if (k == .free && scO.kind == .function && scO.names.lookup n == some .cell) then (n,.cell) else (n,k) }
theorem yb0 (scope:Scope) (env:Env):relabel scope env=zln scope env.scope:=rfl
open PySem.W
def Fly (h:Heap) (e C T:Addr):Prop:=∃oe vs oT ts a0,h.get? e=some oe/\oe.cls=.ref C/\oe.data=.fields vs/\vs[0]? = some a0/\vs[1]? = some (.ref T)/\T≠e/\h.get? T=some oT/\oT.data=.fields ts/\ts[3]? = some .none
structure Tr (fs:List Addr) (e T:Addr) (h h':Heap):Prop where
 keep:∀b o,b ∉ fs->b≠e->b≠T->h.get? b=some o->h'.get? b=some o
 slot:∀b o,b∈fs->h.get? b=some o->(∀vs,o.data≠.fields vs)->∃sl,h'.get? b=some { o with slots:=sl }
section
theorem zpy:∀env∈l,∀a,env.frame=some a->a∈frs l:=λenv he a ha=>List.mem_filterMap.mpr ⟨env,he,ha⟩
def New (h:Heap) (e C:Addr):Prop:=∃oe vs a0,h.get? e=some oe/\oe.cls=.ref C/\oe.data=.fields vs/\vs[0]? = some a0/\vs[1]? = some .none
theorem yb1 (hfr:A.frames=some (env :: outer)) (hl:s.heap.FunFrames base (env :: outer)) (hf:env.frame=some L) (fl:New s.heap e C)
  (hQ:∀h' T',Tr (frs (env :: outer)) e e s.heap h'->Fly h' e C T'->s.heap.get? T' = none->Q () { s with heap:=h' }):wpAny M A (leaving env (.ref e)) Q E s:=by
 obtain ⟨oe,vs,a0,he,hc,hd,h0,h1⟩:=fl
 refine wpAny_leaving_firstW (base:=hideAll s.heap (e :: frs (env :: outer))) (a0:=a0) hfr (funFrames_hide hl λv hv a ha=>List.mem_cons_of_mem _ (zpy v hv a ha)) hf he (λb o q=>of_hideAll _ q) (hideAll_none _ (by simp)) hd h1 h0 λh' hL=>?_
 obtain ⟨k1,k2,⟨oe',vs',T',oT',ts',e1,⟨c1,z1⟩,d1,f1,n1,ne1,g1,d1',t1⟩,k4⟩:=hL
 refine hQ h' T' ⟨λb o hb h2 h3 q=>k1 b o (hideAll_get _ q (by simp only [List.mem_cons,not_or];exact ⟨h2,hb⟩)),λb o _ q hn=>k4 b o q hn⟩ ⟨oe',vs',oT',ts',a0,e1,c1.trans hc,d1,z1,f1,ne1,g1,d1',t1⟩ ?_
 cases q:s.heap.get? T' with
 | none=>rfl
 | some o =>
  by_cases hm:T'∈e :: frs (env :: outer)
  ·rcases List.mem_cons.mp hm with z|z
   ·exact absurd z ne1
   ·obtain ⟨_,o2,ho2,hnf⟩:=hl.mem z
    rw [q] at ho2;cases ho2
    obtain ⟨sl,hs⟩:=k4 T' o q hnf
    rw [g1] at hs;cases hs
    exact absurd d1' (hnf ts')
  ·rw [hideAll_get _ q hm] at n1;cases n1
end
theorem ObjOk.there (x:ObjOk P w H h a o):∃q,h.get? a=some q:=by
 cases o with
 | lst xs=>obtain ⟨_,_,_,_,e⟩:=x;exact ⟨_,e⟩
 | tup xs=>obtain ⟨_,_,_,ob,e,_⟩:=x;exact ⟨_,e⟩
 | dK kvs=>obtain ⟨_,_,_,_,o,_,_,e,_⟩:=x;exact ⟨_,e⟩
 | dT kvs=>obtain ⟨_,_,_,_,o,_,_,e,_⟩:=x;exact ⟨_,e⟩
 | set S n=>obtain ⟨o,_,_,_,e,_⟩:=x;exact ⟨_,e⟩
 | ins C dx fs=>obtain ⟨_,_,_,e,_⟩:=x;exact ⟨_,e⟩
 | own y=>obtain ⟨_,e⟩:=x;exact ⟨_,e⟩
 | xd fs=>obtain ⟨_,⟨_,_,_,e,_⟩,_⟩:=x;exact ⟨_,e⟩
 | rng lo hi=>obtain ⟨_,_,_,e⟩:=x;exact ⟨_,e⟩
 | frz ob u=>obtain ⟨e,_⟩:=x;exact ⟨_,e⟩
 | tbl ps=>exact ⟨_,x⟩
 | met f y=>exact ⟨_,x⟩
 | ext φ=>obtain ⟨_,e,_⟩:=x;exact e
def CX1 (P:Program) (w:World):CXT:=λouter H s E x s'=>∃a C T H',x=.ref a/\s'.os=s.os/\AllBare s'.gens/\Un (frs outer) [] H H' s.heap s'.heap/\HOk P w H' s'.heap /\
 s.heap.get? a=none/\s.heap.get? T=none/\Fly s'.heap a C T/\H' a=none/\H' T=none/\E (.ref C) none H'
section
variable {P:Program}{w:World}{K:QFg}{mg:Str->Option Value}{base:Heap}{N:List Str}{qual:Str}{scope:Scope}{f:Addr}{cd:Value}{A:Around}{outer:List Env}{s:Shared}{H:Hp}{E:XK}
theorem yb2 (I:Inv (zb2 (CX1 P w) P w K mg base N qual scope f cd A outer s H E) pins σ H1 s1)
  (na:s.heap.get? a=none) (nT:s.heap.get? T=none) (ha:H1 a=none) (hT:H1 T=none) (hE:E (.ref C) none H1)
  (tr:Tr (frs (envOfC qual scope s.heap.objs.size f cd :: outer)) a T s1.heap h') (fl:Fly h' a C T') (hT':T' = T\/s1.heap.get? T' = none) :
  CX1 P w outer H s E (.ref a) { s1 with heap:=h' }:=by
 have hsub:∀b,b∈frs (envOfC qual scope s.heap.objs.size f cd :: outer)->b=s.heap.objs.size\/b∈frs outer:=λb hb=>by
  rcases List.mem_cons.mp (I.stkSub b hb) with z|z
  ·exact .inl z
  ·exact .inr z
 have hne:∀b o,s.heap.get? b=some o->b≠a/\b≠T/\b≠s.heap.objs.size:=λb o q=>⟨λz=>(by rw [z,na] at q;cases q),λz=>(by rw [z,nT] at q;cases q),Nat.ne_of_lt (Heap.lt_size q)⟩
 have nT':s.heap.get? T' = none:=by
  rcases hT' with rfl|q
  ·exact nT
  ·cases z:s.heap.get? T' with
   | none=>rfl
   | some o=>obtain ⟨o',e⟩:=I.base.there T' o z (by simp [zb2]);rw [q] at e;cases e
 have hT'':H1 T' = none:=by
  rcases hT' with rfl|q
  ·exact hT
  ·cases z:H1 T' with
   | none=>rfl
   | some u=>obtain ⟨o',e⟩:=ObjOk.there (I.hok T' u z);rw [q] at e;cases e
 refine ⟨a,C,T',H1,rfl,I.os,I.bare,⟨λb o q n hb hx=>?_,λb o q n hb hx=>?_,λb o q n hx=>?_,λb o q hx=>?_,I.base.tups,I.base.frzs,I.base.tbls⟩,λb u e=>?_,na,nT',fl,ha,hT'',hE⟩
 ·obtain ⟨h1,h2,h3⟩:=hne b o q
  exact tr.keep b o (λz=>(hsub b z).elim h3 hb) h1 h2 (I.base.keep b o q n hb (by simp [zb2]))
 ·obtain ⟨sl,e⟩:=I.base.slot b o q n hb (by simp [zb2])
  have hb':b∈frs (envOfC qual scope s.heap.objs.size f cd :: outer):=by
   unfold frs at hb ⊢
   rw [List.filterMap_cons]
   split
   ·exact hb
   ·exact List.mem_cons_of_mem _ hb
  obtain ⟨_,o2,ho2,hnf⟩:=I.funs.mem hb
  rw [e] at ho2;cases ho2
  obtain ⟨sl',e'⟩:=tr.slot b _ hb' e hnf
  exact ⟨sl',e'⟩
 ·exact I.base.free b o q n (by simp [zb2])
 ·obtain ⟨h1,h2,h3⟩:=hne b o q
  obtain ⟨o',e⟩:=I.base.there b o q (by simp [zb2])
  by_cases hb:b∈frs (envOfC qual scope s.heap.objs.size f cd :: outer)
  ·obtain ⟨_,o2,ho2,hnf⟩:=I.stack.mem hb
   rw [e] at ho2;cases ho2
   obtain ⟨sl,e'⟩:=tr.slot b _ hb e hnf
   exact ⟨_,e'⟩
  ·exact ⟨o',tr.keep b o' hb h1 h2 e⟩
 ·refine (I.hok b u e).stay (λc v hc q=>?_) (λ_ q=>q) λ_ _ q=>q
  have hcn:H1 c≠none:=by
   rcases hc with z|z
   ·rw [z,e];intro y;cases y
   ·rw [z];intro y;cases y
  exact tr.keep c v (λz=>hcn (I.stkFree c z)) (λz=>hcn (by rw [z];exact ha)) (λz=>hcn (by rw [z];exact hT)) q
theorem yb3 (I:Inv (zb2 (CX1 P w) P w K mg base N qual scope f cd A outer s H E) pins σ H1 s1)
  (na:s.heap.get? a=none) (ha:H1 a=none) (fl:New s1.heap a C) (hE:E (.ref C) none H1) :
  (zb2 (CX1 P w) P w K mg base N qual scope f cd A outer s H E).xe (.ref a) s1 :=
 yb1 (L:=s.heap.objs.size) I.ok.frames I.stack rfl fl λh' T' tr fl' hT'=>yb2 I na na ha ha hE tr fl' (.inr hT')
end
abbrev ZM:=Lo->Sto->Option (Str × Sto)
abbrev ZF:=List D->Sto->Option (Str × Sto)
def Rz (K:QFg) (E:XK) (CA:Str->Addr) (r:ZM):L2.St->Hp->Prop:=λσ H=>∃ρ l S C S',Sim K ρ S H/\RO ρ H l σ/\r l S=some (C,S')/\∀ρ' H',Ext ρ H ρ' H'->Sim K ρ' S' H'->E (.ref (CA C)) none H'
def PSz (X:Cx) (E:XK) (CA:Str->Addr) (st:Stmt) (r:ZM):Prop:=PS X st (λ_ σ H=>Rz X.K E CA r σ H)
def zgq (X:Cx) (E:XK) (CA:Str->Addr) (st:List Stmt) (r:ZM):Prop:=PSs X st (λ_ σ H=>Rz X.K E CA r σ H)
def spZ (K:QFg) (CA:Str->Addr) (n:Nat) (rx:ZF):Sp:=λvs H _ E=>vs.length=n/\∃ρ ds S C S',Sim K ρ S H/\RDs ρ H ds vs/\rx ds S=some (C,S')/\∀ρ' H',Ext ρ H ρ' H'->Sim K ρ' S' H'->E (.ref (CA C)) none H'
noncomputable def zlo:ZM:=λ_ _=>none
noncomputable def zIf (t:TM) (r q:ZM):ZM:=λl S=>(t l S).bind λp=>if p.1=true then r l p.2 else q l p.2
noncomputable def zlp (rx:ZF) (mA:AM):ZM:=λl S=>(mA l S).bind λp=>rx p.1 p.2
section
variable {E:XK}{CA:Str->Addr}{st:Stmt}{rest:List Stmt}{r q:ZM}
theorem Rz.none {K:QFg}{σ:L2.St}{H:Hp}(h:Rz K E CA zlo σ H):False:=by
 obtain ⟨ρ,l,S,C,S',sim,ro,hm,p⟩:=h;cases hm
theorem yb4:zgq X E CA rest zlo:=λ_ _ _ _ _ _ h=>h.none.elim
theorem yb5:PSs X rest (λ_ _ _=>False):=λ_ _ _ _ _ _ h=>h.elim
theorem zpz (h:PSz X E CA st r):zgq X E CA (st :: rest) r:=λpins s σ H D I q=>zm7 (u:=λ_ _ _=>False) h yb5 pins s σ H D I q
theorem yb6 (hc:PT3 X c mc) (ha:zgq X E CA a r) (hb:zgq X E CA d q):PSz X E CA (.If c a d pos) (zIf mc r q):=λpins s σ H D I ⟨ρ,l,S,C,S',sim,ro,hm,p⟩=>zm8 hc ha hb pins s σ H D I (by
 obtain ⟨⟨x,S1⟩,q1,hm⟩:=bnd hm
 refine ⟨ρ,l,S,x,S1,sim,ro,q1,λρ1 H1 e1 s1=>?_⟩
 cases x with
 | true=>exact zc2 ⟨ρ1,l,S1,C,S',s1,ro.mono e1,hm,λρ2 H2 e2 s2=>p ρ2 H2 (e1.trans e2) s2⟩
 | false=>exact zc1 ⟨ρ1,l,S1,C,S',s1,ro.mono e1,hm,λρ2 H2 e2 s2=>p ρ2 H2 (e1.trans e2) s2⟩)
end
def ze3 (P:Program) (w:World) (K:QFg) (mg:Str->Option Value) (base:Heap) (CA:Str->Addr) (x:Str) (k n:Nat) (rx:ZF):Prop :=
 ∃(f:Addr) (fd:FuncData) (ps:List Str),FnOk P w K mg base (CX1 P w) k f fd ps (spZ K CA n rx)/\mg x=some (.ref f)/\PySem.W.keepIn K (.ref f)=true/\Binds K fd ps []
section
end
noncomputable abbrev zc7:List Value:=[.type "ValueError",.type "Exception",.type "BaseException",.type "object"]
noncomputable def zeq (K:QFg) (C:Addr):List Value:=match K.lookup C with
 | some ⟨_,_,.cls cd,_⟩=>cd.mro.tail
 | _=>[]
theorem zji {K:QFg}{h:Heap}{C:Addr}{bmB:List Value}{newId:String}(X:K.In h) (q:excIn K C bmB newId=true) :
  ∃N nm qn bs hdct sn sub ab col dd k0 k1 k2 k3 k5 mN,h.get? C=some (excClassObj nm qn C N bs (zeq K C) hdct sn sub ab col dd k0 k1 k2 k3 k5 newId)/\h.Ns N mN/\mN "__init__" = none/\OwnTail h bmB (zeq K C):=by
 unfold excIn at q
 split at q
 ·rename_i dd cd sl ho
  split at q
  ·rename_i C' bm k0 k1 k2 k3 n k5 hm hs
   simp only [Bool.and_eq_true,beq_iff_eq,Bool.not_eq_true'] at q
   obtain ⟨⟨⟨⟨⟨rfl,rfl⟩,hdel⟩,ht⟩,hok⟩,hni⟩:=q
   obtain ⟨nm,bs,mro,ns,qn,hd,sn,sub,ab,col,del⟩:=cd
   dsimp only at hm hdel hok hni
   subst hm hdel
   have hsl:sl = #[k0,k1,k2,k3,some (.builtin n),k5]:=by
    obtain ⟨l⟩:=sl
    simp only at hs
    rw [hs]
   subst hsl
   have et:zeq K C' = bm:=by unfold zeq;rw [ho];rfl
   rw [et]
   exact ⟨ns,nm,qn,bs,hd,sn,sub,ab,col,dd,k0,k1,k2,k3,k5,_,X _ _ ho,.of_isNs (isNs_of_in X hok),nsMap_none_of_in X hok hni,tail_of_in X ht⟩
  ·cases q
 ·cases q
section
variable {P:Program}{w:World}{K:QFg}{mg:Str->Option Value}{base:Heap}{N:List Str}{qual:Str}{scope:Scope}{f:Addr}{cd:Value}{A:Around}{outer:List Env}{s:Shared}{H:Hp}{E:XK}{CA:Str->Addr}
theorem yb7 {x z:Str}{j:Nat}{np p1 cpos pos:Pos}(hg:Gl (zb2 (CX1 P w) P w K mg base N qual scope f cd A outer s H E) x) (hm:mg x=some (.ref (CA x))) (q:excIn K (CA x) zc7 "ValueError.__new__" = true) (hd:(x == ("__debug__":Str))=false:=by decide) :
  PSz (zb2 (CX1 P w) P w K mg base N qual scope f cd A outer s H E) E CA (.Raise (some (.Call (.Name x np) [.Constant (.str z) j p1] [] cpos)) none pos) (λ_ S=>some (x,S)):=by
 intro pins s1 σ H1 D I ⟨ρ,l,S,C,S',sim,ro,hz,p⟩
 cases hz
 have hE:=p ρ H1 (Ext.refl ..) sim
 obtain ⟨N',nm,qn,bs,hdct,sn,sub,ab,col,dd,k0,k1,k2,k3,k5,mN,hC,hN,hni,T⟩:=zji (h:=base) I.mod.kin q
 refine wpAny_Raise_call_subU (C:=CA x) (nm:=nm) (q:=qn) (N:=N') (bs:=bs) (bm:=zeq K (CA x)) (hdct:=hdct) (sn:=sn) (sub:=sub) (ab:=ab) (col:=col) (dd:=dd) (k0:=k0) (k1:=k1) (k2:=k2) (k3:=k3) (k5:=k5)
  F.excBase_ValueError (by decide) F.excBase_ValueError (mN:=mN) (T.hasType F.excBase_ValueError.hasBase) (I.ok.hd rfl) rfl hni (ziq I hg hm ⟨rfl,?_⟩ hd)
 refine Calls.evalArgs_plain (thn (zeu (X:=zb2 (CX1 P w) P w K mg base N qual scope f cd A outer s H E) (e:=.Constant (.str z) j p1) zm6 zf1 rfl cpos pins s1 σ H1 (λvs H2=>H2=H1/\vs.length=1) I ⟨rfl,rfl⟩) λus s2 ⟨vs,H2,I2,r,e2,hl⟩=>?_)
 subst e2
 refine ⟨rfl,by rw [<-r.length,hl];decide,I2.bk _ _ hC,hN.keeps I2.bk,T.keeps I2.bk,λh' e hm=>?_⟩
 have I3:=I2.kept (h':=h') (t':=s2.toks) hm.keeps
 have hne:=hm.new
 have na:s.heap.get? e=none:=by
  cases z:s.heap.get? e with
  | none=>rfl
  | some o=>obtain ⟨o',e'⟩:=I2.base.there e o z (by simp [zb2]);rw [hne] at e';cases e'
 have ha:H2 e=none:=by
  cases z:H2 e with
  | none=>rfl
  | some u=>obtain ⟨o',e'⟩:=ObjOk.there (I2.hok e u z);rw [hne] at e';cases e'
 obtain ⟨t,ht,_,_⟩:=hm.there
 exact yb3 (s1:={ s2 with heap:=h' }) I3 na ha ⟨_,_,_,ht,rfl,rfl,rfl,rfl⟩ hE
end
section
variable {M:Model}{A:Around}{E:Value->Shared->Prop}{s:Shared}{base:Heap}{env:Env}{outer l:List Env}{L e C T:Addr}{Q:Unit->Shared->Prop}
theorem zp0 (hl:s.heap.FunFrames base l) (held:Heap.FlyingW (hideAll s.heap (e :: T :: frs l)) l e (.ref C) a0 h') (sm:s.heap.UpToSlots h') :
  ∃T',Tr (frs l) e T s.heap h'/\Fly h' e C T'/\(T' = T\/s.heap.get? T' = none):=by
 obtain ⟨k1,k2,k3,oe',vs',T',oT',ts',e1,⟨c1,z1⟩,d1,f1,n1,ne1,g1,d1',t1⟩:=held
 refine ⟨T',⟨λb o hb h2 h3 q=>k1 b o (hideAll_get _ q (by simp only [List.mem_cons,not_or];exact ⟨h2,h3,hb⟩)),λb o _ q hn=>sm b o q hn⟩,⟨oe',vs',oT',ts',a0,e1,c1,d1,z1,f1,ne1,g1,d1',t1⟩,?_⟩
 cases q:s.heap.get? T' with
 | none=>exact .inr rfl
 | some o =>
  refine .inl ?_
  by_cases hm:T'∈e :: T :: frs l
  ·rcases List.mem_cons.mp hm with z|z
   ·exact absurd z ne1
   ·rcases List.mem_cons.mp z with z|z
    ·exact z
    ·obtain ⟨_,o2,ho2,hnf⟩:=hl.mem z
     rw [q] at ho2;cases ho2
     obtain ⟨sl,hs⟩:=sm T' o q hnf
     rw [g1] at hs;cases hs
     exact absurd d1' (hnf ts')
  ·rw [hideAll_get _ q hm] at n1;cases n1
theorem zp1 (hl:s.heap.FunFrames base l) (fl:Fly s.heap e C T):∃a0,Heap.FlyingW (hideAll s.heap (e :: T :: frs l)) l e (.ref C) a0 s.heap:=by
 obtain ⟨oe,vs,oT,ts,a0,he,hc,hd,h0,h1,hTe,hT,hdT,h3⟩:=fl
 exact ⟨a0,λb o q=>of_hideAll _ q,hideAll_none _ (by simp),funFrames_hide hl λv hv a ha=>List.mem_cons_of_mem _ (List.mem_cons_of_mem _ (zpy v hv a ha)),oe,vs,T,oT,ts,he,⟨hc,h0⟩,hd,h1,hideAll_none _ (by simp),hTe,hT,hdT,h3⟩
theorem yb8 (hfr:A.frames=some (env :: outer)) (hl:s.heap.FunFrames base (env :: outer)) (hf:env.frame=some L) (fl:Fly s.heap e C T)
  (hQ:∀h' T',Tr (frs (env :: outer)) e T s.heap h'->Fly h' e C T'->(T' = T\/s.heap.get? T' = none)->Q () { s with heap:=h' }) :
  wpAny M A (noteFrame (.ref e) env) (λ_ s₂=>wpAny M A (setFlight (.ref e) none) Q E s₂) E s:=by
 obtain ⟨a0,fw⟩:=zp1 hl fl
 refine wpAny_looks_onW hfr hf fw λh4 held4 sm4=>?_
 refine wpAny_landsW (s:={ s with heap:=h4 }) held4 λh5 held sm5=>?_
 obtain ⟨T',t1,t2,t3⟩:=zp0 hl held (sm4.trans sm5)
 exact hQ h5 T' t1 t2 t3
theorem yb9 (hl:s.heap.FunFrames base l) (fl:Fly s.heap e C T)
  (hQ:∀h' T',Tr (frs l) e T s.heap h'->Fly h' e C T'->(T' = T\/s.heap.get? T' = none)->Q () { s with heap:=h' }):wpAny M A (setFlight (.ref e) none) Q E s:=by
 obtain ⟨a0,fw⟩:=zp1 hl fl
 refine lands_againW fw λh5 held sm5=>?_
 obtain ⟨T',t1,t2,t3⟩:=zp0 hl held sm5
 exact hQ h5 T' t1 t2 t3
end
section
theorem Inv.tr (I:Inv X pins σ H s) (hex:X.ex=[]) (tr:Tr (frs X.stack) a T s.heap h') (na:X.s₀.heap.get? a=none) (nT:X.s₀.heap.get? T=none) (ha:H a=none) (hT:H T=none)
  (oL:X.env.locals≠a/\X.env.locals≠T) (oC:∀x c,X.env.cells.lookup x=some c->c≠a/\c≠T) (oP:∀p∈X.pn++pins,p.1≠a/\p.1≠T):Inv X pins σ H { s with heap:=h',toks:=t' }:=by
 have kp:∀b o,(∀vs,o.data≠.fields vs)->b≠a->b≠T->s.heap.get? b=some o->∃sl,h'.get? b=some { o with slots:=sl }:=λb o hn h1 h2 q=>by
  by_cases hb:b∈frs X.stack
  ·exact tr.slot b o hb q hn
  ·exact ⟨o.slots,tr.keep b o hb h1 h2 q⟩
 have hne:∀b o,X.s₀.heap.get? b=some o->b≠a/\b≠T/\b≠X.env.locals:=λb o q=>⟨λz=>(by rw [z,na] at q;cases q),λz=>(by rw [z,nT] at q;cases q),Nat.ne_of_lt (Nat.lt_of_lt_of_le (Heap.lt_size q) I.ok.above)⟩
 have nex:∀b,b ∉ X.ex:=λb=>by rw [hex];simp
 refine ⟨I.ok,I.os,I.bare,⟨λb o q n hb hx=>?_,λb o q n hb hx=>?_,I.base.free,λb o q hx=>?_,I.base.tups,I.base.frzs,I.base.tbls⟩,?_,λx c e=>?_,I.free,I.freeC,λp hp=>?_,λb u e=>?_,I.len⟩
 ·obtain ⟨h1,h2,h3⟩:=hne b o q
  exact tr.keep b o (λz=>(List.mem_cons.mp (I.stkSub b z)).elim h3 hb) h1 h2 (I.base.keep b o q n hb hx)
 ·obtain ⟨h1,h2,h3⟩:=hne b o q
  obtain ⟨sl,e⟩:=I.base.slot b o q n hb hx
  obtain ⟨_,o2,ho2,hnf⟩:=I.funs.mem hb
  rw [e] at ho2;cases ho2
  obtain ⟨sl',e'⟩:=kp b _ hnf h1 h2 e
  exact ⟨sl',e'⟩
 ·obtain ⟨h1,h2,h3⟩:=hne b o q
  obtain ⟨o',e⟩:=I.base.there b o q hx
  by_cases hb:b∈frs X.stack
  ·obtain ⟨_,o2,ho2,hnf⟩:=I.stack.mem hb
   rw [e] at ho2;cases ho2
   obtain ⟨sl,e'⟩:=tr.slot b _ hb e hnf
   exact ⟨_,e'⟩
  ·exact ⟨o',tr.keep b o' hb h1 h2 e⟩
 ·obtain ⟨m,⟨o,es,ep,ho,hd,hr⟩,hl⟩:=I.loc
  obtain ⟨sl,e'⟩:=kp _ o (λvs z=>by rw [hd] at z;cases z) oL.1 oL.2 ho
  refine ⟨m,⟨_,es,ep,e',hd,hr⟩,λi x v h1 h2 h3=>?_⟩
  obtain ⟨u,r,lk⟩:=hl i x v h1 h2 h3
  refine ⟨u,r,?_⟩
  rcases lk with lk|⟨k,c,hc,oc,hoc,hdc⟩
  ·exact .inl lk
  ·obtain ⟨sl2,e2⟩:=kp c oc (λvs z=>by rw [hdc] at z;cases z) (oC x c hc).1 (oC x c hc).2 hoc
   exact .inr ⟨k,c,hc,_,e2,hdc⟩
 ·obtain ⟨v,o,ho,hd⟩:=I.cell x c e
  obtain ⟨sl2,e2⟩:=kp c o (λvs z=>by rw [hd] at z;cases z) (oC x c e).1 (oC x c e).2 ho
  exact ⟨v,_,e2,hd⟩
 ·obtain ⟨e,n,ne,nf,d⟩:=I.pin p hp
  exact ⟨tr.keep _ _ (λz=>(List.mem_cons.mp (I.stkSub _ z)).elim ne nf) (oP p hp).1 (oP p hp).2 e,n,ne,nf,d⟩
 ·refine (I.hok b u e).stay (λc v hc q=>?_) (λ_ q=>q) λ_ _ q=>q
  have hcn:H c≠none:=by
   rcases hc with z|z
   ·rw [z,e];intro y;cases y
   ·rw [z];intro y;cases y
  exact tr.keep c v (λz=>hcn (I.stkFree c z)) (λz=>hcn (by rw [z];exact ha)) (λz=>hcn (by rw [z];exact hT)) q
end
section
variable {M:Model}{A:Around}{E:Value->Shared->Prop}{h:Heap}{g:Array GenState}{d:Drawn}{t:Nat}{os:OsState}
variable {nm q nm' q':Str}{C N D N':Addr}{bs bm bs' bm':List Value}{hdct hdct':Bool}{sn sn':List Str}{sub sub':List Value}{ab ab':Bool}{col col':Option Bool}{dd dd':Option Addr}{k0 k1 k2 k3 k5 k0' k1' k2' k3' k5':Option Value}{newId newId':String}
theorem yca
  (hC:h.get? C=some (excClassObj nm q C N bs bm hdct sn sub ab col dd k0 k1 k2 k3 k5 newId)) (hD:h.get? D=some (excClassObj nm' q' D N' bs' bm' hdct' sn' sub' ab' col' dd' k0' k1' k2' k3' k5' newId'))
  (he:h.get? e=some oe) (hcls:oe.cls=.ref C) (hbase:bm'.contains (.type "BaseException")=true) (hin:(Value.ref C :: bm).contains (.ref D)=true)
  (hq:Q true ⟨h,g,d,t,os⟩):wpAny M A (excMatches (.ref e) (.ref D)) Q E ⟨h,g,d,t,os⟩:=by
 have hcB:(Value.ref D :: bm').contains (.type "BaseException")=true:=by rw [List.contains_cons,hbase,Bool.or_true]
 have f:=tc_notTuple
 unfold excMatches
 repeat (first|(with_reducible refine wpAny_loadPart_at he ?_;rw [hcls])|with_reducible refine wpAny_loadPart_at hD ?_|with_reducible refine wpAny_loadPart_at hC ?_|(with_reducible refine wpAny_isSubtype_exc hD ?_;rw [hcB])|(with_reducible refine wpAny_isSubtype_exc hC ?_;rw [hin])|wp_step)
 exact hq
end
noncomputable abbrev mk1 (X:Cx) (e:Value):Cx:={ X with A:=X.A.mark (some e),calm:=false,xe:=λ_ _=>False }
def phi (e C:Addr):Heap->Prop:=λh=>∃o,h.get? e=some o/\o.cls=.ref C
section
theorem Inv.mk1 (I:Inv X pins σ H s):Inv (L3.mk1 X e) pins σ H s :=
 ⟨⟨I.ok.mod,I.ok.kind,I.ok.glob,I.ok.blt,I.ok.above,I.ok.inj,I.ok.has,I.ok.cab,λh=>absurd (show false=true from h) Bool.false_ne_true,I.ok.frames,I.ok.stk,I.ok.exf,I.ok.bs,I.ok.bsz,I.ok.noex,I.ok.exfs,I.ok.funs,I.ok.frf⟩,I.os,I.bare,I.base,I.loc,I.cell,I.free,I.freeC,I.pin,I.hok,I.len⟩
theorem Inv.unmk1 (ok:X.Ok) (I:Inv (L3.mk1 X e) pins σ H s):Inv X pins σ H s:=⟨ok,I.os,I.bare,I.base,I.loc,I.cell,I.free,I.freeC,I.pin,I.hok,I.len⟩
theorem Inv.track (I:Inv X pins σ H s) (ha:H a=none) (na:X.s₀.heap.get? a=none) (oL:X.env.locals≠a) (oC:∀x c,X.env.cells.lookup x=some c->c≠a) (oP:∀p∈X.pn++pins,p.1≠a)
  (he:phi a C s.heap):Inv X pins σ (upd H a (.ext (phi a C))) s:=by
 have up:∀b u,H b=some u->upd H a (.ext (phi a C)) b=some u:=λb u q=>by rw [zaj (zbh q ha)];exact q
 refine ⟨I.ok,I.os,I.bare,⟨I.base.keep,I.base.slot,λb o q n hx=>?_,I.base.there,λb xs q=>up _ _ (I.base.tups b xs q),λb o u q=>up _ _ (I.base.frzs b o u q),λb ps q=>?_⟩,I.loc,I.cell,?_,λx c q=>?_,λp hp=>?_,λb u q=>?_,I.len⟩
 ·rw [zaj (λz=>by rw [z,na] at q;cases q)]
  exact I.base.free b o q n hx
 ·obtain ⟨more,z⟩:=I.base.tbls b ps q
  exact ⟨more,up _ _ z⟩
 ·rw [zaj oL];exact I.free
 ·rw [zaj (oC x c q)];exact I.freeC x c q
 ·obtain ⟨z,n,ne,nf,d⟩:=I.pin p hp
  exact ⟨z,by rw [zaj (oP p hp)];exact n,ne,nf,d⟩
 ·by_cases hb:b=a
  ·subst hb
   rw [zbo] at q;cases q
   obtain ⟨o,h1,h2⟩:=he
   exact ⟨⟨o,h1,h2⟩,⟨o,h1⟩,λh1 h2 ⟨o,z1,z2⟩ k=>⟨o,k o z1,z2⟩⟩
  ·rw [zaj hb] at q
   exact (I.hok b u q).stay (λc v _ z=>z) (λc z=>up _ _ z) λc xs z=>up _ _ z
theorem Inv.unbound (I:Inv X pins σ H s) (hN:X.N.Nodup) (hi:X.N[i]? = some n)
  (hm:s.heap.Ns X.env.locals m) (hn:h'.Ns X.env.locals (λx=>if x=n then v else m x)) (sb:Heap.SameBut X.env.locals s.heap h'):Inv X pins (σ.set i none) H { s with heap:=h',toks:=t' }:=by
 have kp:∀b o,b≠X.env.locals->s.heap.get? b=some o->h'.get? b=some o:=λb o hb q=>sb.extBut b o hb q
 have hL:∀b o,X.s₀.heap.get? b=some o->b≠X.env.locals:=λb o q=>Nat.ne_of_lt (Nat.lt_of_lt_of_le (Heap.lt_size q) I.ok.above)
 have nfs:X.env.locals ∉ X.fs:=λz=>by
  obtain ⟨_,o,ho,_⟩:=I.ok.funs.mem z
  exact hL _ o ho rfl
 refine ⟨I.ok,I.os,I.bare,⟨λb o q n hb hx=>kp b o (hL b o q) (I.base.keep b o q n hb hx),λb o q n hb hx=>?_,I.base.free,λb o q hx=>?_,I.base.tups,I.base.frzs,I.base.tbls⟩,⟨_,hn,λj x u h1 h2 h3=>?_⟩,λx c q=>?_,I.free,I.freeC,λp hp=>?_,λb u q=>?_,by rw [List.length_set];exact I.len⟩
 ·obtain ⟨sl,z⟩:=I.base.slot b o q n hb hx
  exact ⟨sl,kp b _ (hL b o q) z⟩
 ·obtain ⟨o',z⟩:=I.base.there b o q hx
  exact ⟨o',kp b _ (hL b o q) z⟩
 ·have hji:i≠j:=λz=>by
   subst z
   rw [List.getElem?_set_self (by have:=(qme hi).1;rw [I.len];exact this)] at h2
   cases h2
  rw [List.getElem?_set_ne hji] at h2
  have hxn:x≠n:=λz=>hji (zke hN hi (by rw [h1,z]))
  obtain ⟨m0,hn0,hl⟩:=I.loc
  obtain ⟨w,r,lk⟩:=hl j x u h1 h2 h3
  have em:m0=m:=by
   obtain ⟨o1,es1,ep1,ho1,hd1,hk1,hf1⟩:=hn0
   obtain ⟨o2,es2,ep2,ho2,hd2,hk2,hf2⟩:=hm
   rw [ho1] at ho2;cases ho2
   rw [hd1] at hd2;cases hd2
   funext y;rw [<-hf1 y,<-hf2 y]
  subst em
  refine ⟨w,r,?_⟩
  rcases lk with ⟨k,z⟩|⟨k,c,hc,o,ho,hd⟩
  ·exact .inl ⟨k,by show (if x=n then v else m0 x)=some w;rw [if_neg hxn];exact z⟩
  ·exact .inr ⟨k,c,hc,o,kp c o (I.cne x c hc) ho,hd⟩
 ·obtain ⟨w,o,ho,hd⟩:=I.cell x c q
  exact ⟨w,o,kp c o (I.cne x c q) ho,hd⟩
 ·obtain ⟨z,n,ne,nf,d⟩:=I.pin p hp
  exact ⟨kp _ _ ne z,n,ne,nf,d⟩
 ·refine (I.hok b u q).stay (λc w hc z=>kp c w (λy=>?_) z) (λ_ z=>z) λ_ _ z=>z
  have hcn:H c≠none:=by
   rcases hc with y|y
   ·rw [y,q];intro z;cases z
   ·rw [y];intro z;cases z
  exact hcn (by rw [y];exact I.free)
end
def EH (X:Cx) (Dh:Addr) (tS:TS) (i:Nat) (D:Ends) (σ:L2.St):XK:=λc _ H'=>∃C,c=.ref C/\excIn X.K C zc7 "ValueError.__new__" = true/\(Value.ref C :: zeq X.K C).contains (.ref Dh)=true /\
 ∀e,H' e=none->tS { nx:=λσ' H''=>D.nx (σ'.set i none) H'',rt:=λ_ _=>False } (σ.set i (some (.ref e))) (upd H' e (.ext (phi e C)))
section
theorem ycb (hstk:X.stack=X.env :: X.outer) (hfm:X.env.frame=some X.env.locals) (hex:X.ex=[]) (hg:Gl X hx) (hm:X.mg hx=some (.ref Dh)) (qD:excIn X.K Dh zc7 "ValueError.__new__" = true)
  (hS:∀e,PSs (mk1 X e) (b0 :: suite) tS) (hN:X.N.Nodup) (hi:X.N[i]? = some n) (hln:X.env.scope.names.lookup n=some .local) (hd:(hx == ("__debug__":Str))=false)
  {H1:Hp} {s1 s2:Shared} {e:Value} {D:Ends} (I1:Inv X pins σ H1 s1) (cx:CX1 X.prog X.w X.stack H1 s1 (EH X Dh tS i D σ) e s2) :
  wpAny (model X.prog X.w) X.A (noteFrame e X.env) (λ_ s₂=>wpAny (model X.prog X.w) X.A (setFlight e none) (λ_ s₃ =>
   wpAny (model X.prog X.w) X.A (handleBy e X.env [.ExceptHandler (some (.Name hx np)) (some n) (b0 :: suite) hpos]) (SP X pins D) X.xe s₃) X.xe s₂) X.xe s2:=by
 obtain ⟨a,C,T,H',rfl,ho,hgn,un,hok,na,nT,fl,ha,hT,hE⟩:=cx
 obtain ⟨C',hCe,qC,hin,hE⟩:=hE
 cases hCe
 have I2:Inv X pins σ H' s2:=I1.call' (s':=s2) (ch:=[]) ho un hok hgn (λb hb=>by cases hb)
 have up:∀b,s1.heap.get? b=none->X.s₀.heap.get? b=none:=λb q=>by
  cases z:X.s₀.heap.get? b with
  | none=>rfl
  | some o=>obtain ⟨o',e⟩:=I1.base.there b o z (by rw [hex];simp);rw [q] at e;cases e
 have out:∀b,s1.heap.get? b=none->X.env.locals≠b/\(∀x c,X.env.cells.lookup x=some c->c≠b)/\∀p∈X.pn++pins,p.1≠b:=λb q=>by
  refine ⟨λz=>?_,λx c hc z=>?_,λp hp z=>?_⟩
  ·obtain ⟨m,⟨o,_,_,h1,_⟩,_⟩:=I1.loc
   rw [z,q] at h1;cases h1
  ·obtain ⟨v,o,h1,_⟩:=I1.cell x c hc
   rw [z,q] at h1;cases h1
  ·have:=(I1.pin p hp).1
   rw [z,q] at this;cases this
 have stk:∀{σ':L2.St} {H'':Hp} {s':Shared},Inv X pins σ' H'' s'->s'.heap.FunFrames X.base (X.env :: X.outer):=λI=>by have:=I.stack;rw [hstk] at this;exact this
 have oa:=out a na
 have oT:=out T nT
 refine yb8 (L:=X.env.locals) (by rw [I2.ok.frames,hstk]) (stk I2) hfm fl λh3 T3 tr3 fl3 hT3=>?_
 rw [<-hstk] at tr3
 have I3:Inv X pins σ H' { s2 with heap:=h3 }:=Inv.tr (t':=s2.toks) I2 hex tr3 (up a na) (up T nT) ha hT ⟨oa.1,oT.1⟩ (λx c q=>⟨oa.2.1 x c q,oT.2.1 x c q⟩) (λp q=>⟨oa.2.2 p q,oT.2.2 p q⟩)
 have nT3:s1.heap.get? T3=none:=by
  rcases hT3 with rfl|q
  ·exact nT
  ·cases z:s1.heap.get? T3 with
   | none=>rfl
   | some o=>obtain ⟨o',e⟩:=un.there T3 o z (by simp);rw [q] at e;cases e
 have hT3':H' T3=none:=by
  rcases hT3 with rfl|q
  ·exact hT
  ·cases z:H' T3 with
   | none=>rfl
   | some u=>obtain ⟨o',e⟩:=ObjOk.there (hok T3 u z);rw [q] at e;cases e
 have oT3:=out T3 nT3
 obtain ⟨N1,nm1,qn1,bs1,hdct1,sn1,sub1,ab1,col1,dd1,k01,k11,k21,k31,k51,mN1,hC1,_,_,_⟩:=zji (h:=h3) I3.kIn qC
 obtain ⟨N2,nm2,qn2,bs2,hdct2,sn2,sub2,ab2,col2,dd2,k02,k12,k22,k32,k52,mN2,hC2,_,_,TL2⟩:=zji (h:=h3) I3.kIn qD
 obtain ⟨oe,vs,oT',ts,a0,he,hcl,_⟩:=id fl3
 refine wpAny_handleBy_cons (codeAny_handlers_test (Calls.Name_function_global I3.ok.kind hg (Calls.loadGlobal_global (by rw [I3.ok.glob];exact I3.mod.glob.keeps I3.bk) hm ?_) hd)) (by intro q;cases q)
 refine yca hC1 hC2 he hcl (TL2.hasType F.excBase_ValueError.hasBase) hin ?_
 refine codeAny_handlers_suite_as ?_
 refine yb9 (s:={ s2 with heap:=h3 }) (stk I3) fl3 λh4 T4 tr4 fl4 hT4=>?_
 rw [<-hstk] at tr4
 have I4:Inv X pins σ H' { s2 with heap:=h4 }:=Inv.tr (s:={ s2 with heap:=h3 }) (t':=s2.toks) I3 hex tr4 (up a na) (up T3 nT3) ha hT3' ⟨oa.1,oT3.1⟩ (λx c q=>⟨oa.2.1 x c q,oT3.2.1 x c q⟩) (λp q=>⟨oa.2.2 p q,oT3.2.2 p q⟩)
 obtain ⟨oe4,vs4,oT4,ts4,a04,he4,hcl4,_⟩:=id fl4
 have I5:=Inv.track (C:=C) I4 ha (up a na) oa.1 oa.2.1 oa.2.2 ⟨oe4,he4,hcl4⟩
 refine zkg (v:=.ref a) I5 hN hi (.inl hln) rfl (λs6 I6=>?_) (.inr hln)
 refine wpAny_mono (hS (.ref a) pins s6 (σ.set i (some (.ref a))) _ _ (Inv.mk1 I6) (hE a ha)) (λf s7 hf=>?_) λ_ _ z=>False.elim z
 cases f with
 | next =>
  obtain ⟨σ',H'',I7,q7⟩:=hf
  have I7:=Inv.unmk1 I6.ok I7
  obtain ⟨m,hn,_⟩:=I7.loc
  show wpAny _ X.A (do bindName X.env n .none;unbindBehindTheSuite X.env n hpos) _ _ s7
  exact wpAny_nameGoes_keeps hln hn (by rw [I7.ok.kind];rfl) λh8 v hn8 sb8=>⟨σ'.set i none,H'',Inv.unbound I7 hN hi hn hn8 sb8,q7⟩
 | ret v=>obtain ⟨_,_,_,_,_,q⟩:=hf;exact q.elim
 | brk=>obtain ⟨_,_,_,q⟩:=hf;exact q.elim
 | cont=>obtain ⟨_,_,_,q⟩:=hf;exact q.elim
end
noncomputable def zjj (k:Nat) (r:ZM):ZF:=λds S=>r (ds.map some++List.replicate (k-ds.length) none) S
theorem ycc {P:Program}{w:World}{K:QFg}{mg:Str->Option Value}{base:Heap}{CA:Str->Addr}{x:Str}{st:Stmt}{f:Addr}{fd:FuncData}{N ps:List Str}{k n:Nat}{r:ZM}(F:Fun K x x st f fd) (hm:mg x=some (.ref f)) (S:FnScope N ps (zaq st)) (hn:ps.length=n) (hb:Binds K fd ps [])
  (hbody:∀(cdv:Value),PySem.W.codeIn K cdv x=true->∀(A:Around) (outer:List Env) (s:Shared) (H:Hp) (E:XK),Room k (A.deeper (envOfC x (zaq st) s.heap.objs.size f cdv)) ->
   zgq (zb2 (CX1 P w) P w K mg base N x (zaq st) f cdv A outer s H E) E CA (zdd st) r):ze3 P w K mg base CA x (k+1) n (zjj N.length r):=by
 refine ⟨f,fd,ps,?_,hm,F.kp,hb⟩
 obtain ⟨oc,od,kV,doc,pm,an,cdv,ct,osl,rfl,lk,hcd⟩:=F.ex
 refine znr lk hcd S (λvs H Q E h=>by rw [h.1,hn]) λA outer s H vs Q E hr h=>?_
 obtain ⟨hl,ρ,ds,S0,C,S',sim,rd,hz,p⟩:=h
 exact ⟨_,hbody cdv hcd A outer s H E hr,ρ,_,S0,C,S',sim,rd.locals N,hz,p⟩
section
end
theorem RO.unset (r:RO ρ H l σ) (i:Nat):RO ρ H (l.set i none) (σ.set i none):=by
 refine ⟨by rw [List.length_set,List.length_set];exact r.len,λj d h=>?_⟩
 by_cases e:i=j
 ·subst e
  have hl:i<l.length:=by
   have:=(qme h).1
   rw [List.length_set] at this;exact this
  rw [List.getElem?_set_self hl] at h;cases h
 ·rw [List.getElem?_set_ne e] at h ⊢
  exact r.get j d h
noncomputable def zhy (i:Nat) (ok:Str->Bool) (mN:SM) (r:ZM) (mS:SM):SM:=λl S=>match mN l S with
 | some q=>some q
 | none=>match r l S with
  | some (c,S')=>if ok c=true then (mS (l.set i (some (.ref S'.length))) (S'++[.exc c])).bind λq=>(match q.1 with
   | .nx=>some (.nx,q.2.1.set i none,q.2.2)
   | _=>none) else none
  | none=>none
section
end
open PySem.Builtin PySem.Builtin.ObjectAttr PySem.Builtin.Getset_descriptor
theorem zp2 (M:Model) (h:Heap) (p:phi a C h):Looks M h (typeOf (.ref a)) (.ref C):=by
 obtain ⟨o,h1,h2⟩:=p
 exact h2 ▸ (Looks.ld h1).andThen .now
section
variable {prog:Program}{w:World}{A:Around}{E:Value->Shared->Prop}{h:Heap}{g:Array GenState}{d:Drawn}{t:Nat}{os:OsState}{a:Addr}{o:Obj}{K:QFg}{C:Addr}
theorem ycd (X:K.In s.heap) (p:phi a C s.heap) (hm:mroIn K C (.type "object")=some true) (hq:R (.ok (.ret (.ref C))) s) :
  codeAny (model prog w) A (.call (.builtin "getset_descriptor.__get__") ⟨[.builtin "object.__class__",.ref a,tp],[]⟩) R s:=by
 obtain ⟨hh,g,dr,t,os⟩:=s
 have L0:=zp2 (model prog w) hh p
 have L1:=looks_mroIn (M:=model prog w) X hm
 refine codeAny_call_builtin KF.slot_gs.plain KF.entry_gs (KF.slot_gs.check _ _ _ _ _ _ _ _ KF.type_class (KF.args_gs _ _ _) ?_)
 unfold Builtin.«getset_descriptor.__get__» descrGet
 rw [dga_obj]
 refine qwb (qwp ?_)
 unfold descrGetter descrCheckInstance descrNameAndClass isInstance
 simp only [KF.owner_class]
 repeat lk
 refine ⟨Code.quiet_builtin _ (by decide +kernel),codeAny_builtin KF.entry_class ?_⟩
 unfold Builtin.«object.__class__» shownTypeOf
 repeat lk
 exact hq
theorem yce (X:K.In h) (hx:h.get? a=some o) (hc:o.cls=.ref C) (hm:mroIn K C (.type "object")=some true) (hf:findIn K (.ref C) "__class__" = some (some (.builtin "object.__class__")))
  (hq:Q (.done (.ret (.ref C))) ⟨h,g,d,t,os⟩):wpAny (model prog w) A (Builtin.«object.__getattribute__» ⟨[.ref a,.str "__class__" tk],[]⟩) Q E ⟨h,g,d,t,os⟩:=by
 have hT5:(⟨h,g,d,t,os⟩:Shared).TypeIs (.builtin "object.__class__") "getset_descriptor":=F.typeOf_object_class
 have f5:=F.typeOf_object_class
 have f6:=F.slot_gs_get.lookup
 have f7:=F.slot_gs_set.lookup
 have L:=looks_findIn (M:=model prog w) X hf
 repeat (any_goals (first|assumption|(with_reducible refine wpAny_loadPart_at hx ?_;rw [hc])|with_reducible refine L.at ?_|wp_step))
 refine ycd (s:=⟨h,g,d,t,os⟩) X ⟨o,hx,hc⟩ hm ?_
 repeat (any_goals (first|assumption|wp_step))
theorem ycf {M:Model}{nameV:Value}{Q:Unit->Shared->Prop}{nm q:Str}{N:Addr}{bs bm:List Value}{hdct:Bool}{sn:List Str}{sub:List Value}{ab:Bool}{col:Option Bool}{dd:Option Addr}{k0 k1 k2 k3 k5:Option Value}{newId:String}
  (hC:h.get? C=some (excClassObj nm q C N bs bm hdct sn sub ab col dd k0 k1 k2 k3 k5 newId)) (T:OwnTail h zc7 bm)
  (hx:h.get? a=some o) (hc:o.cls=.ref C) (hq:Q () ⟨h,g,d,t,os⟩):wpAny M A (checkBuiltinCall "BaseException.__getattribute__" ⟨[.ref a,nameV],[]⟩) Q E ⟨h,g,d,t,os⟩:=by
 have hk:builtinKind "BaseException.__getattribute__" = some .slot:=by decide +kernel
 have hsplit:splitId "BaseException.__getattribute__" = some ("BaseException","__getattribute__"):=by decide +kernel
 have hcB:(Value.ref C :: bm).contains (.type "BaseException")=true:=by rw [List.contains_cons,T.hasType F.excBase_ValueError.hasBase];rfl
 have ha:=F.args_bexc_ga (.ref a) nameV
 simp only [checkBuiltinCall,hk,hsplit]
 refine qwb ?_
 ·unfold isInstance
  repeat (first|(with_reducible refine wpAny_loadPart_at hx ?_;rw [hc])|(with_reducible refine wpAny_isSubtype_exc hC ?_;rw [hcB])|wp_step)
  exact hq
end
structure ExcQ (K:QFg) (C:Addr):Prop where
 exc:excIn K C zc7 "ValueError.__new__" = true
 obj:mroIn K C (.type "object")=some true
 cls:findIn K (.ref C) "__class__" = some (some (.builtin "object.__class__"))
 ga:findIn K (.ref C) "__getattribute__" = some (some (.builtin "BaseException.__getattribute__"))
 gr:findIn K (.ref C) "__getattr__" = some none
 is:(clsIn K C).isSome=true
section
variable {prog:Program}{w:World}{A:Around}{E:Value->Shared->Prop}{h:Heap}{g:Array GenState}{d:Drawn}{t:Nat}{os:OsState}{a:Addr}{o:Obj}{K:QFg}{C:Addr}
theorem ycg (X:K.In h) (c:ExcQ K C) (hx:h.get? a=some o) (hc:o.cls=.ref C) (hq:R (.ok (.ret (.ref C))) ⟨h,g,d,t,os⟩) :
  codeAny (model prog w) A (.call (.builtin "BaseException.__getattribute__") ⟨[.ref a,.str "__class__" tk],[]⟩) R ⟨h,g,d,t,os⟩:=by
 obtain ⟨N,nm,qn,bs,hdct,sn,sub,ab,col,dd,k0,k1,k2,k3,k5,mN,hC,hN,hni,T⟩:=zji X c.exc
 exact codeAny_call_builtin F.attrBase_ValueError.ga.plain F.entry_bexc_ga (ycf hC T hx hc (yce X hx hc c.obj c.cls hq))
theorem ych (X:K.In h) (c:ExcQ K C) (hx:h.get? a=some o) (hc:o.cls=.ref C) (hq:Q (.ref C) ⟨h,g,d,t,os⟩) :
  wpAny (model prog w) A (getAttrBy (.ref a) (.str "__class__" tk) false) Q E ⟨h,g,d,t,os⟩:=by
 have f3:=F.attrBase_ValueError.ga.bind (.ref a)
 have hx2:(Value.builtin "BaseException.__getattribute__" == Value.builtin "object.__getattribute__")=false:=by decide +kernel
 have hx1:(onTheHeap (Value.ref C) && Value.builtin "BaseException.__getattribute__" == Value.builtin "object.__getattribute__")=false:=by rw [hx2];rfl
 have L1:=looks_findIn (M:=model prog w) X c.ga
 have L2:=looks_findIn (M:=model prog w) X c.gr
 repeat (any_goals (first|assumption|(with_reducible refine wpAny_loadPart_at hx ?_;rw [hc])|with_reducible refine L1.at ?_|with_reducible refine L2.at ?_|wp_step))
 refine ycg X c hx hc ?_
 repeat (any_goals (first|assumption|wp_step))
theorem yci (X:K.In s.heap) (c:ExcQ K C) (p:phi a C s.heap) (hq:Q (some (.ref C)) { s with toks:=s.toks+1 }) :
  wpAny (model prog w) A (getAttr? (.ref a) "__class__") Q E s:=by
 obtain ⟨hh,g,d,t,os⟩:=s
 obtain ⟨o,hx,hc⟩:=p
 unfold getAttr? getAttrBy?
 repeat (any_goals (first|assumption|with_reducible apply ych X c hx hc|wp_step))
theorem ycj (c:ExcQ K C):KitX K (.ref a) (.ref C) (phi a C) where
 ty:=λM h _ p=>zp2 M h p
 it:=λ_ _ X _=>by
  obtain ⟨cdD,hcD⟩:=Option.isSome_iff_exists.mp c.is
  unfold clsIn at hcD
  split at hcD
  ·rename_i c' d' cd' sl' ho
   intro A' Q' E' s' k q
   unfold isType loadHead
   exact qwb (wpAny_loadPart (k _ _ (X _ _ ho)) (qwp q))
  ·cases hcD
 ne:=λh tp dd its n sl X htp=>by
  obtain ⟨cdD,hcD⟩:=Option.isSome_iff_exists.mp c.is
  refine Bool.eq_false_iff.mpr λq=>?_
  have e:C=tp:=Value.ref.inj (beq_iff_eq.mp q)
  subst e
  unfold clsIn at hcD
  split at hcD
  ·rename_i c' d' cd' sl' ho
   have z:=(X _ _ ho).symm.trans htp
   cases z
  ·cases hcD
 ca:=λX p k=>yci X c p k
end
section
theorem yck (hg:Gl X y) (hm:X.mg y=some (.ref C)) (hd:(y == ("__debug__":Str))=false:=by decide):PE X (.Name y p) (tC (.ref C)):=λ_ _ _ H _ I h=>ziq I hg hm ⟨.ref C,H,I,rfl,h⟩ hd
def ycl (K:QFg) (c:V) (cv:Value):List V->Hp->VK->Prop:=λxs H Q=>∃(a C:Addr) (b:Bool),xs=[.ref a,c]/\H a=some (.ext (phi a C))/\ExcQ K C/\kitOne K (.ref C) cv=some b/\Q (.bl b) H
theorem zp3 (hcv:∀u,RelV c u->u=cv):CallR X (.builtin "isinstance") (ycl X.K c cv):=by
 intro pins s σ H xs us Q I r h
 obtain ⟨a,C,b,rfl,ha,hc,hk,q⟩:=h
 obtain ⟨u1,u2,rfl,r1,r2⟩:=r.two
 cases (show u1=Value.ref a from r1)
 cases hcv u2 r2
 obtain ⟨ph,_⟩:=(show ObjOk X.prog X.w H s.heap a (.ext (phi a C)) from I.hok a _ ha)
 exact kia_one (ycj hc) I.kIn ph hk (λz=>nomatch z) λtk=>⟨.bl b,H,I.tok tk,rfl,q⟩
end
noncomputable def zb9 (tab:List (Str × Bool)):D->Sto->Option (D × Sto):=λx S=>match x with
 | .ref n=>(match S[n]? with
  | some (.exc c)=>(tab.lookup c).bind λb=>some (.bl b,S)
  | _=>none)
 | _=>none
theorem zp4 {K:QFg}{ρ:List Addr}{S:Sto}{H:Hp}{x v:D}{S':Sto}{x':V}{tab:List (Str × Bool)}(sim:Sim K ρ S H) (r:RD ρ H x x') (h:zb9 tab x S=some (v,S')) :
  S' = S/\∃a c C b,x' = .ref a/\tab.lookup c=some b/\v=.bl b/\nsIn K mainGlobals c=some (some (.ref C))/\H a=some (.ext (phi a C)):=by
 unfold zb9 at h
 split at h
 ·split at h
  ·rename_i n S c e
   obtain ⟨b,hb,h⟩:=bnd h
   cases h
   cases r with
   | @ref _ a hn =>
    obtain ⟨C,hc,hH⟩:=sim.at' n a _ hn e
    exact ⟨rfl,a,c,C,b,rfl,hb,rfl,hc,hH⟩
  ·cases h
 ·cases h
section
theorem zp5:bootBuiltins "isinstance" = some (.builtin "isinstance"):=by decide +kernel
theorem zdi (hg:Gl X "isinstance") (hm:X.mg "isinstance" = none) (ha:PE3 X a ma) (hgy:Gl X y) (hmy:X.mg y=some (.ref D0))
  (hk:∀c b C,tab.lookup c=some b->nsIn X.K mainGlobals c=some (some (.ref C))->ExcQ X.K C/\kitOne X.K (.ref C) (.ref D0)=some b) (hd:(y == ("__debug__":Str))=false:=by decide)
  (he:starEach (a :: [.Name y p2]) X.env=(false,eval a X.env) :: starEach [.Name y p2] X.env:=by rfl) (he2:starEach [.Name y p2] X.env=(false,eval (.Name y p2) X.env) :: starEach [] X.env:=by rfl) (hpl:(backTo pos (starEach [.Name y p2] X.env)).any (·.1)=false:=by rfl) :
  PE3 X (.Call (.Name "isinstance" p) [a,.Name y p2] [] pos) (eUn (zb9 tab) ma) :=
 PE.imp (ziw (zp3 (c:=.ref D0) (cv:=.ref D0) λu h=>h) hg hm zp5 (zeu ha (zeu (yck hgy hmy hd) zf1 he2) he) (by decide) (by decide) he hpl) λσ H Q hx2_=>by
  obtain ⟨ρ,l,S,v,S',sim,ro,hq,pz⟩:=hx2_
  obtain ⟨⟨x,S1⟩,h1,hq⟩:=bnd hq
  refine ⟨ρ,l,S,x,S1,sim,ro,h1,λρ1 H1 x' e1 s1 r1=>?_⟩
  obtain ⟨rfl,a',c,C,b,rfl,hb,rfl,hc,hH⟩:=zp4 s1 r1 hq
  obtain ⟨q1,q2⟩:=hk c b C hb hc
  exact ⟨a',C,b,rfl,hH,q1,q2,pz ρ1 _ _ e1 s1 (.bl b)⟩
theorem ycm (hg:Gl X "isinstance") (hm:X.mg "isinstance" = none) (ha:PE3 X a ma) (hgy:Gl X y) (hmy:X.mg y=none) (hv:bootBuiltins y=some (.type U))
  (hk:∀c b C,tab.lookup c=some b->nsIn X.K mainGlobals c=some (some (.ref C))->ExcQ X.K C/\kitOne X.K (.ref C) (.type U)=some b) (hn:y≠"__name__":=by decide) (hdb:(y == ("__debug__":Str))=false:=by decide)
  (he:starEach (a :: [.Name y p2]) X.env=(false,eval a X.env) :: starEach [.Name y p2] X.env:=by rfl) (he2:starEach [.Name y p2] X.env=(false,eval (.Name y p2) X.env) :: starEach [] X.env:=by rfl) (hpl:(backTo pos (starEach [.Name y p2] X.env)).any (·.1)=false:=by rfl) :
  PE3 X (.Call (.Name "isinstance" p) [a,.Name y p2] [] pos) (eUn (zb9 tab) ma) :=
 PE.imp (ziw (zp3 (c:=.ty U) (cv:=.type U) λu h=>h) hg hm zp5 (zeu ha (zeu (zuy (v:=.ty U) hgy hmy hv rfl hn hdb) zf1 he2) he) (by decide) (by decide) he hpl) λσ H Q hx3_=>by
  obtain ⟨ρ,l,S,v,S',sim,ro,hq,pz⟩:=hx3_
  obtain ⟨⟨x,S1⟩,h1,hq⟩:=bnd hq
  refine ⟨ρ,l,S,x,S1,sim,ro,h1,λρ1 H1 x' e1 s1 r1=>?_⟩
  obtain ⟨rfl,a',c,C,b,rfl,hb,rfl,hc,hH⟩:=zp4 s1 r1 hq
  obtain ⟨q1,q2⟩:=hk c b C hb hc
  exact ⟨a',C,b,rfl,hH,q1,q2,pz ρ1 _ _ e1 s1 (.bl b)⟩
end
theorem zc8 {K:QFg}{c0:Str}{b0:Bool}{C0:Addr}{R:Addr->Bool->Prop}(hn:nsIn K mainGlobals c0=some (some (.ref C0))) (h:R C0 b0) :
  ∀c b C,([(c0,b0)]:List (Str × Bool)).lookup c=some b->nsIn K mainGlobals c=some (some (.ref C))->R C b:=λc b C hl hc=>by
 rw [List.lookup_cons] at hl
 split at hl
 ·rename_i q
  cases hl
  have e:c=c0:=by simpa using q
  subst e
  rw [hn] at hc;cases hc
  exact h
 ·cases hl
theorem ycn {R:Str->Prop}(h:R c0):∀c,(c == c0)=true->R c:=λc hc=>by
 have e:c=c0:=by simpa using hc
 rw [e];exact h
section
variable {to:TE}{t:TA}{T id:String}{r:V->List V->Hp->VK->Prop}{ty:V->Hp->Prop}
end
section
end
section
end
noncomputable def zhz:List D->Option (List Key)
 | []=>some []
 | x :: r=>(zep x).bind λk=>(zhz r).bind λks=>some (k :: ks)
noncomputable def zc9:D->Option (List Key)
 | .tup xs=>zhz xs
 | _=>none
theorem zp6:∀{xs:List D}{ks:List Key}{vs:List V},zhz xs=some ks->RDs ρ H xs vs->vs=ks.map kV
 | [],ks,vs,h,r=>by cases h;cases r;rfl
 | x :: xs,ks,vs,h,r=>by
  cases r with
  | cons r1 r2 =>
   obtain ⟨k,h1,h⟩:=bnd (show (zep x).bind (λk=>(zhz xs).bind λks=>some (k :: ks))=some ks from h)
   obtain ⟨ks',h2,h⟩:=bnd h
   cases h
   rw [zp6 h2 r2,zgl h1 r1];rfl
theorem zh0 (h:zc9 d=some k) (r:RD ρ H d v):∃b,v=.ref b/\H b=some (.tup (k.map kV)):=by
 cases r with
 | @tup xs b vs hb rs =>
  have:=zp6 (show zhz xs=some k from h) rs
  subst this
  exact ⟨b,rfl,hb⟩
 | _=>cases h
noncomputable def za6 (kvs:List (List Key × D)) (k:List Key):Option D:=(kvs.find? λkv=>decide (kv.1=k)).map (·.2)
noncomputable def zce (kvs:List (List Key × D)) (k:List Key) (v:D):List (List Key × D):=if (kvs.any λkv=>decide (kv.1=k))=true then kvs.map (λkv=>if kv.1=k then (kv.1,v) else kv) else kvs++[(k,v)]
section
theorem zjk:∀{kvs:List (List Key × D)}{vs:List V},RDs ρ H (kvs.map (·.2)) vs->(za6 kvs k=none->zbu ((kvs.map (·.1)).zip vs) k=none)/\∀d,za6 kvs k=some d->∃v,zbu ((kvs.map (·.1)).zip vs) k=some v/\RD ρ H d v
 | [],vs,r=>by
  cases r
  exact ⟨λ_=>rfl,λd h=>by cases h⟩
 | (k',d') :: kvs,vs,r=>by
  cases r with
  | @cons _ v _ vs r1 r2 =>
   by_cases e:k' = k
   ·have e1:za6 ((k',d') :: kvs) k=some d':=by simp [za6,e]
    have e2:zbu ((((k',d') :: kvs).map (·.1)).zip (v :: vs)) k=some v:=zg8 (p:=(k',v)) e
    rw [e1,e2]
    exact ⟨λz=>(by cases z),λd h=>(by cases h;exact ⟨v,rfl,r1⟩)⟩
   ·have e1:za6 ((k',d') :: kvs) k=za6 kvs k:=by simp [za6,e]
    have e2:zbu ((((k',d') :: kvs).map (·.1)).zip (v :: vs)) k=zbu ((kvs.map (·.1)).zip vs) k:=zg9 (p:=(k',v)) e
    rw [e1,e2]
    exact zjk r2
theorem zp7 (k:List Key):∀{kvs:List (List Key × D)}{vs:List V},RDs ρ H (kvs.map (·.2)) vs->(((kvs.map (·.1)).zip vs).any λkv=>decide (kv.1=k))=kvs.any λkv=>decide (kv.1=k)
 | [],vs,r=>by cases r;rfl
 | (k',d') :: kvs,vs,r=>by
  cases r with
  | @cons _ v _ vs r1 r2 =>
   show (decide (k' = k) || (((kvs.map (·.1)).zip vs).any λkv=>decide (kv.1=k)))=(decide (k' = k) || _)
   rw [zp7 k r2]
theorem zlq (rv:RD ρ H d v) (r:RDs ρ H (kvs.map (·.2)) vs):∃ws,zbs ((kvs.map (·.1)).zip vs) k v=((zce kvs k d).map (·.1)).zip ws/\RDs ρ H ((zce kvs k d).map (·.2)) ws:=by
 unfold zbs zce
 rw [zp7 k r]
 by_cases e:(kvs.any λkv=>decide (kv.1=k))=true
 ·rw [if_pos e,if_pos e]
  clear e
  induction kvs generalizing vs with
  | nil=>cases r;exact ⟨[],rfl,.nil⟩
  | cons p kvs ih =>
   obtain ⟨k',d'⟩:=p
   cases r with
   | @cons _ u _ us r1 r2 =>
    obtain ⟨ws,h1,h2⟩:=ih r2
    by_cases e:k' = k
    ·refine ⟨v :: ws,?_,?_⟩
     ·simp only [List.map_cons,List.zip_cons_cons,if_pos e];rw [<-h1]
     ·simp only [List.map_cons,if_pos e];exact .cons rv h2
    ·refine ⟨u :: ws,?_,?_⟩
     ·simp only [List.map_cons,List.zip_cons_cons,if_neg e];rw [<-h1]
     ·simp only [List.map_cons,if_neg e];exact .cons r1 h2
 ·rw [if_neg e,if_neg e]
  refine ⟨vs++[v],?_,?_⟩
  ·rw [List.map_append,List.zip_append (by rw [qlm];have:=r.length;rw [qlm] at this;exact this)];rfl
  ·rw [List.map_append];exact r.append (.cons rv .nil)
end
noncomputable def dRd (S:Sto):D->D->Option (Option D)
 | .ref n,y=>match S[n]? with
  | some (.dct kvs)=>(zep y).bind λk=>some (zcz kvs k)
  | some (.fdct kvs)=>(zep y).bind λk=>some (zcz kvs k)
  | some (.tdct kvs)=>(zc9 y).bind λk=>some (za6 kvs k)
  | some (.ftdct kvs)=>(zc9 y).bind λk=>some (za6 kvs k)
  | _=>none
 | _,_=>none
noncomputable def isDc (S:Sto):D->Option Unit
 | .ref n=>match S[n]? with
  | some (.dct _)=>some ()
  | some (.fdct _)=>some ()
  | some (.tdct _)=>some ()
  | some (.ftdct _)=>some ()
  | _=>none
 | _=>none
def Ro1 (ρ:List Addr) (H:Hp) (o:Option D) (o':Option V):Prop:=(o=none->o' = none)/\∀d,o=some d->∃v,o' = some v/\RD ρ H d v
theorem Ro1.isSome (r:Ro1 ρ H o o'):o'.isSome=o.isSome:=by
 cases o with
 | none=>rw [r.1 rfl];rfl
 | some d=>obtain ⟨v,e,_⟩:=r.2 d rfl;rw [e];rfl
theorem Ro1.getD (r:Ro1 ρ H o o') (rz:RD ρ H z z'):RD ρ H (o.getD z) (o'.getD z'):=by
 cases o with
 | none=>rw [r.1 rfl];exact rz
 | some d=>obtain ⟨v,e,q⟩:=r.2 d rfl;rw [e];exact q
theorem Sim.isDc {K:QFg}{ρ:List Addr}{H:Hp}{S:Sto}{x:D}{x':V}(s:Sim K ρ S H) (rx:RD ρ H x x') (h:L3.isDc S x=some ()):∃a,x' = .ref a/\IsD H a:=by
 unfold L3.isDc at h
 split at h
 ·cases rx with
  | @ref n a hn =>
   refine ⟨a,rfl,?_⟩
   split at h
   ·rename_i e;obtain ⟨vs,hH,_⟩:=s.at' _ a _ hn e;exact .inl ⟨_,.inl hH⟩
   ·rename_i e;obtain ⟨o,vs,hH,_⟩:=s.at' _ a _ hn e;exact .inl ⟨_,.inr ⟨o,hH⟩⟩
   ·rename_i e;obtain ⟨vs,hH,_⟩:=s.at' _ a _ hn e;exact .inr ⟨_,.inl hH⟩
   ·rename_i e;obtain ⟨o,vs,hH,_⟩:=s.at' _ a _ hn e;exact .inr ⟨_,.inr ⟨o,hH⟩⟩
   ·cases h
 ·cases h
theorem Sim.dRd {K:QFg}{ρ:List Addr}{H:Hp}{S:Sto}{x y:D}{x' y':V}{o:Option D}(s:Sim K ρ S H) (rx:RD ρ H x x') (ry:RD ρ H y y') (h:L3.dRd S x y=some o):∃a o',x' = .ref a/\DGet H a y' o'/\Ro1 ρ H o o':=by
 unfold L3.dRd at h
 split at h
 ·cases rx with
  | @ref n a hn =>
   split at h
   ·rename_i e
    obtain ⟨k,hk,h⟩:=bnd h
    cases h
    obtain ⟨vs,hH,r⟩:=s.at' _ a _ hn e
    have ey:=zgl hk ry
    subst ey
    exact ⟨a,_,rfl,.inl ⟨_,k,.inl hH,rfl,rfl⟩,kv_get r⟩
   ·rename_i e
    obtain ⟨k,hk,h⟩:=bnd h
    cases h
    obtain ⟨ob,vs,hH,r⟩:=s.at' _ a _ hn e
    have ey:=zgl hk ry
    subst ey
    exact ⟨a,_,rfl,.inl ⟨_,k,.inr ⟨ob,hH⟩,rfl,rfl⟩,kv_get r⟩
   ·rename_i e
    obtain ⟨k,hk,h⟩:=bnd h
    cases h
    obtain ⟨vs,hH,r⟩:=s.at' _ a _ hn e
    obtain ⟨b,rfl,hb⟩:=zh0 hk ry
    exact ⟨a,_,rfl,.inr ⟨_,k,b,.inl hH,rfl,hb,rfl⟩,zjk r⟩
   ·rename_i e
    obtain ⟨k,hk,h⟩:=bnd h
    cases h
    obtain ⟨ob,vs,hH,r⟩:=s.at' _ a _ hn e
    obtain ⟨b,rfl,hb⟩:=zh0 hk ry
    exact ⟨a,_,rfl,.inr ⟨_,k,b,.inr ⟨ob,hH⟩,rfl,hb,rfl⟩,zjk r⟩
   ·cases h
 ·cases h
noncomputable def zer (neg:Bool):D->D->Sto->Option (D × Sto):=λy x S=>(dRd S x y).bind λo=>some (.bl (if neg then !o.isSome else o.isSome),S)
theorem yco {K:QFg}{neg:Bool}:Op3 K (zer neg) (λy x H Q=>∃a o,x=.ref a/\DGet H a y o/\Q (.bl (if neg then !o.isSome else o.isSome)) H):=by
 intro ρ S H y x y' x' v S' Q sim ry rx h p
 obtain ⟨o,h1,h⟩:=bnd h
 cases h
 obtain ⟨a,o',rfl,g,r⟩:=sim.dRd rx ry h1
 refine ⟨a,o',rfl,g,?_⟩
 rw [r.isSome]
 exact p ρ H _ (Ext.refl ..) sim (.bl _)
section
theorem zp8 (hr:Room k X.A) (ha:PE3 X a ma) (hb:PE3 X b mb) (hm:behindInMarks .NotIn b=false:=by rfl):PT3 X (.Compare a [.NotIn] [b] pos) (tE (eOp (zer true) ma mb)):=zd4 (ybl hr) (yco (neg:=true)) ha hb hm
noncomputable def zgr (o e f:EM):EM:=λl S=>(o l S).bind λp=>(isDc p.2 p.1).bind λ_=>(e l p.2).bind λq=>(f l q.2).bind λt=>(dRd t.2 p.1 q.1).bind λr=>some (r.getD t.1,t.2)
theorem ycp (hr:Room k X.A) (ho:PE3 X o mo) (he:PE3 X e me) (hf:PE3 X f mf) (m:M2 X o "get" apos e f cpos:=by exact ⟨rfl,rfl,rfl,rfl⟩):PE3 X (.Call (.Attribute o "get" apos) [e,f] [] cpos) (zgr mo me mf):=PE.imp (zyg (zgm hr) ho he hf m) λσ H Q hx2_=>by
 obtain ⟨ρ,l,S,v,S',sim,ro,hq,p⟩:=hx2_
 obtain ⟨⟨x,S1⟩,h1,hq⟩:=bnd hq
 obtain ⟨_,h2,hq⟩:=bnd hq
 obtain ⟨⟨y,S2⟩,h3,hq⟩:=bnd hq
 obtain ⟨⟨z,S3⟩,h5,hq⟩:=bnd hq
 obtain ⟨r,h4,hq⟩:=bnd hq
 cases hq
 refine ⟨ρ,l,S,x,S1,sim,ro,h1,λρ1 H1 x' e1 s1 r1=>?_⟩
 obtain ⟨a,rfl,da⟩:=s1.isDc r1 h2
 refine ⟨a,rfl,da,ρ1,l,S1,y,S2,s1,ro.mono e1,h3,λρ2 H2 y' e2 s2 r2=>⟨ρ2,l,S2,z,_,s2,(ro.mono e1).mono e2,h5,λρ3 H3 z' e3 s3 r3=>?_⟩⟩
 obtain ⟨a',o',ea,g,ro'⟩:=s3.dRd ((r1.mono e2).mono e3) (r2.mono e3) h4
 cases ea
 exact ⟨o',g,p ρ3 H3 _ (e1.trans (e2.trans e3)) s3 (ro'.getD r3)⟩
end
noncomputable def zlr:EM:=λ_ S=>some (.ref S.length,S++[.tdct []])
section
theorem ycq:PE3 X (.Dict [] [] pos) zlr:=PE.imp zyd λσ H Q hx3_=>by
 obtain ⟨ρ,l,S,v,S',sim,ro,hm,p⟩:=hx3_
 cases hm
 intro a ha
 exact p (ρ++[a]) _ _ (zku ha) (sim.pushG ha ⟨[],zbo,.nil⟩) (.ref (by rw [<-sim.len];exact zd2 ρ a))
end
theorem ze4 (kvs:List (List Key × V)):zef (.dT kvs):=⟨λ_ z=>(by cases z),λ_ _ z=>(by cases z)⟩
noncomputable def zes:D->D->D->Sto->Option Sto
 | .ref n,y,v,S=>match S[n]? with
  | some (.dct kvs)=>(zep y).bind λk=>if kvs.length<sizeLine then some (S.set n (.dct (zc6 kvs k v))) else none
  | some (.tdct kvs)=>(zc9 y).bind λk=>if kvs.length<sizeLine then some (S.set n (.tdct (zce kvs k v))) else none
  | _=>none
 | _,_,_,_=>none
theorem zls {kvs:List (List Key × D)}(r:RDs ρ H (kvs.map (·.2)) vs):((kvs.map (·.1)).zip vs).length=kvs.length:=by
 rw [List.length_zip,qlm];have:=r.length;rw [qlm] at this;omega
theorem ycr {K:QFg}{ρ:List Addr}{S S':Sto}{H:Hp}{x y d:D}{x' y' v':V}(s:Sim K ρ S H) (rx:RD ρ H x x') (ry:RD ρ H y y') (rd:RD ρ H d v') (h:zes x y d S=some S'):∃a H',x' = .ref a/\DPut H a y' v' H'/\Ext ρ H ρ H'/\Sim K ρ S' H':=by
 unfold zes at h
 split at h
 ·cases rx with
  | @ref n a hn =>
   split at h
   ·rename_i kvs e
    obtain ⟨k,hk,h⟩:=bnd h
    obtain ⟨hz,e2⟩:=za1 h
    cases e2
    obtain ⟨vs,hH,r⟩:=s.at' _ a _ hn e
    have ey:=zgl hk ry
    subst ey
    obtain ⟨ws,hw1,hw2⟩:=zps (k:=k) rd r
    have ex:=zhd (o:=.dK (zbs ((kvs.map (·.1)).zip vs) k v')) hn hH (zgn _)
    refine ⟨a,_,rfl,DPut.k hH (by rw [zpw r];exact hz),ex,s.setG hn e rfl hH (zgn _) ⟨ws,by rw [zbo,hw1],hw2.mono ex⟩⟩
   ·rename_i kvs e
    obtain ⟨k,hk,h⟩:=bnd h
    obtain ⟨hz,e2⟩:=za1 h
    cases e2
    obtain ⟨vs,hH,r⟩:=s.at' _ a _ hn e
    obtain ⟨b,rfl,hb⟩:=zh0 hk ry
    obtain ⟨ws,hw1,hw2⟩:=zlq (k:=k) rd r
    have ex:=zhd (o:=.dT (zbs ((kvs.map (·.1)).zip vs) k v')) hn hH (ze4 _)
    refine ⟨a,_,rfl,DPut.t hH hb (by rw [zls r];exact hz),ex,s.setG hn e rfl hH (ze4 _) ⟨ws,by rw [zbo,hw1],hw2.mono ex⟩⟩
   ·cases h
 ·cases h
noncomputable def zgs (o i:EM):GM:=λv l S=>(o l S).bind λp=>(i l p.2).bind λq=>(zes p.1 q.1 v q.2).bind λS'=>some (l,S')
section
theorem zp9 (hr:Room k X.A) (ho:PE3 X o mo) (hi:PE3 X i mi) (hv:PE3 X value mv) (hs:swapsWith value (some (.Subscript o i pos')) pos.line X.env=pure false:=by rfl) :
  PS3 X (.Assign [.Subscript o i pos'] value pos) (zak mv (zgs mo mi)):=PS.imp (zya (zgm hr) ho hi hv hs) λE σ H hx4_=>by
 obtain ⟨ρ,l,S,f,l',S',sim,ro,hm,p⟩:=hx4_
 obtain ⟨⟨d,S1⟩,h1,hm⟩:=bnd hm
 obtain ⟨⟨l2,S2⟩,h2,hm⟩:=bnd hm
 obtain ⟨⟨x,S3⟩,h3,h2⟩:=bnd h2
 obtain ⟨⟨y,S4⟩,h4,h2⟩:=bnd h2
 obtain ⟨S5,h5,h2⟩:=bnd h2
 cases h2;cases hm
 refine ⟨ρ,l,S,d,S1,sim,ro,h1,λρ1 H1 v' e1 s1 r1=>⟨ρ1,l,S1,x,S3,s1,ro.mono e1,h3,λρ2 H2 x' e2 s2 r2=>⟨ρ2,l,S3,y,S4,s2,(ro.mono e1).mono e2,h4,λρ3 H3 y' e3 s3 r3=>?_⟩⟩⟩
 obtain ⟨a,H4,rfl,pu,ex,s4⟩:=ycr s3 (r2.mono e3) r3 (r1.mono (e2.trans e3)) h5
 exact ⟨a,H4,rfl,pu,p ρ3 _ σ ((e1.trans (e2.trans e3)).trans ex) s4 ((((ro.mono e1).mono e2).mono e3).mono ex)⟩
end
def Fnc (K:QFg) (mg:Str->Option Value) (x:Str):Prop:=∃f o,PySem.W.nsIn K mainGlobals x=some (some (.ref f))/\K.lookup f=some o/\mg x=some (.ref f)
section
variable {K:QFg}{ρ:List Addr}{H:Hp}{S:Sto}
end
section
variable {X:Cx}{x y:Str}{pos p:Pos}{a:Expr}{es:List Expr}
end
section
theorem zlt:∀{names:List (Str × NameKind)}{k:Nat}{acc:List (Str × Addr)}{x:Str}{c:Addr},(x,c)∈cellsFrom k names acc->(x,c)∈acc\/(k<=c/\(x,NameKind.cell)∈names)
 | [],_,_,_,_,h=>.inl h
 | (n,kd) :: r,k,acc,x,c,h=>by
  unfold cellsFrom at h
  split at h
  ·rename_i hk
   have hk:kd=.cell:=by simpa using hk
   subst hk
   rcases zlt h with h|⟨h1,h2⟩
   ·rcases List.mem_cons.mp h with e|h
    ·cases e;exact .inr ⟨qlr _,List.mem_cons_self⟩
    ·exact .inl h
   ·exact .inr ⟨by omega,List.mem_cons_of_mem _ h2⟩
  ·rcases zlt h with h|⟨h1,h2⟩
   ·exact .inl h
   ·exact .inr ⟨h1,List.mem_cons_of_mem _ h2⟩
theorem zlu:∀{names:List (Str × NameKind)}{k:Nat}{acc:List (Str × Addr)},(∀x y c,(x,c)∈acc->(y,c)∈acc->x=y)->(∀x c,(x,c)∈acc->c<k)->∀x y c,(x,c)∈cellsFrom k names acc->(y,c)∈cellsFrom k names acc->x=y
 | [],_,_,hi,_,x,y,c,h1,h2=>hi x y c h1 h2
 | (n,kd) :: r,k,acc,hi,hl,x,y,c,h1,h2=>by
  unfold cellsFrom at h1 h2
  split at h1
  ·rename_i hk
   rw [if_pos hk] at h2
   refine zlu (λx y c g1 g2=>?_) (λx c g=>?_) x y c h1 h2
   ·rcases List.mem_cons.mp g1 with e1|g1 <;> rcases List.mem_cons.mp g2 with e2|g2
    ·cases e1;cases e2;rfl
    ·cases e1;exact absurd (hl _ _ g2) (Nat.lt_irrefl _)
    ·cases e2;exact absurd (hl _ _ g1) (Nat.lt_irrefl _)
    ·exact hi x y c g1 g2
   ·rcases List.mem_cons.mp g with e|g
    ·cases e;exact Nat.lt_succ_self _
    ·exact Nat.lt_succ_of_lt (hl _ _ g)
  ·rename_i hk
   rw [if_neg hk] at h2
   exact zlu hi hl x y c h1 h2
theorem zjl:∀{names:List (Str × NameKind)}{k:Nat}{acc:List (Str × Addr)}{x:Str},((x,NameKind.cell)∈names\/∃c,acc.lookup x=some c)->∃c,(cellsFrom k names acc).lookup x=some c
 | [],_,_,x,h=>by
  rcases h with h|h
  ·cases h
  ·exact h
 | (n,kd) :: r,k,acc,x,h=>by
  unfold cellsFrom
  split
  ·rename_i hk
   have hk:kd=.cell:=by simpa using hk
   subst hk
   refine zjl ?_
   by_cases hx:x=n
   ·exact .inr ⟨k,by rw [hx,List.lookup_cons];simp⟩
   ·rcases h with h|⟨c,h⟩
    ·rcases List.mem_cons.mp h with e|h
     ·cases e;exact absurd rfl hx
     ·exact .inl h
    ·refine .inr ⟨c,?_⟩
     rw [List.lookup_cons]
     have:(x == n)=false:=by simpa using hx
     rw [this];exact h
  ·rename_i hk
   refine zjl ?_
   rcases h with h|h
   ·rcases List.mem_cons.mp h with e|h
    ·cases e;simp at hk
    ·exact .inl h
   ·exact .inr h
theorem zlv:∀{names:List (Str × NameKind)}{k:Nat}{acc:List (Str × Addr)}{x:Str},(x,NameKind.cell) ∉ names->(cellsFrom k names acc).lookup x=acc.lookup x
 | [],_,_,_,_=>rfl
 | (n,kd) :: r,k,acc,x,h=>by
  unfold cellsFrom
  split
  ·rename_i hk
   have hk:kd=.cell:=by simpa using hk
   subst hk
   rw [zlv λz=>h (List.mem_cons_of_mem _ z),List.lookup_cons]
   have:(x == n)=false:=by
    have:x≠n:=λe=>h (by rw [e];exact List.mem_cons_self)
    simpa using this
   rw [this]
  ·exact zlv λz=>h (List.mem_cons_of_mem _ z)
theorem zlw:∀{names:List (Str × NameKind)}{k k0:Nat}{acc:List (Str × Addr)}{x:Str}{c:Addr},k0<=k->((x,NameKind.cell)∈names\/∃c',acc.lookup x=some c'/\k0<=c')->(cellsFrom k names acc).lookup x=some c->k0<=c
 | [],k,k0,acc,x,c,_,h,e=>by
  have e:acc.lookup x=some c:=e
  rcases h with h|⟨c',h,q⟩
  ·cases h
  ·rw [h] at e;cases e;exact q
 | (n,kd) :: r,k,k0,acc,x,c,hk0,h,e=>by
  unfold cellsFrom at e
  split at e
  ·rename_i hk
   have hk:kd=.cell:=by simpa using hk
   subst hk
   refine zlw (by omega) ?_ e
   by_cases hx:x=n
   ·exact .inr ⟨k,by rw [hx,List.lookup_cons];simp,hk0⟩
   ·rcases h with h|⟨c',h,q⟩
    ·rcases List.mem_cons.mp h with e|h
     ·cases e;exact absurd rfl hx
     ·exact .inl h
    ·refine .inr ⟨c',?_,q⟩
     rw [List.lookup_cons]
     have:(x == n)=false:=by simpa using hx
     rw [this];exact h
  ·rename_i hk
   refine zlw hk0 ?_ e
   rcases h with h|h
   ·rcases List.mem_cons.mp h with e|h
    ·cases e;simp at hk
    ·exact .inl h
   ·exact .inr h
theorem zfr (env:Env):∀(names:List (Str × NameKind)) (cs:List (Str × Addr)),(∀x c,(x,c)∈cs->env.cells.lookup x=some c)->∀x c,(x,c)∈zbt env names cs->env.cells.lookup x=some c
 | [],cs,h,x,c,q=>h x c q
 | (n,k) :: r,cs,h,x,c,q=>by
  unfold zbt at q
  split at q
  ·split at q
   ·rename_i c' e
    refine zfr env r _ (λy d hy=>?_) x c q
    rcases List.mem_cons.mp hy with z|hy
    ·cases z;exact e
    ·exact h y d hy
   ·exact zfr env r cs h x c q
  ·exact zfr env r cs h x c q
theorem zlx:∀{names:List (Str × NameKind)}{h:Heap}{acc:List (Str × Addr)}{x:Str}{c:Addr},(x,c)∈cellsFrom h.objs.size names acc->(x,c)∈acc\/(pushCells h names).IsCell c none
 | [],_,_,_,_,q=>.inl q
 | (n,kd) :: r,h,acc,x,c,q=>by
  unfold cellsFrom at q
  unfold pushCells
  split at q
  ·rename_i hk
   rw [if_pos hk]
   have:=zlx (names:=r) (h:=h.push { cls:=.type "cell",data:=.cell none }) (acc:=(n,h.objs.size) :: acc) (x:=x) (c:=c) (by rw [Heap.size_push];exact q)
   rcases this with z|z
   ·rcases List.mem_cons.mp z with e|z
    ·cases e
     exact .inr ⟨_,pushCells_keeps r _ _ _ (Heap.get?_push_size _ rfl),rfl⟩
    ·exact .inl z
   ·exact .inr z
  ·rename_i hk
   rw [if_neg hk]
   exact zlx q
end
theorem ycs {globals:Addr}
  (hQ:∀h',h'.Ns s.heap.objs.size (λ_=>none)->(∀b o,s.heap.get? b=some o->h'.get? b=some o)->(∀x c,(x,c)∈cellsFrom (s.heap.objs.size+1) scope.names cl->(x,c)∈cl\/h'.IsCell c none) ->
   Q (newEnv scope s.heap.objs.size globals (cellsFrom (s.heap.objs.size+1) scope.names cl) qual none .none (some outer) builtinsNs) { s with heap:=h' }) :
  wpAny M A (newFunctionEnv scope globals cl [] qual none .none (some outer)) Q E s:=by
 unfold newFunctionEnv
 refine qwb (wpAny_alloc ?_)
 refine qwb (wpAny_layCells _ (λname kind cells=>by cases hkc:kind == NameKind.cell <;> simp [hkc]) _ _ _ _ ?_)
 dsimp only
 rw [List.forIn_nil]
 refine qwb (qwp (qwp ?_))
 have hz:(s.heap.push { cls:=.type "dict",data:=.dict #[] }).objs.size=s.heap.objs.size+1:=Heap.size_push ..
 have h1:=hQ (pushCells (s.heap.push { cls:=.type "dict",data:=.dict #[] }) scope.names) ((Heap.Ns.new s.heap (.type "dict")).keeps (pushCells_keeps _ _)) (λb o e=>pushCells_keeps _ _ b o (qps _ e)) (λx c q=>zlx (by rw [hz];exact q))
 simp only [Option.isSome_some,if_true,hz]
 exact h1
noncomputable def cxD (X:Cx) (N':List Str) (scope:Scope) (C:Addr) (s:Shared) (H:Hp) (fp:List Addr) (pins:List (Addr × Obj)):Cx where
 prog:=X.prog
 w:=X.w
 K:=X.K
 mg:=X.mg
 base:=X.base
 A:=X.A
 N:=N'
 s₀:=s
 H₀:=H
 env:=compEnvC scope (cellsFrom (C+1) scope.names (zbt X.env scope.names [])) C X.env
 outer:=X.stack
 stack:=X.stack
 ex:=fp
 fn:=λx=>scope.names.contains (x,NameKind.cell)
 calm:=X.calm
 pn:=X.pn++pins
 xe:=λ_ _=>False
structure CompSd (X:Cx) (N':List Str) (scope:Scope) (src:St->St):Prop where
 kind:scope.kind=.function
 names:∀y∈scope.names,y.2=.local->scope.names.lookup y.1=some .local
 free:∀y∈scope.names,y.2=.free->X.env.kindOf y.1=some .cell\/X.env.kindOf y.1=some .free
 rel:∀y,(relabel scope X.env).names.lookup y=some .cell\/(relabel scope X.env).names.lookup y=some .free->(y,NameKind.free)∈scope.names\/(y,NameKind.cell)∈scope.names
 one:∀y,scope.names.lookup y=some .free->(y,NameKind.cell) ∉ scope.names
 len:∀σ,(src σ).length=N'.length
 src:∀σ (i:Nat) v x,(src σ)[i]? = some (some v)->N'[i]? = some x->∃j:Nat,X.N[j]? = some x/\σ[j]? = some (some v)/\scope.names.lookup x=some .free
theorem zqa {X:Cx}{N':List Str}{elt iter tgt:Expr}{ifs:List Expr}{scope:Scope}{pos pos':Pos}{use:Option (Value->Sem Unit)}{R:Value->Shared->Prop}{pins:List (Addr × Obj)}{s:Shared}{σ:St}{H:Hp}{Q:VK}{wi:TI}{src:St->St}{g:TG}{tts:TT}{t:TE}(hcalm:X.calm=true) (sc:CompSd X N' scope src)
  (hi:PI X tgt iter wi) (hg:∀C s H fp pins,PG (cxD X N' scope C s H fp pins) tgt g) (ht:∀C s H fp pins,PTs (cxD X N' scope C s H fp pins) ifs tts) (he:∀C s H fp pins,PE (cxD X N' scope C s H fp pins) elt t)
  (hs:∀x,foldedSetIterable iter X.env x=pure x) (I:Inv X pins σ H s) (h:zi7 X.K wi src g tts t σ H Q)
  (fin:∀D H5 s6 C mC,Inv X pins σ H5 s6->zcn X pins H5 C->s6.heap.Ns C mC->Q (.ref D) H5->compPost (model X.prog X.w) X.A X.xe use R (.ref D) C (.ok .next) s6) :
  wpAny (model X.prog X.w) X.A (comprehension (.ListComp elt [⟨tgt,iter,ifs,0⟩] scope pos) scope X.env pos' (newList []) false (eval iter X.env) use) R X.xe s:=by
 have hasC:∀x∈scope.names,x.2=.free->∃c,X.env.cells.lookup x.1=some c:=λx hx hf=>I.ok.has x.1 (sc.free x hx hf)
 refine wpAny_comprehension_free (use:=use) (env:=X.env) rfl hs (zk5 scope X.env hasC) sc.kind sc.names ?_
 show wpAny (model X.prog X.w) X.A (eval iter X.env) _ _ s
 refine wpAny_mono (hi pins s σ H _ I h) (λv s1 h1=>wpAny_mono h1 (λitv s2 h2=>?_) λ_ _ z=>z) λ_ _ z=>z
 obtain ⟨it,fp,tn,J,H2,rfl,I2,T,st2,f2,q⟩:=h2
 refine wpAny_newObj_type ?_ (by show 0<=sizeLine;exact Nat.zero_le _)
 have hD:H2 s2.heap.objs.size=none:=I2.hok.fresh (qlr _)
 have I3:Inv X pins σ (upd H2 s2.heap.objs.size (.lst [])) { s2 with heap:=s2.heap.push { cls:=.type "list",data:=.seq ([]:List Value).toArray } }:=I2.lnew (t':=s2.toks) .nil (Nat.zero_le _)
 obtain ⟨W,⟨m0,w0⟩,turn⟩:=q s2.heap.objs.size hD (by
  cases e:X.K.lookup s2.heap.objs.size with
  | none=>rfl
  | some o=>exact absurd (Heap.lt_size (I2.kIn _ o e)) (Nat.lt_irrefl _))
 refine ycs λh' hns old0 hown0=>?_
 have fpIn:∀b∈fp,∃o,s2.heap.get? b=some o/\∀v,o.data≠.cell v:=T.obj 0 s2.heap st2
 have fpD:∀b∈fp,b≠s2.heap.objs.size:=λb hb=>let ⟨o,e,_⟩:=fpIn b hb;Nat.ne_of_lt (Heap.lt_size e)
 have f3:∀b∈fp,zcn X pins (upd H2 s2.heap.objs.size (.lst [])) b:=λb hb=>⟨by rw [zaj (fpD b hb)];exact (f2 b hb).1,(f2 b hb).2⟩
 have st3:tn 0 (s2.heap.push { cls:=.type "list",data:=.seq ([]:List Value).toArray }):=T.keep _ _ _ st2 λb hb o e=>qps _ e
 clear q hD h st2 f2 fpD
 generalize upd H2 s2.heap.objs.size (.lst [])=H3 at *
 generalize hDe:s2.heap.objs.size=D at *
 have fpIn3:∀b∈fp,∃o,(s2.heap.push { cls:=.type "list",data:=.seq ([]:List Value).toArray }).get? b=some o/\∀v,o.data≠.cell v:=T.obj 0 _ st3
 clear fpIn
 generalize s2.heap.push { cls:=.type "list",data:=.seq ([]:List Value).toArray }=h3 at *
 have old:∀b o,h3.get? b=some o->h'.get? b=some o:=old0
 have stkNo:∀b,b≠X.env.locals->b ∉ X.fs->b ∉ frs X.stack:=λb h1 h2 hb=>by
  rcases List.mem_cons.mp (I3.stkSub b hb) with z|z
  ·exact h1 z
  ·exact h2 z
 have sub:=zgd X.env scope.names [] (λx c z=>by simp at z)
 have clLt:∀x c,(x,c)∈zbt X.env scope.names []->c<h3.objs.size:=λx c z=>by
  obtain ⟨v,o,ho,_⟩:=I3.cell x c (zfr X.env scope.names [] (λx c z=>by simp at z) x c z)
  exact Heap.lt_size ho
 have clInj:∀x y c,(x,c)∈zbt X.env scope.names []->(y,c)∈zbt X.env scope.names []->x=y:=λx y c z1 z2=>by
  have e1:=zfr X.env scope.names [] (λx c z=>by simp at z) x c z1
  have e2:=zfr X.env scope.names [] (λx c z=>by simp at z) y c z2
  exact I3.ok.inj x y c e1 e2
 have own:∀x c,(cellsFrom (h3.objs.size+1) scope.names (zbt X.env scope.names [])).lookup x=some c->X.env.cells.lookup x=some c\/(h3.objs.size+1<=c/\h'.IsCell c none):=λx c z=>by
  have zm:=PySem.mem_of_lookup z
  rcases zlt zm with y|⟨y,_⟩
  ·exact .inl (zfr X.env scope.names [] (λx c z=>by simp at z) x c y)
  ·rcases hown0 x c zm with q|q
   ·exact absurd (clLt x c q) (Nat.not_lt.mpr (Nat.le_of_succ_le y))
   ·exact .inr ⟨y,q⟩
 have cNe:∀b o,h3.get? b=some o->b≠h3.objs.size:=λb o e=>Nat.ne_of_lt (Heap.lt_size e)
 have exf:∀b∈fp,∀x c,(cellsFrom (h3.objs.size+1) scope.names (zbt X.env scope.names [])).lookup x=some c->c≠b:=λb hb x c z=>by
  rcases own x c z with y|⟨y,_⟩
  ·exact (f3 b hb).2.2.2.2.1 x c y
  ·obtain ⟨o,e,_⟩:=fpIn3 b hb
   exact λz=>absurd (Nat.lt_of_lt_of_le (Heap.lt_size e) (Nat.le_of_succ_le y)) (by rw [z];exact Nat.lt_irrefl _)
 have frC:∀x c,(cellsFrom (h3.objs.size+1) scope.names (zbt X.env scope.names [])).lookup x=some c->H3 c=none:=λx c z=>by
  rcases own x c z with y|⟨y,_⟩
  ·exact I3.freeC x c y
  ·exact I3.hok.fresh (Nat.le_of_succ_le y)
 have I4:Inv (cxD X N' scope h3.objs.size { s2 with heap:=h3 } H3 fp pins) [] (src σ) H3 { s2 with heap:=h',toks:=s2.toks }:=by
  refine ⟨⟨I3.ok.mod,sc.kind,I3.ok.glob,I3.ok.blt,qlr _,λx y c h1 h2=>zlu clInj (λx c z=>Nat.lt_succ_of_lt (clLt x c z)) x y c (PySem.mem_of_lookup h1) (PySem.mem_of_lookup h2),λx hx=>?_,λx c z q=>Nat.le_of_succ_le (zlw (k0:=h3.objs.size+1) (qlr _) (.inl (by have z:scope.names.contains (x,NameKind.cell)=true:=z;simpa using z)) q),I3.ok.hd,I3.ok.frames,.inl rfl,λb hb=>⟨?_,λx c z=>exf b hb x c z⟩,λb o e=>I3.bs b o e,Nat.le_trans I3.ok.bsz I3.sz,λb o e hb=>?_,λb hb=>stkNo b (f3 b hb).2.1 (f3 b hb).2.2.1,I3.stack,I3.stkFree⟩,
   rfl,I3.bare,Un.kept old,⟨_,hns,λi x v h1 h2 h3'=>?_⟩,λx c z=>?_,I3.hok.fresh (qlr _),λx c z=>frC x c z,λp hp=>?_,I3.hok.kept old,sc.len σ⟩
  ·rcases sc.rel x hx with hm|hm
   ·exact zjl (.inr (zek X.env scope.names [] x (.inl hm) (hasC _ hm rfl)))
   ·exact zjl (.inl hm)
  ·obtain ⟨o,e,_⟩:=fpIn3 b hb
   exact cNe b o e
  ·rcases (f3 b hb).2.2.2.1 with z|z
   ·exact I3.ok.noex b o e z
   ·have:=Heap.lt_size (I3.ok.bs b o e).1
    exact absurd (Nat.lt_of_lt_of_le this z) (Nat.lt_irrefl _)
  ·obtain ⟨j,e1,e2,e3⟩:=sc.src σ i v x h2 h1
   obtain ⟨m,hn,hl⟩:=I3.loc
   have hmem:=PySem.mem_of_lookup e3
   have hk:=sc.free (x,.free) hmem rfl
   have vis:Vis X.env.scope x:=by
    rcases hk with k|k
    ·exact .inr (.inl k)
    ·exact .inr (.inr k)
   obtain ⟨u,r,lk⟩:=hl j x v e1 e2 vis
   refine ⟨u,r,.inr ⟨?_,?_⟩⟩
   ·exact zi8 (scope:=scope) e3
   ·rcases lk with ⟨k,_⟩|⟨_,c,hc,hcell⟩
    ·rcases hk with k' | k' <;> (rw [k] at k';cases k')
    ·obtain ⟨c',hc'⟩:=zek X.env scope.names [] x (.inl hmem) ⟨c,hc⟩
     have:=sub x c' hc'
     rw [hc] at this;cases this
     have hc':(cellsFrom (h3.objs.size+1) scope.names (zbt X.env scope.names [])).lookup x=some c:=by rw [zlv (sc.one x e3)];exact hc'
     obtain ⟨o,ho,hd⟩:=hcell
     exact ⟨c,hc',o,old _ _ ho,hd⟩
  ·rcases own x c z with y|⟨_,y⟩
   ·obtain ⟨v,o,ho,hd⟩:=I3.cell x c y
    exact ⟨v,o,old _ _ ho,hd⟩
   ·exact ⟨none,y⟩
  ·have hp':p∈X.pn++pins:=by simpa [cxD] using hp
   obtain ⟨e,n,ne,nf,d⟩:=I3.pin p hp'
   exact ⟨old _ _ e,n,cNe _ _ e,stkNo _ ne nf,d⟩
 have st4:tn 0 h':=T.keep _ _ _ st3 λb hb o e=>old b o e
 have fr4:∀b∈fp,H3 b=none:=λb hb=>(f3 b hb).1
 have stat:∀{H':Hp},(∀b∈fp,H' b=none)->∀b∈fp,zcn (cxD X N' scope h3.objs.size { s2 with heap:=h3 } H3 fp pins) [] H' b:=λhn b hb=>by
  obtain ⟨g0,g1,g2,g3,g4,g5⟩:=f3 b hb
  obtain ⟨o,e,_⟩:=fpIn3 b hb
  exact ⟨hn b hb,cNe b o e,stkNo b g1 g2,.inl hb,λx c z=>exf b hb x c z,λp hp=>g5 p (by simpa [cxD] using hp)⟩
 have loop:codeAny (model X.prog X.w) X.A (.compLoop (.ListComp elt [⟨tgt,iter,ifs,0⟩] scope pos) 0 (.ref it) (.ref D) (compEnvC scope (cellsFrom (h3.objs.size+1) scope.names (zbt X.env scope.names [])) h3.objs.size X.env))
   (compPost (model X.prog X.w) X.A X.xe use R (.ref D) h3.objs.size) { s2 with heap:=h',toks:=s2.toks }:=by
  refine zzg (λn s'=>∃i σ' H',Inv (cxD X N' scope h3.objs.size { s2 with heap:=h3 } H3 fp pins) [] σ' H' s'/\tn i s'.heap/\(∀b∈fp,H' b=none)/\W i n σ' H') ?_ m0 ⟨0,src σ,H3,I4,st4,fr4,w0⟩
  rintro n s5 ⟨i,σ5,H5,I5,st5,fr5,w5⟩
  rcases turn i n σ5 H5 w5 with ⟨stop,qn⟩|⟨go,N,hN,step⟩
  ·refine wpAny_mono (T.done (cxD X N' scope h3.objs.size { s2 with heap:=h3 } H3 fp pins) rfl rfl rfl hcalm i [] s5 σ5 H5 (λ_ _=>False) I5 (stat fr5) st5 stop) (λr s6 hr=>?_) λ_ _ z=>False.elim z
   obtain ⟨hr,I6⟩:=hr
   subst hr
   obtain ⟨mC,hnC,_⟩:=I6.loc
   have IX:Inv X pins σ H5 s6:=I3.call' (s':=s6) (ch:=fp) I6.os I6.base I6.hok I6.bare λb hb=>⟨(f3 b hb).2.2.2.1,(f3 b hb).2.1,(f3 b hb).2.2.2.2.1,(f3 b hb).2.2.2.2.2⟩
   exact fin D H5 s6 h3.objs.size mC IX (I3.fpOk (qlr _) I6.free) hnC qn
  ·refine wpAny_mono (T.item (cxD X N' scope h3.objs.size { s2 with heap:=h3 } H3 fp pins) rfl rfl rfl hcalm i [] s5 σ5 H5 (λ_ _=>False) I5 (stat fr5) st5 go) (λr s6 hr=>?_) λ_ _ z=>False.elim z
   obtain ⟨u,hr,h6⟩:=hr
   subst hr
   refine wpAny_mono h6 (λ_ s7 h7=>?_) λ_ _ z=>False.elim z
   obtain ⟨x,H7,I7,r7,y7,st7,fr7⟩:=h7
   have I7':=I7.pinned (stat fr7) (T.obj _ _ st7)
   refine wpAny_mono (hg _ _ _ _ _ _ s7 σ5 H7 x u _ I7' r7 (step x H7 y7)) (λ_ s8 h8=>?_) λ_ _ z=>False.elim z
   obtain ⟨σ8,H8,I8,q8⟩:=h8
   have again:∀{H9:Hp} {s9:Shared},Inv (cxD X N' scope h3.objs.size { s2 with heap:=h3 } H3 fp pins) ([]++zdc fp s7.heap) σ8 H9 s9->N σ8 H9->∃m,m<n/\∃i σ' H',Inv (cxD X N' scope h3.objs.size { s2 with heap:=h3 } H3 fp pins) [] σ' H' s9/\tn i s9.heap/\(∀b∈fp,H' b=none)/\W i m σ' H':=λ{H9 s9} I9 n9=>by
    obtain ⟨m',hm,w9⟩:=hN σ8 H9 n9
    refine ⟨m',hm,i+1,σ8,H9,I9.unpinned,T.keep _ _ _ st7 λb hb o e=>(I9.pin (b,o) (List.mem_append_right _ (List.mem_append_right _ (zdx hb e)))).1,λb hb=>?_,w9⟩
    obtain ⟨o,e,d⟩:=T.obj _ _ st7 b hb
    exact (I9.pin (b,o) (List.mem_append_right _ (List.mem_append_right _ (zdx hb e)))).2.1
   refine wpAny_mono (ht _ _ _ _ _ _ s8 σ8 H8 _ I8 q8) (λok s9 h9=>?_) λ_ _ z=>False.elim z
   obtain ⟨H9,I9,q9⟩:=h9
   cases ok with
   | false=>exact again I9 q9
   | true =>
    refine wpAny_mono (he _ _ _ _ _ _ s9 σ8 H9 _ I9 q9) (λy s10 h10=>?_) λ_ _ z=>False.elim z
    obtain ⟨vy,H10,I10,r10,ys,hys,hz,nx⟩:=h10
    refine wpAny_mono (zkr (X:=cxD X N' scope h3.objs.size { s2 with heap:=h3 } H3 fp pins) _ s10 σ8 H10 (.ref D) [vy] (.ref D) [y] (λ_ H'=>N σ8 H') I10 rfl (.cons r10 .nil) ⟨D,ys,vy,rfl,rfl,hys,hz,nx⟩) (λ_ s11 h11=>?_) λ_ _ z=>False.elim z
    obtain ⟨_,H11,I11,_,n11⟩:=h11
    exact again I11 n11
 exact codeAny_compStart_list loop (T.self _ 0 _ _ _ st4 loop)
theorem yct {X:Cx}{N':List Str}{elt iter tgt:Expr}{ifs:List Expr}{scope:Scope}{pos:Pos}{wi:TI}{src:St->St}{g:TG}{tts:TT}{t:TE}(hcalm:X.calm=true) (sc:CompSd X N' scope src)
  (hi:PI X tgt iter wi) (hg:∀C s H fp pins,PG (cxD X N' scope C s H fp pins) tgt g) (ht:∀C s H fp pins,PTs (cxD X N' scope C s H fp pins) ifs tts) (he:∀C s H fp pins,PE (cxD X N' scope C s H fp pins) elt t)
  (hs:∀x,foldedSetIterable iter X.env x=pure x:=by intro _;rfl):PE X (.ListComp elt [⟨tgt,iter,ifs,0⟩] scope pos) (zi7 X.K wi src g tts t):=by
 intro pins s σ H Q I h
 rw [eval_ListComp]
 refine zqa (use:=none) hcalm sc hi hg ht he hs I h λD H5 s6 C mC IX fp hn q=>⟨mC,hn,λh'' sb=>⟨.ref D,H5,?_,rfl,q⟩⟩
 exact IX.turned (t':=s6.toks) (λb o hb e=>sb.extBut b o hb e) fp.1 fp.2.1 fp.2.2.2.1 fp.2.2.2.2.1 fp.2.2.2.2.2
theorem ycu {X:Cx}{N':List Str}{elt iter tgt:Expr}{ifs:List Expr}{scope:Scope}{pos spos py:Pos}{wi:TI}{src:St->St}{g:TG}{tts:TT}{t:TE}{i:Nat}{y:Str}(hN:X.N.Nodup) (hi':X.N[i]? = some y) (hx:Loc X.env.scope y)
  (hsw:swapsWith (.ListComp elt [⟨tgt,iter,ifs,0⟩] scope pos) (some (.Name y py)) spos.line X.env=pure true) (hf:X.fn y=true\/X.env.scope.names.lookup y=some .local)
  (hcalm:X.calm=true) (sc:CompSd X N' scope src)
  (hi:PI X tgt iter wi) (hg:∀C s H fp pins,PG (cxD X N' scope C s H fp pins) tgt g) (ht:∀C s H fp pins,PTs (cxD X N' scope C s H fp pins) ifs tts) (he:∀C s H fp pins,PE (cxD X N' scope C s H fp pins) elt t)
  (hs:∀x,foldedSetIterable iter X.env x=pure x:=by intro _;rfl):PS X (.Assign [.Name y py] (.ListComp elt [⟨tgt,iter,ifs,0⟩] scope pos) spos) (zis (zi7 X.K wi src g tts t) (zir i)):=by
 intro pins s σ H D I h
 rw [exec_Assign_Name_used _ _ _ _ hsw]
 refine qwb (wpAny_standAt (qwb ?_))
 show wpAny _ X.A (do let _ <-comprehension (.ListComp elt [⟨tgt,iter,ifs,0⟩] scope pos) scope X.env _ (newList []) false (eval iter X.env) (some (assign (.Name y py) X.env))) _ _ s
 refine qwb (wpAny_mono (zqa (use:=some (assign (.Name y py) X.env)) (R:=λ_ s'=>SP X pins D .next s') hcalm sc hi hg ht he hs I h λD' H5 s6 C mC IX fp hn q=>?_) (λ_ s' hq=>qwp (qwp hq)) λ_ _ e=>e)
 show wpAny _ X.A (assign (.Name y py) X.env (.ref D')) _ _ s6
 refine wpAny_assign_Name (zkf (v:=.ref D') IX hN hi' hx rfl (λs' I' ha=>?_) hf)
 obtain ⟨a,sb,ha⟩:=ha
 have hCa:C≠a:=by
  rcases ha with ha|ha
  ·rw [ha];exact fp.2.1
  ·exact λz=>fp.2.2.2.2.1 y a ha z.symm
 refine ⟨mC,hn.sameBut sb hCa,λh'' sb''=>⟨_,H5,?_,q⟩⟩
 exact I'.turned (t':=s'.toks) (λb o hb e=>sb''.extBut b o hb e) fp.1 fp.2.1 fp.2.2.2.1 fp.2.2.2.2.1 fp.2.2.2.2.2
theorem zec {X:Cx}{N':List Str}{elt iter tgt:Expr}{ifs:List Expr}{scope:Scope}{pos:Pos}{im:IM}{ixs:List (Option Nat)}{g:GM}{t:TM}{e:EM}(hcalm:X.calm=true) (sc:CompSd X N' scope (za5 ixs))
  (hi:PI3 X tgt iter im) (hg:∀C s H fp pins,PG3 (cxD X N' scope C s H fp pins) tgt g) (ht:∀C s H fp pins,PTs (cxD X N' scope C s H fp pins) ifs (tt X.K t)) (he:∀C s H fp pins,PE3 (cxD X N' scope C s H fp pins) elt e)
  (hs:∀x,foldedSetIterable iter X.env x=pure x:=by intro _;rfl):PE3 X (.ListComp elt [⟨tgt,iter,ifs,0⟩] scope pos) (zbd im ixs g t e) :=
 PE.imp (yct (g:=tg X.K g) (tts:=tt X.K t) (t:=te X.K e) hcalm sc hi hg ht he hs) zo5
theorem zqb (j:Nat) {X:Cx}{N':List Str}{elt iter tgt:Expr}{ifs:List Expr}{scope:Scope}{pos spos py:Pos}{y:Str}{im:IM}{ixs:List (Option Nat)}{g:GM}{t:TM}{e:EM}(hN:X.N.Nodup) (hcalm:X.calm=true) (sc:CompSd X N' scope (za5 ixs))
  (hi:PI3 X tgt iter im) (hg:∀C s H fp pins,PG3 (cxD X N' scope C s H fp pins) tgt g) (ht:∀C s H fp pins,PTs (cxD X N' scope C s H fp pins) ifs (tt X.K t)) (he:∀C s H fp pins,PE3 (cxD X N' scope C s H fp pins) elt e)
  (hi':X.N[j]? = some y:=by rfl) (hx:Loc X.env.scope y:=by first|exact Or.inl rfl|exact Or.inr rfl)
  (hsw:swapsWith (.ListComp elt [⟨tgt,iter,ifs,0⟩] scope pos) (some (.Name y py)) spos.line X.env=pure true:=by with_unfolding_all rfl) (hf:X.fn y=true\/X.env.scope.names.lookup y=some .local:=by first|exact .inl rfl|exact .inr rfl|assumption)
  (hs:∀x,foldedSetIterable iter X.env x=pure x:=by intro _;rfl):PS3 X (.Assign [.Name y py] (.ListComp elt [⟨tgt,iter,ifs,0⟩] scope pos) spos) (zak (zbd im ixs g t e) (zag j)) :=
 PS.imp (ycu (g:=tg X.K g) (tts:=tt X.K t) (t:=te X.K e) hN hi' hx hsw hf hcalm sc hi hg ht he hs) λE σ H hx1_=>by
  obtain ⟨ρ,l,S,f,l',S',sim,ro,hm,p⟩:=hx1_
  obtain ⟨⟨x,S1⟩,q1,hm⟩:=bnd hm
  cases hm
  exact zo5 σ H _ ⟨ρ,l,S,x,S1,sim,ro,q1,λρ1 H1 x' e1 s1 r1=>p ρ1 H1 _ e1 s1 ((ro.mono e1).set j r1)⟩
noncomputable def zqc (scO scope:Scope) (NO N':List Str) (ixs:List (Option Nat)):Bool :=
 decide (scope.kind=.function) && (scope.names.all λy=>y.2 != .local || scope.names.lookup y.1 == some .local) && (scope.names.all λy=>y.2 != .cell || scope.names.lookup y.1 == some .cell) &&
 (scope.names.all λy=>y.2 != .free || (scO.names.lookup y.1 == some .cell || scO.names.lookup y.1 == some .free)) && (ixs.length == N'.length) &&
 ((List.range ixs.length).all λi=>match ixs[i]? with|some (some j)=>(NO[j]? == N'[i]? && (match N'[i]? with|some x=>scope.names.lookup x == some .free|none=>false))|_=>true)
theorem zed (hX:X.env.scope=scO) (hN:X.N=NO) (h:zqc scO scope NO N' ixs=true):CompSd X N' scope (za5 ixs):=by
 unfold zqc at h
 simp only [Bool.and_eq_true,decide_eq_true_eq,List.all_eq_true,beq_iff_eq,Bool.or_eq_true,bne_iff_ne,ne_eq] at h
 obtain ⟨⟨⟨⟨⟨h1,h3⟩,h2⟩,h4⟩,h5⟩,h6⟩:=h
 refine ⟨h1,λy hy hl=>?_,λy hy hl=>?_,λy hy=>?_,λy hy hc=>?_,λσ=>by simp [za5,h5],λσ i v x hv hx=>?_⟩
 ·rcases h3 y hy with z|z
  ·exact absurd hl z
  ·exact z
 ·show X.env.scope.names.lookup y.1=_\/X.env.scope.names.lookup y.1=_
  rw [hX]
  rcases h4 y hy with z|z
  ·exact absurd hl z
  ·exact z
 ·have mem:∃k,(k=NameKind.cell\/k=NameKind.free)/\(y,k)∈(relabel scope X.env).names:=by
   rcases hy with z|z
   ·exact ⟨_,.inl rfl,PySem.mem_of_lookup z⟩
   ·exact ⟨_,.inr rfl,PySem.mem_of_lookup z⟩
  obtain ⟨k,hk,hm⟩:=mem
  unfold relabel at hm
  obtain ⟨⟨n,k'⟩,hm1,hm2⟩:=List.mem_map.mp hm
  dsimp only at hm2
  split at hm2
  ·rename_i hc
   have:k' = .free:=by
    rw [Bool.and_eq_true,Bool.and_eq_true] at hc
    exact eq_of_beq hc.1.1
   cases hm2
   rw [<-this];exact .inl hm1
  ·cases hm2
   rcases hk with z|z
   ·rw [<-z];exact .inr hm1
   ·rw [<-z];exact .inl hm1
 ·rcases h2 (y,.cell) hc with z|z
  ·exact z rfl
  ·rw [hy] at z;cases z
 ·have hl:i<ixs.length:=by
   have:=(qme hv).1
   simpa [za5] using this
  unfold za5 at hv
  rw [qgm] at hv
  have q:=h6 i (List.mem_range.mpr hl)
  cases e:ixs[i]? with
  | none=>rw [e] at hv;cases hv
  | some o =>
   rw [e] at hv
   cases o with
   | none=>cases hv
   | some j =>
    rw [e] at q
    dsimp only at q
    rw [hx] at q
    simp only [Bool.and_eq_true,beq_iff_eq] at q
    have hv:((σ[j]?).join:Option V)=some v:=qoi hv
    refine ⟨j,by rw [hN];exact q.1,?_,q.2⟩
    cases e2:σ[j]? with
    | none=>rw [e2] at hv;cases hv
    | some o2=>rw [e2] at hv;have hv:o2=some v:=hv;rw [hv]
theorem zqd (hX:X.env.scope=scO) (h:chk (zln scope1 scO) scope2 N1 N' ixs=true):CompSc (cxD X N1 scope1 C s H fp pins) N' scope2 (za5 ixs) :=
 zjb (scO:=zln scope1 scO) (NO:=N1) (by rw [<-hX];exact yb0 scope1 X.env) rfl h
def zly (K:QFg) (wi:TI) (src:St->St) (g:TG) (tts:TT) (tk tv:TE):TE:=λσ H Q=>wi σ H λJ H1=>∀D,H1 D=none->K.lookup D=none->∃W:Nat->Nat->St->Hp->Prop,
 (∃m,W 0 m (src σ) (upd H1 D (.dT [])))/\∀i m σ' H',W i m σ' H' ->
  (J.stop i H'/\Q (.ref D) H')\/(J.go i H'/\∃N:St->Hp->Prop,(∀σ' H',N σ' H'->∃m',m' < m/\W (i+1) m' σ' H') /\
   ∀x H'',J.yld i H' x H''->g x σ' H'' λσ2 H2=>tts σ2 H2 λb H3=>if b=true then tk σ2 H3 (λkx H4=>tv σ2 H4 λvx H5=>∃kvs k b,H5 D=some (.dT kvs)/\kx=.ref b/\H5 b=some (.tup (k.map kV))/\kvs.length<sizeLine/\N σ2 (upd H5 D (.dT (zbs kvs k vx)))) else N σ2 H3)
theorem ycv {X:Cx}{rk:Nat}{N':List Str}{elt vx iter tgt:Expr}{ifs:List Expr}{scope:Scope}{pos pos':Pos}{use:Option (Value->Sem Unit)}{R:Value->Shared->Prop}{pins:List (Addr × Obj)}{s:Shared}{σ:St}{H:Hp}{Q:VK}{wi:TI}{src:St->St}{g:TG}{tts:TT}{t tv:TE}(hr:Room rk X.A) (hcalm:X.calm=true) (sc:CompSc X N' scope src)
  (hi:PI X tgt iter wi) (hg:∀C s H fp pins,PG (cxC X N' scope C s H fp pins) tgt g) (ht:∀C s H fp pins,PTs (cxC X N' scope C s H fp pins) ifs tts) (he:∀C s H fp pins,PE (cxC X N' scope C s H fp pins) elt t) (hv:∀C s H fp pins,PE (cxC X N' scope C s H fp pins) vx tv)
  (hs:∀x,foldedSetIterable iter X.env x=pure x) (I:Inv X pins σ H s) (h:zly X.K wi src g tts t tv σ H Q)
  (fin:∀D H5 s6 C mC,Inv X pins σ H5 s6->zcn X pins H5 C->s6.heap.Ns C mC->Q (.ref D) H5->compPost (model X.prog X.w) X.A X.xe use R (.ref D) C (.ok .next) s6) :
  wpAny (model X.prog X.w) X.A (comprehension (.DictComp elt vx [⟨tgt,iter,ifs,0⟩] scope pos) scope X.env pos' newDict false (eval iter X.env) use) R X.xe s:=by
 have hasC:∀x∈scope.names,x.2=.free->∃c,X.env.cells.lookup x.1=some c:=λx hx hf=>I.ok.has x.1 (sc.free x hx hf)
 refine wpAny_comprehension_free (use:=use) (env:=X.env) rfl hs (zk5 scope X.env hasC) sc.kind sc.names ?_
 show wpAny (model X.prog X.w) X.A (eval iter X.env) _ _ s
 refine wpAny_mono (hi pins s σ H _ I h) (λv s1 h1=>wpAny_mono h1 (λitv s2 h2=>?_) λ_ _ z=>z) λ_ _ z=>z
 obtain ⟨it,fp,tn,J,H2,rfl,I2,T,st2,f2,q⟩:=h2
 refine wpAny_newObj_type ?_
 have hD:H2 s2.heap.objs.size=none:=I2.hok.fresh (qlr _)
 have I3:Inv X pins σ (upd H2 s2.heap.objs.size (.dT [])) { s2 with heap:=s2.heap.push { cls:=.type "dict",data:=.dict #[] } }:=I2.laid (t':=s2.toks) (λb u e=>qps _ e) (qlr _) (zoe s2.heap I2.big)
 obtain ⟨W,⟨m0,w0⟩,turn⟩:=q s2.heap.objs.size hD (by
  cases e:X.K.lookup s2.heap.objs.size with
  | none=>rfl
  | some o=>exact absurd (Heap.lt_size (I2.kIn _ o e)) (Nat.lt_irrefl _))
 refine wpAny_newFunctionEnv sc.nocell (by intro y hy;simp at hy) (λh' hns hsb=>?_) sc.kind
 have fpIn:∀b∈fp,∃o,s2.heap.get? b=some o/\∀v,o.data≠.cell v:=T.obj 0 s2.heap st2
 have fpD:∀b∈fp,b≠s2.heap.objs.size:=λb hb=>let ⟨o,e,_⟩:=fpIn b hb;Nat.ne_of_lt (Heap.lt_size e)
 have f3:∀b∈fp,zcn X pins (upd H2 s2.heap.objs.size (.dT [])) b:=λb hb=>⟨by rw [zaj (fpD b hb)];exact (f2 b hb).1,(f2 b hb).2⟩
 have st3:tn 0 (s2.heap.push { cls:=.type "dict",data:=.dict #[] }):=T.keep _ _ _ st2 λb hb o e=>qps _ e
 clear q hD h st2 f2 fpD
 generalize upd H2 s2.heap.objs.size (.dT [])=H3 at *
 generalize hDe:s2.heap.objs.size=D at *
 have fpIn3:∀b∈fp,∃o,(s2.heap.push { cls:=.type "dict",data:=.dict #[] }).get? b=some o/\∀v,o.data≠.cell v:=T.obj 0 _ st3
 clear fpIn
 generalize s2.heap.push { cls:=.type "dict",data:=.dict #[] }=h3 at *
 have old:∀b o,h3.get? b=some o->h'.get? b=some o:=λb o e=>hsb.extBut b o (Nat.ne_of_lt (Heap.lt_size e)) (qps _ e)
 have stkNo:∀b,b≠X.env.locals->b ∉ X.fs->b ∉ frs X.stack:=λb h1 h2 hb=>by
  rcases List.mem_cons.mp (I3.stkSub b hb) with z|z
  ·exact h1 z
  ·exact h2 z
 have sub:=zgd X.env scope.names [] (λx c z=>by simp at z)
 have cNe:∀b o,h3.get? b=some o->b≠h3.objs.size:=λb o e=>Nat.ne_of_lt (Heap.lt_size e)
 have I4:Inv (cxC X N' scope h3.objs.size { s2 with heap:=h3 } H3 fp pins) [] (src σ) H3 { s2 with heap:=h',toks:=s2.toks+([]:List (Str × Value)).length }:=by
  refine ⟨⟨I3.ok.mod,sc.kind,I3.ok.glob,I3.ok.blt,qlr _,λx y c h1 h2=>I3.ok.inj x y c (sub x c h1) (sub y c h2),λx hx=>?_,λx c z=>absurd (show false=true from z) Bool.false_ne_true,I3.ok.hd,I3.ok.frames,.inl rfl,λb hb=>⟨?_,λx c z=>(f3 b hb).2.2.2.2.1 x c (sub x c z)⟩,λb o e=>I3.bs b o e,Nat.le_trans I3.ok.bsz I3.sz,λb o e hb=>?_,λb hb=>stkNo b (f3 b hb).2.1 (f3 b hb).2.2.1,I3.stack,I3.stkFree⟩,
   rfl,I3.bare,Un.kept old,⟨_,hns,λi x v h1 h2 h3'=>?_⟩,λx c z=>?_,I3.hok.fresh (qlr _),λx c z=>I3.freeC x c (sub x c z),λp hp=>?_,I3.hok.kept old,sc.len σ⟩
  ·have hm:=sc.rel x hx
   exact zek X.env scope.names [] x (.inl hm) (hasC _ hm rfl)
  ·obtain ⟨o,e,_⟩:=fpIn3 b hb
   exact cNe b o e
  ·rcases (f3 b hb).2.2.2.1 with z|z
   ·exact I3.ok.noex b o e z
   ·have:=Heap.lt_size (I3.ok.bs b o e).1
    exact absurd (Nat.lt_of_lt_of_le this z) (Nat.lt_irrefl _)
  ·obtain ⟨j,e1,e2,e3⟩:=sc.src σ i v x h2 h1
   obtain ⟨m,hn,hl⟩:=I3.loc
   have hmem:=PySem.mem_of_lookup e3
   have hk:=sc.free (x,.free) hmem rfl
   have vis:Vis X.env.scope x:=by
    rcases hk with k|k
    ·exact .inr (.inl k)
    ·exact .inr (.inr k)
   obtain ⟨u,r,lk⟩:=hl j x v e1 e2 vis
   refine ⟨u,r,.inr ⟨?_,?_⟩⟩
   ·exact zi8 (scope:=scope) e3
   ·rcases lk with ⟨k,_⟩|⟨_,c,hc,hcell⟩
    ·rcases hk with k' | k' <;> (rw [k] at k';cases k')
    ·obtain ⟨c',hc'⟩:=zek X.env scope.names [] x (.inl hmem) ⟨c,hc⟩
     have:=sub x c' hc'
     rw [hc] at this;cases this
     obtain ⟨o,ho,hd⟩:=hcell
     exact ⟨c,hc',o,old _ _ ho,hd⟩
  ·obtain ⟨v,o,ho,hd⟩:=I3.cell x c (sub x c z)
   exact ⟨v,o,old _ _ ho,hd⟩
  ·have hp':p∈X.pn++pins:=by simpa [cxC] using hp
   obtain ⟨e,n,ne,nf,d⟩:=I3.pin p hp'
   exact ⟨old _ _ e,n,cNe _ _ e,stkNo _ ne nf,d⟩
 have st4:tn 0 h':=T.keep _ _ _ st3 λb hb o e=>old b o e
 have fr4:∀b∈fp,H3 b=none:=λb hb=>(f3 b hb).1
 have stat:∀{H':Hp},(∀b∈fp,H' b=none)->∀b∈fp,zcn (cxC X N' scope h3.objs.size { s2 with heap:=h3 } H3 fp pins) [] H' b:=λhn b hb=>by
  obtain ⟨g0,g1,g2,g3,g4,g5⟩:=f3 b hb
  obtain ⟨o,e,_⟩:=fpIn3 b hb
  exact ⟨hn b hb,cNe b o e,stkNo b g1 g2,.inl hb,λx c z=>g4 x c (sub x c z),λp hp=>g5 p (by simpa [cxC] using hp)⟩
 have loop:codeAny (model X.prog X.w) X.A (.compLoop (.DictComp elt vx [⟨tgt,iter,ifs,0⟩] scope pos) 0 (.ref it) (.ref D) (compEnvC scope (zbt X.env scope.names []) h3.objs.size X.env))
   (compPost (model X.prog X.w) X.A X.xe use R (.ref D) h3.objs.size) { s2 with heap:=h',toks:=s2.toks+([]:List (Str × Value)).length }:=by
  refine ybr (λn s'=>∃i σ' H',Inv (cxC X N' scope h3.objs.size { s2 with heap:=h3 } H3 fp pins) [] σ' H' s'/\tn i s'.heap/\(∀b∈fp,H' b=none)/\W i n σ' H') ?_ m0 ⟨0,src σ,H3,I4,st4,fr4,w0⟩
  rintro n s5 ⟨i,σ5,H5,I5,st5,fr5,w5⟩
  rcases turn i n σ5 H5 w5 with ⟨stop,qn⟩|⟨go,N,hN,step⟩
  ·refine wpAny_mono (T.done (cxC X N' scope h3.objs.size { s2 with heap:=h3 } H3 fp pins) rfl rfl rfl hcalm i [] s5 σ5 H5 (λ_ _=>False) I5 (stat fr5) st5 stop) (λr s6 hr=>?_) λ_ _ z=>z
   obtain ⟨hr,I6⟩:=hr
   subst hr
   obtain ⟨mC,hnC,_⟩:=I6.loc
   have IX:Inv X pins σ H5 s6:=I3.call' (s':=s6) (ch:=fp) I6.os I6.base I6.hok I6.bare λb hb=>⟨(f3 b hb).2.2.2.1,(f3 b hb).2.1,(f3 b hb).2.2.2.2.1,(f3 b hb).2.2.2.2.2⟩
   exact fin D H5 s6 h3.objs.size mC IX (I3.fpOk (qlr _) I6.free) hnC qn
  ·refine wpAny_mono (T.item (cxC X N' scope h3.objs.size { s2 with heap:=h3 } H3 fp pins) rfl rfl rfl hcalm i [] s5 σ5 H5 (λ_ _=>False) I5 (stat fr5) st5 go) (λr s6 hr=>?_) λ_ _ z=>z
   obtain ⟨u,hr,h6⟩:=hr
   subst hr
   refine wpAny_mono h6 (λ_ s7 h7=>?_) λ_ _ z=>z
   obtain ⟨x,H7,I7,r7,y7,st7,fr7⟩:=h7
   have I7':=I7.pinned (stat fr7) (T.obj _ _ st7)
   refine wpAny_mono (hg _ _ _ _ _ _ s7 σ5 H7 x u _ I7' r7 (step x H7 y7)) (λ_ s8 h8=>?_) λ_ _ z=>z
   obtain ⟨σ8,H8,I8,q8⟩:=h8
   have again:∀{H9:Hp} {s9:Shared},Inv (cxC X N' scope h3.objs.size { s2 with heap:=h3 } H3 fp pins) ([]++zdc fp s7.heap) σ8 H9 s9->N σ8 H9->∃m,m<n/\∃i σ' H',Inv (cxC X N' scope h3.objs.size { s2 with heap:=h3 } H3 fp pins) [] σ' H' s9/\tn i s9.heap/\(∀b∈fp,H' b=none)/\W i m σ' H':=λ{H9 s9} I9 n9=>by
    obtain ⟨m',hm,w9⟩:=hN σ8 H9 n9
    refine ⟨m',hm,i+1,σ8,H9,I9.unpinned,T.keep _ _ _ st7 λb hb o e=>(I9.pin (b,o) (List.mem_append_right _ (List.mem_append_right _ (zdx hb e)))).1,λb hb=>?_,w9⟩
    obtain ⟨o,e,d⟩:=T.obj _ _ st7 b hb
    exact (I9.pin (b,o) (List.mem_append_right _ (List.mem_append_right _ (zdx hb e)))).2.1
   refine wpAny_mono (ht _ _ _ _ _ _ s8 σ8 H8 _ I8 q8) (λok s9 h9=>?_) λ_ _ z=>z
   obtain ⟨H9,I9,q9⟩:=h9
   cases ok with
   | false=>exact again I9 q9
   | true =>
    refine wpAny_mono (he _ _ _ _ _ _ s9 σ8 H9 _ I9 q9) (λy s10 h10=>?_) λ_ _ z=>z
    obtain ⟨vy,H10,I10,r10,q10⟩:=h10
    refine wpAny_mono (hv _ _ _ _ _ _ s10 σ8 H10 _ I10 q10) (λz s11 h11=>?_) λ_ _ z=>z
    obtain ⟨vz,H11,I11,r11,kvs,kk,kb,hys,ek,hkb,hz,nx⟩:=h11
    subst ek
    cases r10
    obtain ⟨z1,hsm,xs,rel,dd⟩:=zkt I11.hok hys
    have hzv:xs.length<=sizeLine:=by rw [<-Paired.length rel];exact z1
    have hl:(zbs kvs kk vz).length<=sizeLine:=by have:=ziy kvs kk vz;omega
    have hroom:(tupleKind (zbr X.prog X.w)).room X.A:=Nat.lt_of_succ_lt (zgm hr)
    refine wpAny_dictSet_heap (hsz:=hzv) hroom (zfe I11.hok hkb) dd λh' dd' hs'=>?_
    obtain ⟨q,es,ep,hq,g2,g3,g4,_,g5⟩:=dd'
    refine again (zi0 (ob:=.dT (zbs kvs kk vz)) (t':=s11.toks+(tupleKind (zbr X.prog X.w)).draws kk) I11 (by rw [hys];exact True.intro) hs' ⟨q,hq⟩ ⟨hl,hsm,_,(rel.put kk hkb r11).keeps λc ys ec=>?_,q,es,ep,hq,g2,g3,g4,g5⟩) nx
    rw [zaj (zcm ec hys (λz=>nomatch z))]
    exact ec
 exact codeAny_compStart_dict loop (T.self _ 0 _ _ _ st4 loop)
theorem ycw {X:Cx}{rk:Nat}{N':List Str}{elt vx iter tgt:Expr}{ifs:List Expr}{scope:Scope}{pos spos py:Pos}{wi:TI}{src:St->St}{g:TG}{tts:TT}{t tv:TE}{i:Nat}{y:Str}(hN:X.N.Nodup) (hi':X.N[i]? = some y) (hx:Loc X.env.scope y)
  (hsw:swapsWith (.DictComp elt vx [⟨tgt,iter,ifs,0⟩] scope pos) (some (.Name y py)) spos.line X.env=pure true) (hf:X.fn y=true\/X.env.scope.names.lookup y=some .local)
  (hr:Room rk X.A) (hcalm:X.calm=true) (sc:CompSc X N' scope src)
  (hi:PI X tgt iter wi) (hg:∀C s H fp pins,PG (cxC X N' scope C s H fp pins) tgt g) (ht:∀C s H fp pins,PTs (cxC X N' scope C s H fp pins) ifs tts) (he:∀C s H fp pins,PE (cxC X N' scope C s H fp pins) elt t) (hv:∀C s H fp pins,PE (cxC X N' scope C s H fp pins) vx tv)
  (hs:∀x,foldedSetIterable iter X.env x=pure x:=by intro _;rfl):PS X (.Assign [.Name y py] (.DictComp elt vx [⟨tgt,iter,ifs,0⟩] scope pos) spos) (zis (zly X.K wi src g tts t tv) (zir i)):=by
 intro pins s σ H D I h
 rw [exec_Assign_Name_used _ _ _ _ hsw]
 refine qwb (wpAny_standAt (qwb ?_))
 show wpAny _ X.A (do let _ <-comprehension (.DictComp elt vx [⟨tgt,iter,ifs,0⟩] scope pos) scope X.env _ newDict false (eval iter X.env) (some (assign (.Name y py) X.env))) _ _ s
 refine qwb (wpAny_mono (ycv (use:=some (assign (.Name y py) X.env)) (R:=λ_ s'=>SP X pins D .next s') hr hcalm sc hi hg ht he hv hs I h λD' H5 s6 C mC IX fp hn q=>?_) (λ_ s' hq=>qwp (qwp hq)) λ_ _ e=>e)
 show wpAny _ X.A (assign (.Name y py) X.env (.ref D')) _ _ s6
 refine wpAny_assign_Name (zkf (v:=.ref D') IX hN hi' hx rfl (λs' I' ha=>?_) hf)
 obtain ⟨a,sb,ha⟩:=ha
 have hCa:C≠a:=by
  rcases ha with ha|ha
  ·rw [ha];exact fp.2.1
  ·exact λz=>fp.2.2.2.2.1 y a ha z.symm
 refine ⟨mC,hn.sameBut sb hCa,λh'' sb''=>⟨_,H5,?_,q⟩⟩
 exact I'.turned (t':=s'.toks) (λb o hb e=>sb''.extBut b o hb e) fp.1 fp.2.1 fp.2.2.2.1 fp.2.2.2.2.1 fp.2.2.2.2.2
noncomputable def zgt:List D->List (List Key × D)->Option (List (List Key × D))
 | [],acc=>some acc
 | .tup [k,v] :: r,acc=>(zc9 k).bind λkk=>zgt r (zce acc kk v)
 | _,_=>none
noncomputable def zh1 (im:IM) (ixs:List (Option Nat)) (g:GM) (t:TM) (k v:EM):EM:=λl S=>(im l S).bind λp=>(zci p.1 g t (zfq k v) p.2.1 0 (za5 ixs l) p.2.2).bind λz =>
 if z.1.length<=sizeLine then (zgt z.1 []).bind λkvs=>some (.ref z.2.length,z.2++[.tdct kvs]) else none
theorem zqe (kvs:List (List Key × D)) (k:List Key) (v:D):(zce kvs k v).length<=kvs.length+1:=by
 unfold zce
 split
 ·rw [qlm];omega
 ·simp
inductive CIT (K:QFg) (it:ItM) (g:GM) (t:TM) (ek ev:EM) (S2:Sto) (fin:List (List Key × D)) (ρ1:List Addr) (H1:Hp) (Da:Addr) (i m:Nat) (σ':St) (H':Hp):Prop
 | mk (ρ':List Addr) (l':Lo) (S':Sto) (acc:List (List Key × D)) (vs:List V) (rest:List D) (_:Ext ρ1 H1 ρ' H') (_:Sim K ρ' S' H') (_:RO ρ' H' l' σ') (_:H' Da=some (.dT ((acc.map (·.1)).zip vs))) (_:(∀n:Nat,ρ'[n]?≠some Da)) (_:RDs ρ' H' (acc.map (·.2)) vs) (_:zci it g t (zfq ek ev) m i l' S' = some (rest,S2)) (_:zgt rest acc=some fin) (_:acc.length+rest.length<=sizeLine)
theorem ycx {K:QFg}{im:IM}{ixs:List (Option Nat)}{g:GM}{t:TM}{ek ev:EM}(σ:St) (H:Hp) (Q:VK) (q:te K (zh1 im ixs g t ek ev) σ H Q):zly K (tiL K im) (za5 ixs) (tg K g) (tt K t) (te K ek) (te K ev) σ H Q:=by
 obtain ⟨ρ,l,S,v,S',sim,ro,hm,p⟩:=q
 obtain ⟨⟨it,k,S1⟩,q1,hm⟩:=bnd hm
 obtain ⟨⟨all,S2⟩,q2,hm⟩:=bnd hm
 obtain ⟨hz,hm⟩:=zjh hm
 obtain ⟨fin,hf,he⟩:=bnd hm
 cases he
 refine ⟨ρ,l,S,it,k,S1,sim,ro,q1,λρ1 H1 J e1 s1 io D hD hK=>?_⟩
 dsimp only at q2 hz p hf
 refine ⟨λi m σ' H'=>CIT K it g t ek ev S2 fin ρ1 H1 D i m σ' H',⟨k,?_⟩,?_⟩
 ·exact ⟨ρ1,za5 ixs l,S1,[],[],all,zbx hD,s1.laid hD,(zi9 ixs (ro.mono e1)).mono (zbx hD),zbo,s1.notin hD hK,.nil,q2,hf,by simpa using hz⟩
 ·rintro i m σ' H' ⟨ρ',l',S',acc,vs,rest,e2,s2,ro2,hD2,hn2,rd2,hc,hfold,hlen⟩
  cases m with
  | zero=>cases hc
  | succ m =>
   unfold zci at hc
   obtain ⟨o,ho,hc⟩:=bnd hc
   obtain ⟨iStop,iGo⟩:=io i ρ' S' H' e2 s2
   cases o with
   | none =>
    cases hc
    cases hfold
    refine .inl ⟨iStop ho,p (ρ'++[D]) H' (.ref D) (e1.trans (e2.adopt hD)) (s2.adoptG ⟨vs,hD2,rd2⟩ hn2) (.ref ?_)⟩
    rw [<-s2.len];exact zd2 ρ' D
   | some x =>
    obtain ⟨⟨l3,S3⟩,q3,hc⟩:=bnd hc
    obtain ⟨⟨b,S4⟩,q4,hc⟩:=bnd hc
    obtain ⟨hgo,hy⟩:=iGo x ho
    refine .inr ⟨hgo,_,λσ' H' h=>h,λy H'' hyl=>?_⟩
    obtain ⟨ex,sx,ry⟩:=hy y H'' hyl
    refine ⟨ρ',l',S',x,l3,S3,sx,ro2.mono ex,ry,q3,λρ3 H3 σ3 e3' s3 ro3=>⟨ρ3,l3,S3,b,S4,s3,ro3,q4,λρ4 H4 e4 s4=>?_⟩⟩
    have e3:=ex.trans e3'
    obtain ⟨hD3,hn3⟩:=e3.out D _ hD2 hn2
    obtain ⟨hD4,hn4⟩:=e4.out D _ hD3 hn3
    cases b with
    | false=>exact zc1 ⟨m,Nat.lt_succ_self m,ρ4,l3,S4,acc,vs,rest,e2.trans (e3.trans e4),s4,ro3.mono e4,hD4,hn4,rd2.mono (e3.trans e4),hc,hfold,hlen⟩
    | true =>
     have hc:((zfq ek ev l3 S4).bind λr=>(zci it g t (zfq ek ev) m (i+1) l3 r.2).bind λz=>some (r.1 :: z.1,z.2))=some (rest,S2):=hc
     obtain ⟨⟨y5,S5⟩,q5,hc⟩:=bnd hc
     obtain ⟨⟨rest',S6⟩,q6,hc⟩:=bnd hc
     cases hc
     obtain ⟨⟨yk,S7⟩,q7,q5⟩:=bnd q5
     obtain ⟨⟨yv,S8⟩,q8,q5⟩:=bnd q5
     cases q5
     obtain ⟨kk,hkk,hfold⟩:=bnd (show (zc9 yk).bind (λkk=>zgt rest' (zce acc kk yv))=some fin from hfold)
     refine zc2 ⟨ρ4,l3,S4,yk,S7,s4,ro3.mono e4,q7,λρ5 H5 v5 e5 s5 r5=>⟨ρ5,l3,S7,yv,S8,s5,(ro3.mono e4).mono e5,q8,λρ6 H6 v6 e6 s6 r6=>?_⟩⟩
     obtain ⟨hD5,hn5⟩:=e5.out D _ hD4 hn4
     obtain ⟨hD6,hn6⟩:=e6.out D _ hD5 hn5
     have e26:=e2.trans (e3.trans (e4.trans (e5.trans e6)))
     have rd6:=rd2.mono (e3.trans (e4.trans (e5.trans e6)))
     obtain ⟨kb,ek,hkb⟩:=zh0 hkk r5
     have hkb6:=e6.tup _ _ hkb
     obtain ⟨ws,hw1,hw2⟩:=zlq (k:=kk) r6 rd6
     have hl:acc.length+rest'.length+1<=sizeLine:=by simpa [Nat.add_assoc] using hlen
     have hpl:=zqe acc kk yv
     refine ⟨_,kk,kb,hD6,ek,hkb6,by rw [zls rd6];omega,m,Nat.lt_succ_self m,ρ6,l3,S8,zce acc kk yv,ws,rest',e26.besideG hD hD6 (ze4 _),s6.besideG hD6 (ze4 _) hn6,?_,by rw [zbo,hw1],hn6,hw2.mono0 (zcs hD6 (ze4 _)),q6,hfold,by omega⟩
     have r0:=((ro3.mono e4).mono e5).mono e6
     exact ⟨r0.len,λi d h=>let ⟨w,h1,h2⟩:=r0.get i d h;⟨w,h1,h2.mono0 (zcs hD6 (ze4 _))⟩⟩
theorem ycy {X:Cx}{tgt iter:Expr}{im:IM}(h:PI3 X tgt iter im):zpt X tgt iter im:=PI.imp h λσ H R ⟨ρ,l,S,it,k,S',sim,ro,hm,p⟩=>⟨ρ,l,S,it,k,S',sim,ro,hm,λρ1 H1 J e1 s1 ok=>p ρ1 H1 J e1 s1 λi ρ2 S2 H2 e2 s2=>⟨(ok i ρ2 S2 H2 e2 s2).1,λx hx=>⟨((ok i ρ2 S2 H2 e2 s2).2 x hx).1,λy H3 hy=>by
 obtain ⟨e,r⟩:=((ok i ρ2 S2 H2 e2 s2).2 x hx).2 y H3 hy
 subst e
 exact ⟨Ext.refl ..,s2,r⟩⟩⟩⟩
theorem ycz (j:Nat) {X:Cx}{rk:Nat}{N':List Str}{elt vx iter tgt:Expr}{ifs:List Expr}{scope:Scope}{pos spos py:Pos}{y:Str}{im:IM}{ixs:List (Option Nat)}{g:GM}{t:TM}{e ev:EM}(hN:X.N.Nodup) (hr:Room rk X.A) (hcalm:X.calm=true) (sc:CompSc X N' scope (za5 ixs))
  (hi:zpt X tgt iter im) (hg:∀C s H fp pins,PG3 (cxC X N' scope C s H fp pins) tgt g) (ht:∀C s H fp pins,PTs (cxC X N' scope C s H fp pins) ifs (tt X.K t)) (he:∀C s H fp pins,PE3 (cxC X N' scope C s H fp pins) elt e) (hv:∀C s H fp pins,PE3 (cxC X N' scope C s H fp pins) vx ev)
  (hi':X.N[j]? = some y:=by rfl) (hx:Loc X.env.scope y:=by first|exact Or.inl rfl|exact Or.inr rfl)
  (hsw:swapsWith (.DictComp elt vx [⟨tgt,iter,ifs,0⟩] scope pos) (some (.Name y py)) spos.line X.env=pure true:=by with_unfolding_all rfl) (hf:X.fn y=true\/X.env.scope.names.lookup y=some .local:=by first|exact .inl rfl|exact .inr rfl|assumption)
  (hs:∀x,foldedSetIterable iter X.env x=pure x:=by intro _;rfl):PS3 X (.Assign [.Name y py] (.DictComp elt vx [⟨tgt,iter,ifs,0⟩] scope pos) spos) (zak (zh1 im ixs g t e ev) (zag j)) :=
 PS.imp (ycw (g:=tg X.K g) (tts:=tt X.K t) (t:=te X.K e) (tv:=te X.K ev) hN hi' hx hsw hf hr hcalm sc hi hg ht he hv hs) λE σ H hx1_=>by
  obtain ⟨ρ,l,S,f,l',S',sim,ro,hm,p⟩:=hx1_
  obtain ⟨⟨x,S1⟩,q1,hm⟩:=bnd hm
  cases hm
  exact ycx σ H _ ⟨ρ,l,S,x,S1,sim,ro,q1,λρ1 H1 x' e1 s1 r1=>p ρ1 H1 _ e1 s1 ((ro.mono e1).set j r1)⟩
end L3
namespace SP
open PySem PySem.W PyProof.Rows PySem.Calls
section
end
end SP
namespace L3
open PySem PySem.Spec PyProof.Rows L2
noncomputable def pD (p:SP.Pr):D:=.tup [.int p.1,.int p.2]
section
end
section
end
end L3
namespace SP
open PySem PySem.W PyProof.Rows PySem.Calls
section
variable {prog:Program}{w:World}{A:Around}{E:Value->Shared->Prop}{s:Shared}{d it:Addr}{es:Array DictEntry}{ep i:Nat}
end
end SP
namespace L3
open PySem PySem.Spec PyProof.Rows L2
section
variable {X:Cx}{tg:Expr}
end
section
variable {X:Cx}{tgt iter:Expr}{m:EM}
end
section
end
section
end
theorem zqf {α:Type}{c:Prop} [Decidable c] {x:Option α}{y:α}(h:(if c then x else none)=some y):c/\x=some y:=by
 by_cases e:c
 ·rw [if_pos e] at h;exact ⟨e,h⟩
 ·rw [if_neg e] at h;cases h
noncomputable def tL (m:EM):TM:=λl S=>(m l S).bind λp=>match p.1 with
 | .ref n=>(lstOf p.2 n).bind λxs=>some (!xs.isEmpty,p.2)
 | _=>none
section
theorem zqg (h:PE3 X a m) (he:∀whole,isTrue a X.env whole=(do let v <-whole;standAt a.pos;holding [v] (truthy v)):=by intro _;rfl):PT3 X a (tL m) :=
 PT.imp (zwr h he) λσ H Q hx1_=>by
  obtain ⟨ρ,l,S,b,S',sim,ro,hm,p⟩:=hx1_
  obtain ⟨⟨x,S1⟩,h1,hm⟩:=bnd hm
  dsimp only at hm
  split at hm
  ·rename_i n
   obtain ⟨xs,h2,hm⟩:=bnd hm
   cases hm
   refine ⟨ρ,l,S,.ref n,_,sim,ro,h1,λρ1 H1 v' e1 s1 r1=>?_⟩
   obtain ⟨c,us,hc,sq,rv⟩:=s1.lstOf h2
   cases r1 with
   | ref hn =>
    rw [hc] at hn;cases hn
    have eb:(!xs.isEmpty) = !us.isEmpty:=by cases rv <;> rfl
    exact ⟨!xs.isEmpty,.inl ⟨us,sq,eb⟩,p ρ1 H1 e1 s1⟩
  ·cases hm
end
noncomputable def zh2:FM
 | [.tup [.int i,.int j]],S=>some (.int (if j<i then j else i),S)
 | _,_=>none
noncomputable def zh3:FM
 | [.tup [.int i,.int j]],S=>some (.int (if j > i then j else i),S)
 | _,_=>none
section
variable {prog:Program}{w:World}{A:Around}{E:Value->Shared->Prop}{s:Shared}{c:Addr}{i j:Int}{t u:Tok}
theorem zqh {Q:Value->Shared->Prop}(hT:s.heap.IsTuple c (intItems #[(i,t),(j,u)])) (h:Q (.ref s.heap.objs.size) { s with heap:=s.heap.push { cls:=.type "tuple_iterator",data:=.fields #[.ref c,.int 0 0] } }):wpAny (model prog w) A (pyIter (.ref c)) Q E s:=wpAny_pyIter_tuple hT h
theorem zqi {o:Obj}{h':Heap}(hk:∀b q,b ∉ [s.heap.objs.size]->(s.heap.push o).get? b=some q->h'.get? b=some q) (b:Addr) (q:Obj) (e:s.heap.get? b=some q):h'.get? b=some q :=
 hk b q (λhm=>absurd (Heap.lt_size e) (by rw [List.mem_singleton.mp hm];exact Nat.lt_irrefl _)) (qps _ e)
theorem zqj (hc:c<s.heap.objs.size):∀b∈[s.heap.objs.size,c],b<(s.heap.push o).objs.size:=λb hb=>by
 rw [Heap.size_push]
 rcases List.mem_cons.mp hb with e|hb
 ·rw [e];exact Nat.lt_succ_self _
 ·rw [List.mem_singleton.mp hb];exact Nat.lt_succ_of_lt hc
theorem yc0 {Q:Value->Shared->Prop}(hh:A.handled=none) (hT:s.heap.IsTuple c (intItems #[(i,t),(j,u)])) (h:∀h' tk,(∀b o,s.heap.get? b=some o->h'.get? b=some o)->Q (if j<i then .int j u else .int i t) { s with heap:=h',toks:=tk }) :
  wpAny (model prog w) A (call (.builtin "min") [.ref c]) Q E s:=by
 have hlt:c<s.heap.objs.size:=by obtain ⟨_,e,_⟩:=hT;exact Heap.lt_size e
 refine call_min_walk (zqh hT ⟨_,[_,c],[_],_,_,_,_,rfl,Walks.tuple (A:=A.in1) hh _ c (Nat.ne_of_lt hlt) (intItems #[(i,t),(j,u)]),⟨⟨_,Heap.get?_push_size _ rfl,rfl,rfl⟩,hT.push _⟩,zqj hlt,by simp [intItems],CmpOf.ints_lt (numAt #[(i,t),(j,u)]) (λ_ _=>intItems_at),λv h' tk hP hk=>?_⟩)
 have hz2:(intItems #[(i,t),(j,u)]).size-1=1:=by simp [intItems]
 rw [hz2] at hP
 have e:v=if j<i then Value.int j u else Value.int i t:=by
  by_cases z:j<i
  ·have e:argBest (λa b=>decide (numAt #[(i,t),(j,u)] a<numAt #[(i,t),(j,u)] b)) 1=1:=by simp [argBest,numAt,z]
   rw [e] at hP;simpa [intItems,z] using hP.symm
  ·have e:argBest (λa b=>decide (numAt #[(i,t),(j,u)] a<numAt #[(i,t),(j,u)] b)) 1=0:=by simp [argBest,numAt,z]
   rw [e] at hP;simpa [intItems,z] using hP.symm
 rw [e]
 exact h h' tk (zqi hk)
theorem yc1 {Q:Value->Shared->Prop}(hh:A.handled=none) (hT:s.heap.IsTuple c (intItems #[(i,t),(j,u)])) (h:∀h' tk,(∀b o,s.heap.get? b=some o->h'.get? b=some o)->Q (if j > i then .int j u else .int i t) { s with heap:=h',toks:=tk }) :
  wpAny (model prog w) A (call (.builtin "max") [.ref c]) Q E s:=by
 have hlt:c<s.heap.objs.size:=by obtain ⟨_,e,_⟩:=hT;exact Heap.lt_size e
 refine call_max_walk (zqh hT ⟨_,[_,c],[_],_,_,_,_,rfl,Walks.tuple (A:=A.in1) hh _ c (Nat.ne_of_lt hlt) (intItems #[(i,t),(j,u)]),⟨⟨_,Heap.get?_push_size _ rfl,rfl,rfl⟩,hT.push _⟩,zqj hlt,by simp [intItems],CmpOf.ints_gt (numAt #[(i,t),(j,u)]) (λ_ _=>intItems_at),λv h' tk hP hk=>?_⟩)
 have hz2:(intItems #[(i,t),(j,u)]).size-1=1:=by simp [intItems]
 rw [hz2] at hP
 have e:v=if j > i then Value.int j u else Value.int i t:=by
  by_cases z:j > i
  ·have e:argBest (λa b=>decide (numAt #[(i,t),(j,u)] a > numAt #[(i,t),(j,u)] b)) 1=1:=by simp [argBest,numAt,z]
   rw [e] at hP;simpa [intItems,z] using hP.symm
  ·have e:argBest (λa b=>decide (numAt #[(i,t),(j,u)] a > numAt #[(i,t),(j,u)] b)) 1=0:=by simp [argBest,numAt,z]
   rw [e] at hP;simpa [intItems,z] using hP.symm
 rw [e]
 exact h h' tk (zqi hk)
end
def zqk (K:QFg):List V->Hp->VK->Prop:=λxs H Q=>∃p i j,xs=[.ref p]/\SqT K H p [.int i,.int j]/\Q (.int (if j<i then j else i)) H
def zql (K:QFg):List V->Hp->VK->Prop:=λxs H Q=>∃p i j,xs=[.ref p]/\SqT K H p [.int i,.int j]/\Q (.int (if j > i then j else i)) H
section
theorem zqm {pins:List (Addr × Obj)}{σ:St}{i j:Int}(I:Inv X pins σ H s) (h:SqT X.K H p [.int i,.int j]):∃t u,s.heap.IsTuple p (intItems #[(i,t),(j,u)]):=by
 obtain ⟨its,rv,hp,_⟩:=I.tuple h
 cases rv with
 | cons a1 a2 =>
  cases a2 with
  | cons a3 a4 =>
   cases a4
   obtain ⟨t1,rfl⟩:=a1
   obtain ⟨t2,rfl⟩:=a3
   exact ⟨t1,t2,by obtain ⟨o,h1,h2,n,h3⟩:=hp;exact ⟨o,h1,h2,n,by simpa [intItems] using h3⟩⟩
theorem yc2 (hc:X.calm=true):CallR X (.builtin "min") (zqk X.K):=by
 intro pins s σ H xs us Q I r h
 obtain ⟨p,i,j,rfl,sq,q⟩:=h
 obtain ⟨u,rfl,ru⟩:=zcr r
 cases ru
 obtain ⟨t,u,hT⟩:=zqm I sq
 refine yc0 (I.ok.hd hc) hT λh' tk k=>⟨_,H,I.kept k,?_,q⟩
 by_cases hj:j<i
 ·rw [if_pos hj,if_pos hj];exact ⟨_,rfl⟩
 ·rw [if_neg hj,if_neg hj];exact ⟨_,rfl⟩
theorem yc3 (hc:X.calm=true):CallR X (.builtin "max") (zql X.K):=by
 intro pins s σ H xs us Q I r h
 obtain ⟨p,i,j,rfl,sq,q⟩:=h
 obtain ⟨u,rfl,ru⟩:=zcr r
 cases ru
 obtain ⟨t,u,hT⟩:=zqm I sq
 refine yc1 (I.ok.hd hc) hT λh' tk k=>⟨_,H,I.kept k,?_,q⟩
 by_cases hj:j > i
 ·rw [if_pos hj,if_pos hj];exact ⟨_,rfl⟩
 ·rw [if_neg hj,if_neg hj];exact ⟨_,rfl⟩
end
theorem yc4 {K:QFg}:Fn3 K zh2 (zqk K):=by
 intro ρ S H xs vs v S' Q sim r h p
 unfold zh2 at h
 split at h
 ·cases h
  obtain ⟨w,rfl,rw'⟩:=r.one
  cases rw' with
  | @tup _ b us hb rs =>
   obtain ⟨x,y,rfl,q1,q2⟩:=rs.two
   cases q1;cases q2
   exact ⟨b,_,_,rfl,.inl (.inl hb),p ρ H _ (Ext.refl ..) sim (.int _)⟩
 ·cases h
theorem yc5 {K:QFg}:Fn3 K zh3 (zql K):=by
 intro ρ S H xs vs v S' Q sim r h p
 unfold zh3 at h
 split at h
 ·cases h
  obtain ⟨w,rfl,rw'⟩:=r.one
  cases rw' with
  | @tup _ b us hb rs =>
   obtain ⟨x,y,rfl,q1,q2⟩:=rs.two
   cases q1;cases q2
   exact ⟨b,_,_,rfl,.inl (.inl hb),p ρ H _ (Ext.refl ..) sim (.int _)⟩
 ·cases h
section
theorem yc6 (hc:X.calm=true) (hg:Gl X "min") (hm:X.mg "min" = none) (ha:PA3 X (a :: es) mA) (he:starEach (a :: es) X.env=(false,eval a X.env) :: starEach es X.env:=by rfl) (hpl:(backTo pos (starEach es X.env)).any (·.1)=false:=by rfl):PE3 X (.Call (.Name "min" p) (a :: es) [] pos) (zae zh2 mA) :=
 zfh (yc2 hc) yc4 hg hm zzr ha (by decide) (by decide) he hpl
theorem yc7 (hc:X.calm=true) (hg:Gl X "max") (hm:X.mg "max" = none) (ha:PA3 X (a :: es) mA) (he:starEach (a :: es) X.env=(false,eval a X.env) :: starEach es X.env:=by rfl) (hpl:(backTo pos (starEach es X.env)).any (·.1)=false:=by rfl):PE3 X (.Call (.Name "max" p) (a :: es) [] pos) (zae zh3 mA) :=
 zfh (yc3 hc) yc5 hg hm zzs ha (by decide) (by decide) he hpl
end
section
variable {prog:Program}{w:World}{K:Type} [DecidableEq K] {knd:HeapKind prog w K}{A:Around}{E:Value->Shared->Prop}{s:Shared}{d a:Addr}{k:K}{xs:List (K × Addr × Value)}{z:Value}
theorem sdH {Q:Value->Shared->Prop}(hu:knd.room A) (hkey:knd.is s.heap k a) (hm:s.heap.DictOfH knd d xs) (hsz:xs.length<=sizeLine)
  (there:∀p,atKey xs k=some p->Q p.2 { s with toks:=s.toks+knd.draws k }) (new:atKey xs k=none->∀h',h'.DictOfH knd d (storedH xs k a z)->Heap.SameBut d s.heap h'->Q z { s with heap:=h',toks:=s.toks+knd.draws k }) :
  wpAny (model prog w) A (dictSetDefault d (.ref a) z) Q E s:=by
 obtain ⟨o,es,ep,ho,hc,hd,he,his,hn⟩:=hm
 unfold dictSetDefault
 try with_reducible refine wpAny_holding ?_
 refine qwb (knd.pyHash hu hkey (qwb (wpAny_dictFind_heap (s:={ s with toks:=s.toks+knd.draws k }) hu hkey ho hd he his hn (λhno=>?_) λj p hj=>?_)))
 ·have e0:=atKey_none_of_get hno
  have hnot:k ∉ xs.map (·.1):=not_mem_keys_of_get hno
  refine qwb (wpAny_rule (qwb (wpAny_updateDictKeys (hz:=by have e:=size_of_entries he;omega) (s:={ s with toks:=s.toks+knd.draws k }) ho hd (qwp (new e0 _ ⟨_,_,ep+1,Heap.get?_update_self _ ho (Obj.isFreed_of_dict (Obj.data_mapDictKeys hd _)),hc.mapDictKeys _,Obj.data_mapDictKeys hd _,?_,?_,?_⟩ (Heap.SameBut.update ..))))))
  ·rw [storedH_new e0];simp [he,entryOfKey]
  ·rw [storedH_new e0]
   intro x hx
   rcases List.mem_append.mp hx with hx|hx
   ·exact knd.keeps (his x hx) ho hd (Heap.SameBut.update ..)
   ·cases (show x=(k,a,z) by simpa using hx)
    exact knd.keeps hkey ho hd (Heap.SameBut.update ..)
  ·rw [storedH_new e0,List.map_append,List.nodup_append]
   refine ⟨hn,by simp,λx hx y hy=>?_⟩
   cases (show y=k by simpa using hy)
   exact λe=>hnot (e ▸ hx)
 ·refine qwb (wpAny_dictEntries (s:={ s with toks:=s.toks+knd.draws k }) ho hd ?_)
  rw [entry_at he j,hj]
  exact qwb (wpAny_rule (qwp (there p (atKey_of_get hn hj))))
theorem yc8 (hd:(d == sysModules)=false):MeetsIn prog w (Builtin.«dict.setdefault» ⟨[.ref d,.ref a,z],[]⟩) (λA R s=>knd.room A.in1/\∃k xs,knd.is s.heap k a/\s.heap.DictOfH knd d xs/\xs.length<=sizeLine /\
   (∀p,atKey xs k=some p->R (.ok (.ret p.2)) { s with toks:=s.toks+knd.draws k })/\(atKey xs k=none->∀h',h'.DictOfH knd d (storedH xs k a z)->Heap.SameBut d s.heap h'->R (.ok (.ret z)) { s with heap:=h',toks:=s.toks+knd.draws k })) :=
 .of_wp λA R s hx2_=>by
  obtain ⟨hu,k,xs,hkey,hm,hz,h1,h2⟩:=hx2_
  unfold Builtin.«dict.setdefault» Builtin.Dict.keyAndDefault
  refine qwb (qwb (wpAny_notOrdered_dict hm.typeIs (show wpAny _ _ (pure (d,Value.ref a,some z)) _ _ s from qwp ?_)))
  show wpAny _ _ (if (d == sysModules)=true then _ else (dictSetDefault d (.ref a) z >>= _)) _ _ s
  rw [hd,if_neg Bool.false_ne_true]
  exact qwb (sdH hu hkey hm hz (λp hp=>qwp ⟨p.2,rfl,h1 p hp⟩) λhn h' hm' hs'=>qwp ⟨z,rfl,h2 hn h' hm' hs'⟩)
end
def yc9 (td ty tx:TE):TE:=λσ H Q=>td σ H λx H1=>∃a,x=.ref a/\IsD H1 a/\ty σ H1 λy H2=>tx σ H2 λz H3=>∃kvs k b,H3 a=some (.dT kvs)/\y=.ref b/\H3 b=some (.tup (k.map kV))/\kvs.length<sizeLine /\
 (∀v,zbu kvs k=some v->Q v H3)/\(zbu kvs k=none->Q z (upd H3 a (.dT (zbs kvs k z))))
section
variable {td ty tx:TE}
theorem yda (hu:X.A.units+1<cLine) (ho:PE X o td) (he:PE X e ty) (hf:PE X f tx) (m:M2 X o "setdefault" apos e f cpos):PE X (.Call (.Attribute o "setdefault" apos) [e,f] [] cpos) (yc9 td ty tx):=by
 intro pins s σ H Q I h
 refine wpAny_Call_method m.base m.few m.line PySem.F.plainAttrs_dict PySem.F.slot_dict_setdefault PySem.F.type_dict_setdefault (thn (ho pins s σ H _ I h) λu s1 ⟨x,H1,I1,rx,a,ex,d,q1⟩=>?_)
 subst ex
 obtain rfl:u=Value.ref a:=rx
 obtain ⟨t1,t2,_⟩:=zof I1 d
 refine ⟨t1,t2,?_⟩
 rw [m.trees]
 refine Calls.callWith_builtin rfl (Calls.evalArgs_plain (Calls.spliced_cons (thn (he pins s1 σ H1 _ I1 q1) λiv s2 ⟨y,H2,I2,ry,q2⟩=>Calls.spliced_cons (thn (hf pins s2 σ H2 _ I2 q2) λfv s3 ⟨z,H3,I3,rz,kvs,k,b,ea,ey,eb,hl,g1,g2⟩=>Calls.spliced_nil ?_))))
 subst ey
 cases (show iv=Value.ref b from ry)
 obtain ⟨zz,hd,xs,rel,dd⟩:=zkt I3.hok ea
 have hz:xs.length<=sizeLine:=by rw [<-Paired.length rel];exact zz
 have hp:(zbs kvs k z).length<=sizeLine:=by have:=ziy kvs k z;omega
 refine call_meetsIn PySem.F.slot_dict_setdefault dd.typeIs PySem.F.entry_dict_setdefault (PySem.F.args_dict_setdefault_3 _ _ _) (yc8 (knd:=tupleKind (zbr X.prog X.w)) hd) ⟨tupleKind_room_in1 hu,k,xs,zfe I3.hok eb,dd,hz,λp hp=>?_,λhn h' dd' hs=>?_⟩
 ·have r:=rel.val k
  rw [hp] at r
  cases hv:zbu kvs k with
  | none=>rw [hv] at r;exact r.elim
  | some v=>rw [hv] at r;exact ⟨v,H3,I3.tok _,r,g1 v hv⟩
 ·have r:=rel.val k
  rw [hn] at r
  cases hv:zbu kvs k with
  | some v=>rw [hv] at r;exact r.elim
  | none =>
   obtain ⟨q,es,ep,hq,h2,h3,h4,_,h5⟩:=dd'
   refine ⟨z,_,zi0 (ob:=.dT (zbs kvs k z)) I3 (by rw [ea];exact True.intro) hs ⟨q,hq⟩ ⟨hp,hd,_,(rel.put k eb rz).keeps λc ys ec=>?_,q,es,ep,hq,h2,h3,h4,h5⟩,rz,g2 hv⟩
   rw [zaj (zcm ec ea (λz=>nomatch z))]
   exact ec
end
noncomputable def zfs (o e f:EM):EM:=λl S=>(o l S).bind λp=>(isDc p.2 p.1).bind λ_=>(e l p.2).bind λq=>(f l q.2).bind λt=>match p.1 with
 | .ref n=>match t.2[n]? with
  | some (.tdct kvs)=>(zc9 q.1).bind λk=>if kvs.length<sizeLine then (match za6 kvs k with
   | some v=>some (v,t.2)
   | none=>some (t.1,t.2.set n (.tdct (zce kvs k t.1)))) else none
  | _=>none
 | _=>none
section
theorem ydb (hr:Room k X.A) (ho:PE3 X o mo) (he:PE3 X e me) (hf:PE3 X f mf) (m:M2 X o "setdefault" apos e f cpos:=by exact ⟨rfl,rfl,rfl,rfl⟩):PE3 X (.Call (.Attribute o "setdefault" apos) [e,f] [] cpos) (zfs mo me mf):=PE.imp (yda (zgm hr) ho he hf m) λσ H Q hx3_=>by
 obtain ⟨ρ,l,S,v,S',sim,ro,hq,p⟩:=hx3_
 obtain ⟨⟨x,S1⟩,h1,hq⟩:=bnd hq
 obtain ⟨_,h2,hq⟩:=bnd hq
 obtain ⟨⟨y,S2⟩,h3,hq⟩:=bnd hq
 obtain ⟨⟨z,S3⟩,h5,hq⟩:=bnd hq
 cases x with
 | ref n =>
  dsimp only at hq
  cases hx:S3[n]? with
  | none=>rw [hx] at hq;cases hq
  | some ob =>
  rw [hx] at hq
  cases ob with
  | tdct kvs =>
   dsimp only at hq
   obtain ⟨kk,hk,hq⟩:=bnd hq
   obtain ⟨hz,hq⟩:=zqf hq
   refine ⟨ρ,l,S,.ref n,S1,sim,ro,h1,λρ1 H1 x' e1 s1 r1=>?_⟩
   obtain ⟨a,rfl,da⟩:=s1.isDc r1 h2
   refine ⟨a,rfl,da,ρ1,l,S1,y,S2,s1,ro.mono e1,h3,λρ2 H2 y' e2 s2 r2=>⟨ρ2,l,S2,z,S3,s2,(ro.mono e1).mono e2,h5,λρ3 H3 z' e3 s3 r3=>?_⟩⟩
   have r1':=(r1.mono e2).mono e3
   cases r1' with
   | @ref _ _ hn =>
    obtain ⟨vs,hH,r⟩:=s3.at' _ a _ hn hx
    obtain ⟨b,rfl,hb⟩:=zh0 hk (r2.mono e3)
    obtain ⟨g1,g2⟩:=zjk (k:=kk) r
    refine ⟨_,kk,b,hH,rfl,hb,by rw [zls r];exact hz,λv' hv=>?_,λhv=>?_⟩
    ·cases hg:za6 kvs kk with
     | none=>rw [g1 hg] at hv;cases hv
     | some d0 =>
      rw [hg] at hq
      obtain ⟨v0,hv0,rd⟩:=g2 d0 hg
      cases hq
      rw [hv] at hv0;cases hv0
      exact p ρ3 H3 _ (e1.trans (e2.trans e3)) s3 rd
    ·cases hg:za6 kvs kk with
     | some d0 =>
      obtain ⟨v0,hv0,_⟩:=g2 d0 hg
      rw [hv] at hv0;cases hv0
     | none =>
      rw [hg] at hq
      cases hq
      obtain ⟨ws,hw1,hw2⟩:=zlq (k:=kk) r3 r
      have ex:=zhd (o:=.dT (zbs ((kvs.map (·.1)).zip vs) kk z')) hn hH (ze4 _)
      exact p ρ3 _ _ ((e1.trans (e2.trans e3)).trans ex) (s3.setG hn hx rfl hH (ze4 _) ⟨ws,by rw [zbo,hw1],hw2.mono ex⟩) (r3.mono ex)
  | _=>cases hq
 | _=>cases hq
end
section
noncomputable def eqR (h:Heap) (p:PyData) (y:Value):Bool:=@decide (∃q as,Reads h y q as/\q.canLay0=true/\q.eqv p=true) (Classical.propDecidable _)
theorem zqn (r:Reads h y q as) (c:q.canLay0=true):eqR h p y=q.eqv p:=by
 unfold eqR
 cases e:q.eqv p with
 | true=>exact @decide_eq_true _ (Classical.propDecidable _) ⟨q,as,r,c,e⟩
 | false =>
  refine @decide_eq_false _ (Classical.propDecidable _) λ⟨q',as',r',_,e'⟩=>?_
  have:=PySem.SeqAt.Reads.unique q q' y as as' c r r'
  subst this
  rw [e] at e';cases e'
theorem zqo:∀{us:List Value}{qs:List PyData}{as:List Addr},ReadsAll h us qs as->PyData.canLayAll0 qs=true->us.map (eqR h p)=qs.map λq=>q.eqv p
 | _,_,_,.nil,_=>rfl
 | _,_,_,.cons r rs,c=>by
  rw [PyData.canLayAll0,Bool.and_eq_true] at c
  rw [List.map_cons,List.map_cons,zqn r c.1,zqo rs c.2]
theorem zqp (rx:Reads s.heap x p bs) (cx:p.canLay0=true) (hu:A.units+p.depth<cLine):∀{us:List Value}{qs:List PyData}{as:List Addr},ReadsAll s.heap us qs as->PyData.canLayAll0 qs=true->∀y∈us,SeqAt.EqAt A s y x (eqR s.heap p y)
 | _,_,_,.nil,_=>λy hy=>by cases hy
 | _,_,_,.cons r rs,c=>λy hy=>by
  rw [PyData.canLayAll0,Bool.and_eq_true] at c
  rcases List.mem_cons.mp hy with e|hy
  ·subst e
   rw [zqn r c.1]
   exact PySem.SeqAt.eqAt_reads _ p A s _ x _ bs r rx c.1 cx (Nat.lt_of_le_of_lt (Nat.add_le_add_left (Nat.min_le_right _ _) _) hu)
  ·exact zqp rx cx hu rs c.2 y hy
end
section
end
def zqq (K:QFg):V->List V->Hp->VK->Prop:=λy vs H Q=>∃x ρ S dx xs p qs a us j,vs=[x]/\Sim K ρ S H/\RD ρ H dx x/\y=.ref a/\H a=some (.lst us)/\RDs ρ H xs us/\zan S 60 dx=some p/\pyAll S 60 xs=some qs/\p.canLay0=true/\PyData.canLayAll0 qs=true/\(qs.map λq=>q.eqv p).idxOf? true=some j/\Q (.int j) H
noncomputable def zgu:D->List D->Sto->Option (D × Sto)
 | .ref n,[x],S=>match S[n]? with
  | some (.lst xs)=>(zan S 60 x).bind λp=>(pyAll S 60 xs).bind λqs=>if p.canLay0=true/\PyData.canLayAll0 qs=true then ((qs.map λq=>q.eqv p).idxOf? true).bind λj=>some (.int j,S) else none
  | _=>none
 | _,_,_=>none
theorem ydc {l:List Bool}{j:Nat}(h:l.idxOf? true=some j):l[j]? = some true/\∀m,m<j->l[m]? = some false:=by
 unfold List.idxOf? at h
 rw [List.findIdx?_eq_some_iff_getElem] at h
 obtain ⟨hj,h1,h2⟩:=h
 refine ⟨by rw [qge hj];simpa using h1,λm hm=>?_⟩
 have:=h2 m hm
 rw [qge (Nat.lt_trans hm hj)]
 simpa using this
section
theorem ydd (hr:Room k X.A):MtM X "list.index" (zqq X.K):=by
 intro pins s σ H y vs v us' Q I ry rv' h
 obtain ⟨x,ρ,S,dx,xs,p,qs,a,us,j,rfl,sim,r1,rfl,hH,r2,h1,h2,c1,c2,hj,hq⟩:=h
 cases ry
 obtain ⟨u,rfl,ru⟩:=rv'.one
 obtain ⟨⟨as,k1⟩,_,_,k2⟩:=zgi I sim 60 dx x u p r1 ru h1
 obtain ⟨z,its,n,rv,hl,e⟩:=I.lstM hH
 obtain ⟨⟨bs,k3⟩,_,_,_⟩:=zz4 I sim 60 xs us its qs r2 rv h2
 have em:=zqo (p:=p) k3 c2
 rw [<-em] at hj
 obtain ⟨g1,g2⟩:=ydc hj
 have hjl:j<its.length:=by have:=(qme g1).1;simpa using this
 have e1:eqR s.heap p its.toArray[j]=true:=by
  rw [qgm,qge hjl] at g1
  simpa using g1
 have hsm:(j:Int)<2 ^ 63-1:=by
  have:(sizeLine:Nat)=16777216:=sizeLine_eq
  omega
 refine call_meets F.slot_list_index ⟨_,e,rfl⟩ F.entry_list_index (F.args_list_index_2 _ _) (SeqAt.list_indexAt a its.toArray n none #[] u (eqR s.heap p) j (by simpa using hjl) hsm e1 λm hm hmj=>?_) ⟨e,λw hw=>zqp k1 c1 (by have:=hr.un;show X.A.units+1+_<_;omega) k3 c2 w (by simpa using hw),⟨.int j,H,I.tok _,⟨_,rfl⟩,hq⟩⟩
 have:=g2 m hmj
 have hml:m<its.length:=by simpa using hm
 rw [qgm,qge hml] at this
 simpa using this
theorem yde {K:QFg}:Mt3 K zgu (zqq K):=by
 intro ρ S H x x' xs vs v S' Q sim rx r h p
 unfold zgu at h
 split at h
 ·split at h
  ·rename_i n y S ys e
   obtain ⟨d1,h2,h⟩:=bnd h
   obtain ⟨ds,h3,h⟩:=bnd h
   obtain ⟨hc,h⟩:=zqf h
   obtain ⟨j,hj,h⟩:=bnd h
   cases h
   obtain ⟨w,rfl,rw'⟩:=r.one
   obtain ⟨a,us,ha,hH,r2⟩:=sim.lst e
   cases rx with
   | ref hn =>
    rw [ha] at hn;cases hn
    exact ⟨w,ρ,_,y,ys,d1,ds,a,us,j,rfl,sim,rw',rfl,hH,r2,h2,h3,hc.1,hc.2,hj,p ρ H _ (Ext.refl ..) sim (.int _)⟩
  ·cases h
 ·cases h
theorem ydf (hr:Room k X.A) (ho:PE3 X o mo) (he:PE3 X e me) (hbase:attributeBase o "index" X.env (eval o X.env)=eval o X.env:=by rfl)
  (hfew:((backTo cpos (starEach [e] X.env)).all (λx=>!x.1) && (backToKw cpos (keywordEach [] X.env)).all (λx=>x.1.isSome) && decide (([e]:List Expr).length+([]:List Keyword).length+(if ([]:List Keyword).isEmpty then 0 else 1)<30))=true:=by rfl)
  (hline:(apos.endLine == cpos.line)=true:=by rfl) (hs:starEach [e] X.env=(false,eval e X.env) :: starEach [] X.env:=by rfl) (hplain:(backTo cpos (starEach [] X.env)).any (·.1)=false:=by rfl) :
  PE3 X (.Call (.Attribute o "index" apos) [e] [] cpos) (zbi zgu mo (zab me zad)):=zoz PySem.F.slot_list_index PySem.F.type_list_index (ydd hr) yde ho (zaf he zah hs) hbase hfew hline hs hplain
end
section
end
section
end
section
end
section
end
section
end
section
noncomputable abbrev two (elt t1 i1 t2 i2:Expr) (ifs1 ifs2:List Expr) (scope:Scope) (pos:Pos):Expr:=.ListComp elt [⟨t1,i1,ifs1,0⟩,⟨t2,i2,ifs2,0⟩] scope pos
theorem ydg:compTurn (two elt t1 i1 t2 i2 ifs1 ifs2 scope pos) 0 it acc env=(do
  standAt i1.pos
  match <-pyNext it with
  | none=>pure (.done .next)
  | some v =>
   letOwnedTupleGo t1 it v
   assign t1 env v
   let mut ok:=true
   for c in ifs1 do
    if ok then ok <-isTrue c env (eval c env)
   if ok then
    let x <-eval i2 env
    standAt i2.pos
    let x <-foldedSetIterable i2 env x
    let _ <-runOwn (.compStart (two elt t1 i1 t2 i2 ifs1 ifs2 scope pos) 1 (<-holding [x] (pyIter x)) acc env) env
   again (.compLoop (two elt t1 i1 t2 i2 ifs1 ifs2 scope pos) 0 it acc env)):=by rfl
theorem ydh:compTurn (two elt t1 i1 t2 i2 ifs1 ifs2 scope pos) 1 it acc env=(do
  standAt i2.pos
  match <-pyNext it with
  | none=>pure (.done .next)
  | some v =>
   letOwnedTupleGo t2 it v
   assign t2 env v
   let mut ok:=true
   for c in ifs2 do
    if ok then ok <-isTrue c env (eval c env)
   if ok then
    (do let _ <-call (.builtin "list.append") [acc,<-eval elt env])
   again (.compLoop (two elt t1 i1 t2 i2 ifs1 ifs2 scope pos) 1 it acc env)):=by rfl
theorem ydi (h0:codeAny (model prog w) A (.compLoop (two elt t1 i1 t2 i2 ifs1 ifs2 scope pos) 1 it acc env) R s)
  (h:wpAny (model prog w) A (pyIter it) (λit' s'=>codeAny (model prog w) A (.compLoop (two elt t1 i1 t2 i2 ifs1 ifs2 scope pos) 1 it' acc env) R s') (notedBy (model prog w) A env λx s'=>R (.error x) s') s) :
  codeAny (model prog w) A (.compStart (two elt t1 i1 t2 i2 ifs1 ifs2 scope pos) 1 it acc env) R s:=by
 refine codeAny_of_tree ?_
 show wpAny _ _ ((compStart (two elt t1 i1 t2 i2 ifs1 ifs2 scope pos) 1 it acc env).onRaise (λx=>do noteFrame x env;standAt theWindowsPlace)) _ _ s
 refine wpAny_notedAt ?_
 unfold compStart
 show wpAny _ _ (ask >>= _) _ _ s
 refine qwb (wpAny_askSetting (wpAny_ite ?_))
 split
 ·first
   | exact qwb (qwp (qwp (And.intro rfl h0)))
   | exact qwp (And.intro rfl h0)
 ·first
   | exact qwb (wpAny_rule (qwb (wpAny_standAt (qwb (wpAny_mono h (λit' s' h'=>qwp (And.intro rfl h')) λ_ _ x=>x)))))
   | (refine qwb (wpAny_rule ?_);show wpAny _ _ (standAt i2.pos >>= _) _ _ s;exact qwb (wpAny_standAt (qwb (wpAny_mono h (λit' s' h'=>qwp (And.intro rfl h')) λ_ _ x=>x))))
theorem ydj (I:Nat->Shared->Prop)
  (turn:∀n s,I n s->wpAny (model prog w) A (pyNext it) (λr s₁=>match r with
   | none=>R (.ok .next) s₁
   | some v=>wpAny (model prog w) A (letOwnedTupleGo t2 it v) (λ_ s₁'=>wpAny (model prog w) A (assign t2 env v) (λ_ s₂ =>
     wpAny (model prog w) A (forIn ifs2 true λc r=>if r=true then do let ok <-isTrue c env (eval c env);pure (ForInStep.yield ok) else pure (ForInStep.yield r)) (λok s₃ =>
      if ok=true then wpAny (model prog w) A (eval elt env) (λx s₄ =>
       wpAny (model prog w) A (call (.builtin "list.append") [acc,x]) (λ_ s₅=>∃m,m<n/\I m s₅) (λ_ _=>False) s₄) (λ_ _=>False) s₃
      else ∃m,m<n/\I m s₃) (λ_ _=>False) s₂) (λ_ _=>False) s₁') (λ_ _=>False) s₁) (λ_ _=>False) s)
  (n:Nat) (h:I n s):codeAny (model prog w) A (.compLoop (two elt t1 i1 t2 i2 ifs1 ifs2 scope pos) 1 it acc env) R s:=by
 refine codeAny_loop rfl I (λn s hI=>?_) n h
 show wpAny _ A ((compTurn (two elt t1 i1 t2 i2 ifs1 ifs2 scope pos) 1 it acc env).onRaise (λx=>do noteFrame x env;theTreesLotGoes x)) _ _ s
 refine wpAny_noted ?_
 rw [ydh]
 refine qwb (wpAny_standAt (qwb (wpAny_mono (turn n s hI) (λr s₁ h₁=>?_) λ_ _ h'=>h'.elim)))
 cases r with
 | none=>exact qwp h₁
 | some v =>
  refine qwb (wpAny_mono h₁ (λ_ s₁' h₁=>?_) λ_ _ h'=>h'.elim)
  refine qwb (wpAny_mono h₁ (λ_ s₂ h₂=>qwb (wpAny_mono h₂ (λok s₃ h₃=>?_) λ_ _ h'=>h'.elim)) λ_ _ h'=>h'.elim)
  cases ok with
  | false=>exact qwp ⟨rfl,h₃⟩
  | true =>
   exact qwb (qwb (wpAny_mono h₃ (λx s₄ h₄=>qwb (wpAny_mono h₄ (λ_ s₅ h₅=>qwp (qwp ⟨rfl,h₅⟩)) λ_ _ h'=>h'.elim)) λ_ _ h'=>h'.elim))
theorem ydk (hs:∀x,foldedSetIterable i2 env x=pure x) (I:Nat->Shared->Prop)
  (turn:∀n s,I n s->wpAny (model prog w) A (pyNext it) (λr s₁=>match r with
   | none=>R (.ok .next) s₁
   | some v=>wpAny (model prog w) A (letOwnedTupleGo t1 it v) (λ_ s₁'=>wpAny (model prog w) A (assign t1 env v) (λ_ s₂ =>
     wpAny (model prog w) A (forIn ifs1 true λc r=>if r=true then do let ok <-isTrue c env (eval c env);pure (ForInStep.yield ok) else pure (ForInStep.yield r)) (λok s₃ =>
      if ok=true then wpAny (model prog w) A (eval i2 env) (λx s₄=>wpAny (model prog w) A (pyIter x) (λit2 s₅ =>
       codeAny (model prog w) A (.compStart (two elt t1 i1 t2 i2 ifs1 ifs2 scope pos) 1 it2 acc env) (λr s₆=>r=.ok .next/\∃m,m<n/\I m s₆) s₅) (λ_ _=>False) s₄) (λ_ _=>False) s₃
      else ∃m,m<n/\I m s₃) (λ_ _=>False) s₂) (λ_ _=>False) s₁') (λ_ _=>False) s₁) (λ_ _=>False) s)
  (n:Nat) (h:I n s):codeAny (model prog w) A (.compLoop (two elt t1 i1 t2 i2 ifs1 ifs2 scope pos) 0 it acc env) R s:=by
 refine codeAny_loop rfl I (λn s hI=>?_) n h
 show wpAny _ A ((compTurn (two elt t1 i1 t2 i2 ifs1 ifs2 scope pos) 0 it acc env).onRaise (λx=>do noteFrame x env;theTreesLotGoes x)) _ _ s
 refine wpAny_noted ?_
 rw [ydg]
 refine qwb (wpAny_standAt (qwb (wpAny_mono (turn n s hI) (λr s₁ h₁=>?_) λ_ _ h'=>h'.elim)))
 cases r with
 | none=>exact qwp h₁
 | some v =>
  refine qwb (wpAny_mono h₁ (λ_ s₁' h₁=>?_) λ_ _ h'=>h'.elim)
  refine qwb (wpAny_mono h₁ (λ_ s₂ h₂=>qwb (wpAny_mono h₂ (λok s₃ h₃=>?_) λ_ _ h'=>h'.elim)) λ_ _ h'=>h'.elim)
  cases ok with
  | false=>exact qwp ⟨rfl,h₃⟩
  | true =>
   refine qwb (wpAny_mono h₃ (λx s₄ h₄=>?_) λ_ _ h'=>h'.elim)
   refine qwb (wpAny_standAt ?_)
   rw [hs x]
   refine qwb (qwp (qwb (wpAny_holding (wpAny_mono h₄ (λit2 s₅ h₅=>?_) λ_ _ h'=>h'.elim))))
   refine qwb (wpAny_runOwn (codeAny_mono h₅ λr s₆ h₆=>?_))
   obtain ⟨rfl,h₆⟩:=h₆
   exact qwp ⟨rfl,h₆⟩
end
def zjm (K:QFg) (wi:TI) (src:St->St) (g:TG) (tts:TT) (wi2:TI) (g2:TG) (tts2:TT) (t:TE):TE:=λσ H Q=>wi σ H λJ H1=>∀D,H1 D=none->K.lookup D=none->∃W:Nat->Nat->St->Hp->Prop,
 (∃m,W 0 m (src σ) (upd H1 D (.lst [])))/\∀i m σ' H',W i m σ' H' ->
  (J.stop i H'/\Q (.ref D) H')\/(J.go i H'/\∃N:St->Hp->Prop,(∀σ' H',N σ' H'->∃m',m' < m/\W (i+1) m' σ' H') /\
   ∀x H'',J.yld i H' x H''->g x σ' H'' λσ2 H2=>tts σ2 H2 λb H3=>if b=true then wi2 σ2 H3 (λJ2 H4=>∃W2:Nat->Nat->St->Hp->Prop,(∃m,W2 0 m σ2 H4)/\∀j m σ3 H5,W2 j m σ3 H5 ->
    (J2.stop j H5/\N σ3 H5)\/(J2.go j H5/\∃N2:St->Hp->Prop,(∀σ' H',N2 σ' H'->∃m',m' < m/\W2 (j+1) m' σ' H') /\
     ∀y H6,J2.yld j H5 y H6->g2 y σ3 H6 λσ4 H7=>tts2 σ4 H7 λb H8=>if b=true then t σ4 H8 (λv H9=>∃ys,H9 D=some (.lst ys)/\ys.length<sizeLine/\N2 σ4 (upd H9 D (.lst (ys++[v])))) else N2 σ4 H8)) else N σ2 H3)
theorem ydl {X:Cx}{N':List Str}{elt iter tgt iter2 tgt2:Expr}{ifs ifs2:List Expr}{scope:Scope}{pos pos':Pos}{use:Option (Value->Sem Unit)}{R:Value->Shared->Prop}{pins:List (Addr × Obj)}{s:Shared}{σ:St}{H:Hp}{Q:VK}{wi:TI}{src:St->St}{g g2:TG}{tts tts2:TT}{wi2:TI}{t:TE}(hcalm:X.calm=true) (sc:CompSc X N' scope src)
  (hi:PI X tgt iter wi) (hg:∀C s H fp pins,PG (cxC X N' scope C s H fp pins) tgt g) (ht:∀C s H fp pins,PTs (cxC X N' scope C s H fp pins) ifs tts) (he:∀C s H fp pins,PE (cxC X N' scope C s H fp pins) elt t)
  (hi2:∀C s H fp pins,PI (cxC X N' scope C s H fp pins) tgt2 iter2 wi2) (hg2:∀C s H fp pins,PG (cxC X N' scope C s H fp pins) tgt2 g2) (ht2:∀C s H fp pins,PTs (cxC X N' scope C s H fp pins) ifs2 tts2)
  (hs:∀x,foldedSetIterable iter X.env x=pure x) (hs2:∀C s H fp pins x,foldedSetIterable iter2 (cxC X N' scope C s H fp pins).env x=pure x) (I:Inv X pins σ H s) (h:zjm X.K wi src g tts wi2 g2 tts2 t σ H Q)
  (fin:∀D H5 s6 C mC,Inv X pins σ H5 s6->zcn X pins H5 C->s6.heap.Ns C mC->Q (.ref D) H5->compPost (model X.prog X.w) X.A X.xe use R (.ref D) C (.ok .next) s6) :
  wpAny (model X.prog X.w) X.A (comprehension (two elt tgt iter tgt2 iter2 ifs ifs2 scope pos) scope X.env pos' (newList []) false (eval iter X.env) use) R X.xe s:=by
 have hasC:∀x∈scope.names,x.2=.free->∃c,X.env.cells.lookup x.1=some c:=λx hx hf=>I.ok.has x.1 (sc.free x hx hf)
 refine wpAny_comprehension_free (use:=use) (env:=X.env) rfl hs (zk5 scope X.env hasC) sc.kind sc.names ?_
 show wpAny (model X.prog X.w) X.A (eval iter X.env) _ _ s
 refine wpAny_mono (hi pins s σ H _ I h) (λv s1 h1=>wpAny_mono h1 (λitv s2 h2=>?_) λ_ _ z=>z) λ_ _ z=>z
 obtain ⟨it,fp,tn,J,H2,rfl,I2,T,st2,f2,q⟩:=h2
 refine wpAny_newObj_type ?_ (by show 0<=sizeLine;exact Nat.zero_le _)
 have hD:H2 s2.heap.objs.size=none:=I2.hok.fresh (qlr _)
 have I3:Inv X pins σ (upd H2 s2.heap.objs.size (.lst [])) { s2 with heap:=s2.heap.push { cls:=.type "list",data:=.seq ([]:List Value).toArray } }:=I2.lnew (t':=s2.toks) .nil (Nat.zero_le _)
 obtain ⟨W,⟨m0,w0⟩,turn⟩:=q s2.heap.objs.size hD (by
  cases e:X.K.lookup s2.heap.objs.size with
  | none=>rfl
  | some o=>exact absurd (Heap.lt_size (I2.kIn _ o e)) (Nat.lt_irrefl _))
 refine wpAny_newFunctionEnv sc.nocell (by intro y hy;simp at hy) (λh' hns hsb=>?_) sc.kind
 have fpIn:∀b∈fp,∃o,s2.heap.get? b=some o/\∀v,o.data≠.cell v:=T.obj 0 s2.heap st2
 have fpD:∀b∈fp,b≠s2.heap.objs.size:=λb hb=>let ⟨o,e,_⟩:=fpIn b hb;Nat.ne_of_lt (Heap.lt_size e)
 have f3:∀b∈fp,zcn X pins (upd H2 s2.heap.objs.size (.lst [])) b:=λb hb=>⟨by rw [zaj (fpD b hb)];exact (f2 b hb).1,(f2 b hb).2⟩
 have st3:tn 0 (s2.heap.push { cls:=.type "list",data:=.seq ([]:List Value).toArray }):=T.keep _ _ _ st2 λb hb o e=>qps _ e
 clear q hD h st2 f2 fpD
 generalize upd H2 s2.heap.objs.size (.lst [])=H3 at *
 generalize hDe:s2.heap.objs.size=D at *
 have fpIn3:∀b∈fp,∃o,(s2.heap.push { cls:=.type "list",data:=.seq ([]:List Value).toArray }).get? b=some o/\∀v,o.data≠.cell v:=T.obj 0 _ st3
 clear fpIn
 generalize s2.heap.push { cls:=.type "list",data:=.seq ([]:List Value).toArray }=h3 at *
 have old:∀b o,h3.get? b=some o->h'.get? b=some o:=λb o e=>hsb.extBut b o (Nat.ne_of_lt (Heap.lt_size e)) (qps _ e)
 have stkNo:∀b,b≠X.env.locals->b ∉ X.fs->b ∉ frs X.stack:=λb h1 h2 hb=>by
  rcases List.mem_cons.mp (I3.stkSub b hb) with z|z
  ·exact h1 z
  ·exact h2 z
 have sub:=zgd X.env scope.names [] (λx c z=>by simp at z)
 have cNe:∀b o,h3.get? b=some o->b≠h3.objs.size:=λb o e=>Nat.ne_of_lt (Heap.lt_size e)
 have I4:Inv (cxC X N' scope h3.objs.size { s2 with heap:=h3 } H3 fp pins) [] (src σ) H3 { s2 with heap:=h',toks:=s2.toks+([]:List (Str × Value)).length }:=by
  refine ⟨⟨I3.ok.mod,sc.kind,I3.ok.glob,I3.ok.blt,qlr _,λx y c h1 h2=>I3.ok.inj x y c (sub x c h1) (sub y c h2),λx hx=>?_,λx c z=>absurd (show false=true from z) Bool.false_ne_true,I3.ok.hd,I3.ok.frames,.inl rfl,λb hb=>⟨?_,λx c z=>(f3 b hb).2.2.2.2.1 x c (sub x c z)⟩,λb o e=>I3.bs b o e,Nat.le_trans I3.ok.bsz I3.sz,λb o e hb=>?_,λb hb=>stkNo b (f3 b hb).2.1 (f3 b hb).2.2.1,I3.stack,I3.stkFree⟩,
   rfl,I3.bare,Un.kept old,⟨_,hns,λi x v h1 h2 h3'=>?_⟩,λx c z=>?_,I3.hok.fresh (qlr _),λx c z=>I3.freeC x c (sub x c z),λp hp=>?_,I3.hok.kept old,sc.len σ⟩
  ·have hm:=sc.rel x hx
   exact zek X.env scope.names [] x (.inl hm) (hasC _ hm rfl)
  ·obtain ⟨o,e,_⟩:=fpIn3 b hb
   exact cNe b o e
  ·rcases (f3 b hb).2.2.2.1 with z|z
   ·exact I3.ok.noex b o e z
   ·have:=Heap.lt_size (I3.ok.bs b o e).1
    exact absurd (Nat.lt_of_lt_of_le this z) (Nat.lt_irrefl _)
  ·obtain ⟨j,e1,e2,e3⟩:=sc.src σ i v x h2 h1
   obtain ⟨m,hn,hl⟩:=I3.loc
   have hmem:=PySem.mem_of_lookup e3
   have hk:=sc.free (x,.free) hmem rfl
   have vis:Vis X.env.scope x:=by
    rcases hk with k|k
    ·exact .inr (.inl k)
    ·exact .inr (.inr k)
   obtain ⟨u,r,lk⟩:=hl j x v e1 e2 vis
   refine ⟨u,r,.inr ⟨?_,?_⟩⟩
   ·exact zi8 (scope:=scope) e3
   ·rcases lk with ⟨k,_⟩|⟨_,c,hc,hcell⟩
    ·rcases hk with k' | k' <;> (rw [k] at k';cases k')
    ·obtain ⟨c',hc'⟩:=zek X.env scope.names [] x (.inl hmem) ⟨c,hc⟩
     have:=sub x c' hc'
     rw [hc] at this;cases this
     obtain ⟨o,ho,hd⟩:=hcell
     exact ⟨c,hc',o,old _ _ ho,hd⟩
  ·obtain ⟨v,o,ho,hd⟩:=I3.cell x c (sub x c z)
   exact ⟨v,o,old _ _ ho,hd⟩
  ·have hp':p∈X.pn++pins:=by simpa [cxC] using hp
   obtain ⟨e,n,ne,nf,d⟩:=I3.pin p hp'
   exact ⟨old _ _ e,n,cNe _ _ e,stkNo _ ne nf,d⟩
 have st4:tn 0 h':=T.keep _ _ _ st3 λb hb o e=>old b o e
 have fr4:∀b∈fp,H3 b=none:=λb hb=>(f3 b hb).1
 have stat:∀{H':Hp},(∀b∈fp,H' b=none)->∀b∈fp,zcn (cxC X N' scope h3.objs.size { s2 with heap:=h3 } H3 fp pins) [] H' b:=λhn b hb=>by
  obtain ⟨g0,g1,g2,g3,g4,g5⟩:=f3 b hb
  obtain ⟨o,e,_⟩:=fpIn3 b hb
  exact ⟨hn b hb,cNe b o e,stkNo b g1 g2,.inl hb,λx c z=>g4 x c (sub x c z),λp hp=>g5 p (by simpa [cxC] using hp)⟩
 have loop:codeAny (model X.prog X.w) X.A (.compLoop (two elt tgt iter tgt2 iter2 ifs ifs2 scope pos) 0 (.ref it) (.ref D) (compEnvC scope (zbt X.env scope.names []) h3.objs.size X.env))
   (compPost (model X.prog X.w) X.A X.xe use R (.ref D) h3.objs.size) { s2 with heap:=h',toks:=s2.toks+([]:List (Str × Value)).length }:=by
  refine ydk (λx=>hs2 h3.objs.size { s2 with heap:=h3 } H3 fp pins x) (λn s'=>∃i σ' H',Inv (cxC X N' scope h3.objs.size { s2 with heap:=h3 } H3 fp pins) [] σ' H' s'/\tn i s'.heap/\(∀b∈fp,H' b=none)/\W i n σ' H') ?_ m0 ⟨0,src σ,H3,I4,st4,fr4,w0⟩
  rintro n s5 ⟨i,σ5,H5,I5,st5,fr5,w5⟩
  rcases turn i n σ5 H5 w5 with ⟨stop,qn⟩|⟨go,N,hN,step⟩
  ·refine wpAny_mono (T.done (cxC X N' scope h3.objs.size { s2 with heap:=h3 } H3 fp pins) rfl rfl rfl hcalm i [] s5 σ5 H5 (λ_ _=>False) I5 (stat fr5) st5 stop) (λr s6 hr=>?_) λ_ _ z=>z
   obtain ⟨hr,I6⟩:=hr
   subst hr
   obtain ⟨mC,hnC,_⟩:=I6.loc
   have IX:Inv X pins σ H5 s6:=I3.call' (s':=s6) (ch:=fp) I6.os I6.base I6.hok I6.bare λb hb=>⟨(f3 b hb).2.2.2.1,(f3 b hb).2.1,(f3 b hb).2.2.2.2.1,(f3 b hb).2.2.2.2.2⟩
   exact fin D H5 s6 h3.objs.size mC IX (I3.fpOk (qlr _) I6.free) hnC qn
  ·refine wpAny_mono (T.item (cxC X N' scope h3.objs.size { s2 with heap:=h3 } H3 fp pins) rfl rfl rfl hcalm i [] s5 σ5 H5 (λ_ _=>False) I5 (stat fr5) st5 go) (λr s6 hr=>?_) λ_ _ z=>z
   obtain ⟨u,hr,h6⟩:=hr
   subst hr
   refine wpAny_mono h6 (λ_ s7 h7=>?_) λ_ _ z=>z
   obtain ⟨x,H7,I7,r7,y7,st7,fr7⟩:=h7
   have I7':=I7.pinned (stat fr7) (T.obj _ _ st7)
   refine wpAny_mono (hg _ _ _ _ _ _ s7 σ5 H7 x u _ I7' r7 (step x H7 y7)) (λ_ s8 h8=>?_) λ_ _ z=>z
   obtain ⟨σ8,H8,I8,q8⟩:=h8
   have again:∀{σ9:St} {H9:Hp} {s9:Shared},Inv (cxC X N' scope h3.objs.size { s2 with heap:=h3 } H3 fp pins) ([]++zdc fp s7.heap) σ9 H9 s9->N σ9 H9->∃m,m<n/\∃i σ' H',Inv (cxC X N' scope h3.objs.size { s2 with heap:=h3 } H3 fp pins) [] σ' H' s9/\tn i s9.heap/\(∀b∈fp,H' b=none)/\W i m σ' H':=λ{σ9 H9 s9} I9 n9=>by
    obtain ⟨m',hm,w9⟩:=hN σ9 H9 n9
    refine ⟨m',hm,i+1,σ9,H9,I9.unpinned,T.keep _ _ _ st7 λb hb o e=>(I9.pin (b,o) (List.mem_append_right _ (List.mem_append_right _ (zdx hb e)))).1,λb hb=>?_,w9⟩
    obtain ⟨o,e,d⟩:=T.obj _ _ st7 b hb
    exact (I9.pin (b,o) (List.mem_append_right _ (List.mem_append_right _ (zdx hb e)))).2.1
   refine wpAny_mono (ht _ _ _ _ _ _ s8 σ8 H8 _ I8 q8) (λok s9 h9=>?_) λ_ _ z=>z
   obtain ⟨H9,I9,q9⟩:=h9
   cases ok with
   | false=>exact again I9 q9
   | true =>
    refine wpAny_mono (hi2 _ _ _ _ _ _ s9 σ8 H9 _ I9 q9) (λv s10 h10=>wpAny_mono h10 (λitv s11 h11=>?_) λ_ _ z=>z) λ_ _ z=>z
    obtain ⟨it2,fp2,tn2,J2,H11,rfl,I11,T2,st11,f11,W2,⟨m2,w2⟩,turn2⟩:=h11
    have stat2:∀{H':Hp},(∀b∈fp2,H' b=none)->∀b∈fp2,zcn (cxC X N' scope h3.objs.size { s2 with heap:=h3 } H3 fp pins) ([]++zdc fp s7.heap) H' b:=λhn b hb=>⟨hn b hb,(f11 b hb).2⟩
    have inner:codeAny (model X.prog X.w) X.A (.compLoop (two elt tgt iter tgt2 iter2 ifs ifs2 scope pos) 1 (.ref it2) (.ref D) (compEnvC scope (zbt X.env scope.names []) h3.objs.size X.env))
      (λr s6=>r=.ok .next/\∃m,m<n/\∃i σ' H',Inv (cxC X N' scope h3.objs.size { s2 with heap:=h3 } H3 fp pins) [] σ' H' s6/\tn i s6.heap/\(∀b∈fp,H' b=none)/\W i m σ' H') s11:=by
     refine ydj (λk s'=>∃j σ' H',Inv (cxC X N' scope h3.objs.size { s2 with heap:=h3 } H3 fp pins) ([]++zdc fp s7.heap) σ' H' s'/\tn2 j s'.heap/\(∀b∈fp2,H' b=none)/\W2 j k σ' H') ?_ m2 ⟨0,σ8,H11,I11,st11,λb hb=>(f11 b hb).1,w2⟩
     rintro k s12 ⟨j,σ12,H12,I12,st12,fr12,w12⟩
     rcases turn2 j k σ12 H12 w12 with ⟨stop2,qn2⟩|⟨go2,N2,hN2,step2⟩
     ·refine wpAny_mono (T2.done (cxC X N' scope h3.objs.size { s2 with heap:=h3 } H3 fp pins) rfl rfl rfl hcalm j _ s12 σ12 H12 (λ_ _=>False) I12 (stat2 fr12) st12 stop2) (λr s13 hr=>?_) λ_ _ z=>z
      obtain ⟨hr,I13⟩:=hr
      subst hr
      exact ⟨rfl,again I13 qn2⟩
     ·refine wpAny_mono (T2.item (cxC X N' scope h3.objs.size { s2 with heap:=h3 } H3 fp pins) rfl rfl rfl hcalm j _ s12 σ12 H12 (λ_ _=>False) I12 (stat2 fr12) st12 go2) (λr s13 hr=>?_) λ_ _ z=>z
      obtain ⟨u2,hr,h13⟩:=hr
      subst hr
      refine wpAny_mono h13 (λ_ s14 h14=>?_) λ_ _ z=>z
      obtain ⟨x2,H14,I14,r14,y14,st14,fr14⟩:=h14
      have I14':=I14.pinned (stat2 fr14) (T2.obj _ _ st14)
      refine wpAny_mono (hg2 _ _ _ _ _ _ s14 σ12 H14 x2 u2 _ I14' r14 (step2 x2 H14 y14)) (λ_ s15 h15=>?_) λ_ _ z=>z
      obtain ⟨σ15,H15,I15,q15⟩:=h15
      have again2:∀{H16:Hp} {s16:Shared},Inv (cxC X N' scope h3.objs.size { s2 with heap:=h3 } H3 fp pins) (([]++zdc fp s7.heap)++zdc fp2 s14.heap) σ15 H16 s16->N2 σ15 H16->∃m,m<k/\∃j σ' H',Inv (cxC X N' scope h3.objs.size { s2 with heap:=h3 } H3 fp pins) ([]++zdc fp s7.heap) σ' H' s16/\tn2 j s16.heap/\(∀b∈fp2,H' b=none)/\W2 j m σ' H':=λ{H16 s16} I16 n16=>by
       obtain ⟨m',hm,w16⟩:=hN2 σ15 H16 n16
       refine ⟨m',hm,j+1,σ15,H16,I16.unpinned,T2.keep _ _ _ st14 λb hb o e=>(I16.pin (b,o) (List.mem_append_right _ (List.mem_append_right _ (zdx hb e)))).1,λb hb=>?_,w16⟩
       obtain ⟨o,e,d⟩:=T2.obj _ _ st14 b hb
       exact (I16.pin (b,o) (List.mem_append_right _ (List.mem_append_right _ (zdx hb e)))).2.1
      refine wpAny_mono (ht2 _ _ _ _ _ _ s15 σ15 H15 _ I15 q15) (λok s16 h16=>?_) λ_ _ z=>z
      obtain ⟨H16,I16,q16⟩:=h16
      cases ok with
      | false=>exact again2 I16 q16
      | true =>
       refine wpAny_mono (he _ _ _ _ _ _ s16 σ15 H16 _ I16 q16) (λy s17 h17=>?_) λ_ _ z=>z
       obtain ⟨vy,H17,I17,r17,ys,hys,hz,nx⟩:=h17
       refine wpAny_mono (zkr (X:=cxC X N' scope h3.objs.size { s2 with heap:=h3 } H3 fp pins) _ s17 σ15 H17 (.ref D) [vy] (.ref D) [y] (λ_ H'=>N2 σ15 H') I17 rfl (.cons r17 .nil) ⟨D,ys,vy,rfl,rfl,hys,hz,nx⟩) (λ_ s18 h18=>?_) λ_ _ z=>z
       obtain ⟨_,H18,I18,_,n18⟩:=h18
       exact again2 I18 n18
    exact ydi inner (T2.self _ 0 _ _ _ st11 inner)
 exact codeAny_compStart_list loop (T.self _ 0 _ _ _ st4 loop)
theorem zqr {X:Cx}{N':List Str}{elt iter tgt iter2 tgt2:Expr}{ifs ifs2:List Expr}{scope:Scope}{pos:Pos}{wi wi2:TI}{src:St->St}{g g2:TG}{tts tts2:TT}{t:TE}(hcalm:X.calm=true) (sc:CompSc X N' scope src)
  (hi:PI X tgt iter wi) (hg:∀C s H fp pins,PG (cxC X N' scope C s H fp pins) tgt g) (ht:∀C s H fp pins,PTs (cxC X N' scope C s H fp pins) ifs tts) (he:∀C s H fp pins,PE (cxC X N' scope C s H fp pins) elt t)
  (hi2:∀C s H fp pins,PI (cxC X N' scope C s H fp pins) tgt2 iter2 wi2) (hg2:∀C s H fp pins,PG (cxC X N' scope C s H fp pins) tgt2 g2) (ht2:∀C s H fp pins,PTs (cxC X N' scope C s H fp pins) ifs2 tts2)
  (hs:∀x,foldedSetIterable iter X.env x=pure x) (hs2:∀C s H fp pins x,foldedSetIterable iter2 (cxC X N' scope C s H fp pins).env x=pure x) :
  PE X (.ListComp elt [⟨tgt,iter,ifs,0⟩,⟨tgt2,iter2,ifs2,0⟩] scope pos) (zjm X.K wi src g tts wi2 g2 tts2 t):=by
 intro pins s σ H Q I h
 rw [eval_ListComp]
 refine ydl (use:=none) hcalm sc hi hg ht he hi2 hg2 ht2 hs hs2 I h λD H5 s6 C mC IX fp hn q=>⟨mC,hn,λh'' sb=>⟨.ref D,H5,?_,rfl,q⟩⟩
 exact IX.turned (t':=s6.toks) (λb o hb e=>sb.extBut b o hb e) fp.1 fp.2.1 fp.2.2.2.1 fp.2.2.2.2.1 fp.2.2.2.2.2
abbrev RM:=Lo->Sto->Option ((Int × Nat) × Sto)
inductive tr (K:QFg) (r:RM) (σ:St) (H:Hp) (R:It->Hp->Prop):Prop
 | mk (ρ:_) (l:_) (S:_) (lo:_) (n:_) (S':_) (_:Sim K ρ S H) (_:RO ρ H l σ) (_:r l S=some ((lo,n),S')) (_:∀ρ' H',Ext ρ H ρ' H'->Sim K ρ' S' H'->R (Itr lo n) H')
def PR3 (X:Cx) (tgt iter:Expr) (r:RM):Prop:=PI X tgt iter (tr X.K r)
section
theorem ydm (hgl:Gl X "range") (hmg:X.mg "range" = none) (ha:PA3 X [a,a2] mA) (hst:starEach [a,a2] X.env=[(false,eval a X.env),(false,eval a2 X.env)]:=by rfl) (hst2:starEach [a2] X.env=[(false,eval a2 X.env)]:=by rfl):PR3 X tgt (.Call (.Name "range" p0) [a,a2] [] pos') (zgb mA) :=
 PI.imp (zv7 hgl hmg ha hst hst2) λσ H R hx2_=>by
  obtain ⟨ρ,l,S,lo,n,S',sim,ro,q1,p⟩:=hx2_
  obtain ⟨⟨xs,S2⟩,q2,q1⟩:=bnd q1
  dsimp only at q1
  split at q1
  ·rename_i i0 j
   obtain ⟨hz,e⟩:=za1 q1
   cases e
   refine ⟨ρ,l,S,[.int lo,.int j],_,sim,ro,q2,λρ1 H1 vs e1 s1 r1=>?_⟩
   obtain ⟨v,u,rfl,rv,ru⟩:=r1.two
   cases rv;cases ru
   exact ⟨lo,j,rfl,hz,p ρ1 H1 e1 s1⟩
  ·cases q1
end
noncomputable def zb6 (xs:List D) (g:GM) (t:TM) (e:EM):Nat->Nat->Lo->Sto->Option (List D × Lo × Sto)
 | 0,_,_,_=>none
 | k+1,i,l,S=>match xs[i]? with
  | none=>some ([],l,S)
  | some x=>(g x l S).bind λp=>(t p.1 p.2).bind λq=>if q.1=true then (e p.1 q.2).bind λr=>(zb6 xs g t e k (i+1) p.1 r.2).bind λz=>some (r.1 :: z.1,z.2) else zb6 xs g t e k (i+1) p.1 q.2
noncomputable def zda (it:ItM) (g:GM) (t:TM) (r:RM) (g2:GM) (t2:TM) (e:EM):Nat->Nat->Lo->Sto->Option (List D × Sto)
 | 0,_,_,_=>none
 | k+1,i,l,S=>(it i S).bind λo=>match o with
  | none=>some ([],S)
  | some x=>(g x l S).bind λp=>(t p.1 p.2).bind λq=>if q.1=true then (r p.1 q.2).bind λy=>(zb6 (zas y.1.1 y.1.2) g2 t2 e (y.1.2+1) 0 p.1 y.2).bind λu=>(zda it g t r g2 t2 e k (i+1) u.2.1 u.2.2).bind λz=>some (u.1++z.1,z.2) else zda it g t r g2 t2 e k (i+1) p.1 q.2
noncomputable def zjn (im:IM) (ixs:List (Option Nat)) (g:GM) (t:TM) (r:RM) (g2:GM) (t2:TM) (e:EM):EM:=λl S=>(im l S).bind λp=>(zda p.1 g t r g2 t2 e p.2.1 0 (za5 ixs l) p.2.2).bind λz=>if z.1.length<=sizeLine then some (.ref z.2.length,z.2++[.lst z.1]) else none
inductive CI2 (K:QFg) (it:ItM) (g:GM) (t:TM) (r:RM) (g2:GM) (t2:TM) (e:EM) (S2:Sto) (all:List D) (ρ1:List Addr) (H1:Hp) (Da:Addr) (i m:Nat) (σ':St) (H':Hp):Prop
 | mk (ρ':List Addr) (l':Lo) (S':Sto) (ds:List D) (vs:List V) (rest:List D) (_:Ext ρ1 H1 ρ' H') (_:Sim K ρ' S' H') (_:RO ρ' H' l' σ') (_:H' Da=some (.lst vs)) (_:(∀n:Nat,ρ'[n]?≠some Da)) (_:RDs ρ' H' ds vs) (_:zda it g t r g2 t2 e m i l' S' = some (rest,S2)) (_:ds++rest=all)
inductive CI2i (K:QFg) (lo:Int) (n:Nat) (g2:GM) (t2:TM) (e:EM) (l6:Lo) (S6:Sto) (rest' all:List D) (ρ1:List Addr) (H1:Hp) (Da:Addr) (i m:Nat) (σ':St) (H':Hp):Prop
 | mk (ρ':List Addr) (l':Lo) (S':Sto) (ds:List D) (vs:List V) (rest2:List D) (_:Ext ρ1 H1 ρ' H') (_:Sim K ρ' S' H') (_:RO ρ' H' l' σ') (_:H' Da=some (.lst vs)) (_:(∀n:Nat,ρ'[n]?≠some Da)) (_:RDs ρ' H' ds vs) (_:zb6 (zas lo n) g2 t2 e m i l' S' = some (rest2,l6,S6)) (_:ds++rest2++rest' = all)
theorem ydn {K:QFg}{im:IM}{ixs:List (Option Nat)}{g g2:GM}{t t2:TM}{r:RM}{e:EM}(σ:St) (H:Hp) (Q:VK) (q:te K (zjn im ixs g t r g2 t2 e) σ H Q):zjm K (ti K im) (za5 ixs) (tg K g) (tt K t) (tr K r) (tg K g2) (tt K t2) (te K e) σ H Q:=by
 obtain ⟨ρ,l,S,v,S',sim,ro,hm,p⟩:=q
 obtain ⟨⟨it,k,S1⟩,q1,hm⟩:=bnd hm
 obtain ⟨⟨all,S2⟩,q2,hm⟩:=bnd hm
 obtain ⟨hz,he⟩:=za1 hm
 cases he
 refine ⟨ρ,l,S,it,k,S1,sim,ro,q1,λρ1 H1 J e1 s1 io D hD hK=>?_⟩
 dsimp only at q2 hz p
 refine ⟨λi m σ' H'=>CI2 K it g t r g2 t2 e S2 all ρ1 H1 D i m σ' H',⟨k,?_⟩,?_⟩
 ·exact ⟨ρ1,za5 ixs l,S1,[],[],all,zbx hD,s1.laid hD,(zi9 ixs (ro.mono e1)).mono (zbx hD),zbo,s1.notin hD hK,.nil,q2,rfl⟩
 ·rintro i m σ' H' ⟨ρ',l',S',ds,vs,rest,e2,s2,ro2,hD2,hn2,rd2,hc,hall⟩
  cases m with
  | zero=>cases hc
  | succ m =>
   unfold zda at hc
   obtain ⟨o,ho,hc⟩:=bnd hc
   obtain ⟨iStop,iGo⟩:=io i ρ' S' H' e2 s2
   cases o with
   | none =>
    cases hc
    rw [List.append_nil] at hall
    subst hall
    refine .inl ⟨iStop ho,p (ρ'++[D]) H' (.ref D) (e1.trans (e2.adopt hD)) (s2.adopt hD2 hn2 rd2) (.ref ?_)⟩
    rw [<-s2.len];exact zd2 ρ' D
   | some x =>
    obtain ⟨⟨l3,S3⟩,q3,hc⟩:=bnd hc
    obtain ⟨⟨b,S4⟩,q4,hc⟩:=bnd hc
    obtain ⟨hgo,hy⟩:=iGo x ho
    refine .inr ⟨hgo,_,λσ' H' h=>h,λy H'' hyl=>?_⟩
    obtain ⟨rfl,ry⟩:=hy y H'' hyl
    refine ⟨ρ',l',S',x,l3,S3,s2,ro2,ry,q3,λρ3 H3 σ3 e3 s3 ro3=>⟨ρ3,l3,S3,b,S4,s3,ro3,q4,λρ4 H4 e4 s4=>?_⟩⟩
    obtain ⟨hD3,hn3⟩:=e3.out D _ hD2 hn2
    obtain ⟨hD4,hn4⟩:=e4.out D _ hD3 hn3
    cases b with
    | false=>exact zc1 ⟨m,Nat.lt_succ_self m,ρ4,l3,S4,ds,vs,rest,e2.trans (e3.trans e4),s4,ro3.mono e4,hD4,hn4,rd2.mono (e3.trans e4),hc,hall⟩
    | true =>
     have hc:((r l3 S4).bind λy=>(zb6 (zas y.1.1 y.1.2) g2 t2 e (y.1.2+1) 0 l3 y.2).bind λu=>(zda it g t r g2 t2 e m (i+1) u.2.1 u.2.2).bind λz=>some (u.1++z.1,z.2))=some (rest,S2):=hc
     obtain ⟨⟨⟨lo,n⟩,S5⟩,q5,hc⟩:=bnd hc
     obtain ⟨⟨r1,l6,S6⟩,q6,hc⟩:=bnd hc
     obtain ⟨⟨rest',S7⟩,q7,hc⟩:=bnd hc
     cases hc
     dsimp only at q6 q7
     refine zc2 ⟨ρ4,l3,S4,lo,n,S5,s4,ro3.mono e4,q5,λρ5 H5 e5 s5=>?_⟩
     obtain ⟨hD5,hn5⟩:=e5.out D _ hD4 hn4
     refine ⟨λj m2 σ' H'=>CI2i K lo n g2 t2 e l6 S6 rest' all ρ1 H1 D j m2 σ' H',⟨n+1,?_⟩,?_⟩
     ·exact ⟨ρ5,l3,S5,ds,vs,r1,e2.trans (e3.trans (e4.trans e5)),s5,(ro3.mono e4).mono e5,hD5,hn5,rd2.mono (e3.trans (e4.trans e5)),q6,by rw [<-hall,List.append_assoc]⟩
     ·rintro j m2 σ6 H6 ⟨ρ6,l7,S8,ds6,vs6,rest6,e6,s6,ro6,hD6,hn6,rd6,hc6,hall6⟩
      cases m2 with
      | zero=>cases hc6
      | succ m2 =>
       unfold zb6 at hc6
       cases hx:(zas lo n)[j]? with
       | none =>
        rw [hx] at hc6
        cases hc6
        have hj:n<=j:=by
         have:=List.getElem?_eq_none_iff.mp hx
         simpa [zas] using this
        rw [List.append_nil] at hall6
        exact .inl ⟨hj,m,Nat.lt_succ_self m,ρ6,l6,S6,ds6,vs6,rest',e6,s6,ro6,hD6,hn6,rd6,q7,hall6⟩
       | some y =>
        rw [hx] at hc6
        obtain ⟨hj,hy⟩:j<n/\y=.int (lo+j):=by
         have hl:=(qme hx).1
         simp only [zas,qlm,List.length_range] at hl
         unfold zas at hx
         rw [qgm,List.getElem?_range hl] at hx
         cases hx
         exact ⟨hl,rfl⟩
        subst hy
        obtain ⟨⟨l9,S9⟩,q9,hc6⟩:=bnd hc6
        obtain ⟨⟨b9,S10⟩,q10,hc6⟩:=bnd hc6
        refine .inr ⟨hj,_,λσ' H' h=>h,λz H'' ⟨hz1,hz2⟩=>?_⟩
        subst hz1
        rw [hz2]
        refine ⟨ρ6,l7,S8,_,l9,S9,s6,ro6,.int _,q9,λρ7 H7 σ7 e7 s7 ro7=>⟨ρ7,l9,S9,b9,S10,s7,ro7,q10,λρ8 H8 e8 s8=>?_⟩⟩
        obtain ⟨hD7,hn7⟩:=e7.out D _ hD6 hn6
        obtain ⟨hD8,hn8⟩:=e8.out D _ hD7 hn7
        cases b9 with
        | false=>exact zc1 ⟨m2,Nat.lt_succ_self m2,ρ8,l9,S10,ds6,vs6,rest6,e6.trans (e7.trans e8),s8,ro7.mono e8,hD8,hn8,rd6.mono (e7.trans e8),hc6,hall6⟩
        | true =>
         have hc6:((e l9 S10).bind λr=>(zb6 (zas lo n) g2 t2 e m2 (j+1) l9 r.2).bind λz=>some (r.1 :: z.1,z.2))=some (rest6,l6,S6):=hc6
         obtain ⟨⟨y5,S11⟩,q11,hc6⟩:=bnd hc6
         obtain ⟨⟨rest7,l12,S12⟩,q12,hc6⟩:=bnd hc6
         cases hc6
         refine zc2 ⟨ρ8,l9,S10,y5,S11,s8,ro7.mono e8,q11,λρ9 H9 v9 e9 s9 r9=>?_⟩
         obtain ⟨hD9,hn9⟩:=e9.out D _ hD8 hn8
         have e69:=e6.trans (e7.trans (e8.trans e9))
         have rd9:=rd6.mono (e7.trans (e8.trans e9))
         have hlen:vs6.length<sizeLine:=by
          have h1:=rd9.length
          have h2:=congrArg List.length hall6
          rw [qla,qla,List.length_cons] at h2
          omega
         refine ⟨vs6,hD9,hlen,m2,Nat.lt_succ_self m2,ρ9,l9,S11,ds6++[y5],vs6++[v9],rest7,e69.beside hD hD9,s9.beside hD9 hn9,?_,zbo,hn9,((rd9.append (.cons r9 .nil)).mono0 (zd1 hD9)),q12,by rw [<-hall6];simp⟩
         have r0:=(ro7.mono e8).mono e9
         exact ⟨r0.len,λi d h=>let ⟨w,h1,h2⟩:=r0.get i d h;⟨w,h1,h2.mono0 (zd1 hD9)⟩⟩
theorem ydo {X:Cx}{N':List Str}{elt iter tgt iter2 tgt2:Expr}{ifs ifs2:List Expr}{scope:Scope}{pos:Pos}{im:IM}{ixs:List (Option Nat)}{g g2:GM}{t t2:TM}{r:RM}{e:EM}(hcalm:X.calm=true) (sc:CompSc X N' scope (za5 ixs))
  (hi:PI3 X tgt iter im) (hg:∀C s H fp pins,PG3 (cxC X N' scope C s H fp pins) tgt g) (ht:∀C s H fp pins,PTs (cxC X N' scope C s H fp pins) ifs (tt X.K t))
  (hi2:∀C s H fp pins,PR3 (cxC X N' scope C s H fp pins) tgt2 iter2 r) (hg2:∀C s H fp pins,PG3 (cxC X N' scope C s H fp pins) tgt2 g2) (ht2:∀C s H fp pins,PTs (cxC X N' scope C s H fp pins) ifs2 (tt X.K t2))
  (he:∀C s H fp pins,PE3 (cxC X N' scope C s H fp pins) elt e)
  (hs:∀x,foldedSetIterable iter X.env x=pure x:=by intro _;rfl) (hs2:∀C s H fp pins x,foldedSetIterable iter2 (cxC X N' scope C s H fp pins).env x=pure x:=by intro _ _ _ _ _ _;rfl) :
  PE3 X (.ListComp elt [⟨tgt,iter,ifs,0⟩,⟨tgt2,iter2,ifs2,0⟩] scope pos) (zjn im ixs g t r g2 t2 e) :=
 PE.imp (zqr (g:=tg X.K g) (g2:=tg X.K g2) (tts:=tt X.K t) (tts2:=tt X.K t2) (t:=te X.K e) hcalm sc hi hg ht he (wi2:=tr X.K r) hi2 hg2 ht2 hs hs2) ydn
section
variable {prog:Program}{w:World}{A:Around}{E:Value->Shared->Prop}{s:Shared}
variable {z TI TO i1 i2 c1 c2:Addr}{n1 n2 k:Nat}{P1 P2:Nat->Value->Prop}{T1 T2:Nat->Heap->Prop}{a b:Value}
end
section
variable {prog:Program}{w:World}{A:Around}{E:Value->Shared->Prop}{s:Shared}
variable {z TI TO i1 i2 c1 c2:Addr}{n1 n2 k:Nat}{P1 P2:Nat->Value->Prop}{T1 T2:Nat->Heap->Prop}{a b:Value}
end
section
end
section
variable {P:Program}{w:World}{K:QFg}{tg:Expr}
end
section
variable {X:Cx}{tg l:Expr}{tl:TE}{m:EM}
end
section
end
open PySem.Builtin PySem.Builtin.Str
section
variable {id:String}{f:D->List D->Sto->Option (D × Sto)}{r:V->List V->Hp->VK->Prop}
end
section
end
inductive tq (K:QFg) (m:EM) (σ:St) (H:Hp) (R:It->Hp->Prop):Prop
 | mk (ρ:_) (l:_) (S:_) (xs:_) (S':_) (_:Sim K ρ S H) (_:RO ρ H l σ) (_:m l S=some (.tup xs,S')) (_:∀ρ' H' a vs,Ext ρ H ρ' H'->Sim K ρ' S' H'->H' a=some (.tup vs)->RDs ρ' H' xs vs->R (Itt K a) H')
def PQ3 (X:Cx) (tgt iter:Expr) (m:EM):Prop:=PI X tgt iter (tq X.K m)
theorem ydp {X:Cx}{tgt iter:Expr}{m:EM}(hi:PE3 X iter m):PQ3 X tgt iter m:=PI.imp (zkh hi) λσ H R hx1_=>by
 obtain ⟨ρ,l,S,xs,S',sim,ro,q1,p⟩:=hx1_
 refine ⟨ρ,l,S,.tup xs,S',sim,ro,q1,λρ1 H1 x' e1 s1 r1=>?_⟩
 cases r1 with
 | @tup xs a vs ha r=>exact ⟨a,rfl,⟨vs,SqT.of ha⟩,p ρ1 H1 a vs e1 s1 ha r⟩
noncomputable def zdb (it:ItM) (g:GM) (t:TM) (r:EM) (g2:GM) (t2:TM) (e:EM):Nat->Nat->Lo->Sto->Option (List D × Sto)
 | 0,_,_,_=>none
 | k+1,i,l,S=>(it i S).bind λo=>match o with
  | none=>some ([],S)
  | some x=>(g x l S).bind λp=>(t p.1 p.2).bind λq=>if q.1=true then (r p.1 q.2).bind λy=>match y.1 with
   | .tup xs=>(zb6 xs g2 t2 e (xs.length+1) 0 p.1 y.2).bind λu=>(zdb it g t r g2 t2 e k (i+1) u.2.1 u.2.2).bind λz=>some (u.1++z.1,z.2)
   | _=>none
   else zdb it g t r g2 t2 e k (i+1) p.1 q.2
noncomputable def zh4 (im:IM) (ixs:List (Option Nat)) (g:GM) (t:TM) (r:EM) (g2:GM) (t2:TM) (e:EM):EM:=λl S=>(im l S).bind λp=>(zdb p.1 g t r g2 t2 e p.2.1 0 (za5 ixs l) p.2.2).bind λz=>if z.1.length<=sizeLine then some (.ref z.2.length,z.2++[.lst z.1]) else none
inductive CIT2 (K:QFg) (it:ItM) (g:GM) (t:TM) (r:EM) (g2:GM) (t2:TM) (e:EM) (S2:Sto) (all:List D) (ρ1:List Addr) (H1:Hp) (Da:Addr) (i m:Nat) (σ':St) (H':Hp):Prop
 | mk (ρ':List Addr) (l':Lo) (S':Sto) (ds:List D) (vs:List V) (rest:List D) (_:Ext ρ1 H1 ρ' H') (_:Sim K ρ' S' H') (_:RO ρ' H' l' σ') (_:H' Da=some (.lst vs)) (_:(∀n:Nat,ρ'[n]?≠some Da)) (_:RDs ρ' H' ds vs) (_:zdb it g t r g2 t2 e m i l' S' = some (rest,S2)) (_:ds++rest=all)
inductive CITi (K:QFg) (xs:List D) (ys:List V) (a:Addr) (g2:GM) (t2:TM) (e:EM) (l6:Lo) (S6:Sto) (rest' all:List D) (ρ1:List Addr) (H1:Hp) (Da:Addr) (i m:Nat) (σ':St) (H':Hp):Prop
 | mk (ρ':List Addr) (l':Lo) (S':Sto) (ds:List D) (vs:List V) (rest2:List D) (_:Ext ρ1 H1 ρ' H') (_:H' a=some (.tup ys)) (_:RDs ρ' H' xs ys) (_:Sim K ρ' S' H') (_:RO ρ' H' l' σ') (_:H' Da=some (.lst vs)) (_:(∀n:Nat,ρ'[n]?≠some Da)) (_:RDs ρ' H' ds vs) (_:zb6 xs g2 t2 e m i l' S' = some (rest2,l6,S6)) (_:ds++rest2++rest' = all)
theorem ydq {K:QFg}{im:IM}{ixs:List (Option Nat)}{g g2:GM}{t t2:TM}{r:EM}{e:EM}(σ:St) (H:Hp) (Q:VK) (q:te K (zh4 im ixs g t r g2 t2 e) σ H Q):zjm K (ti K im) (za5 ixs) (tg K g) (tt K t) (tq K r) (tg K g2) (tt K t2) (te K e) σ H Q:=by
 obtain ⟨ρ,l,S,v,S',sim,ro,hm,p⟩:=q
 obtain ⟨⟨it,k,S1⟩,q1,hm⟩:=bnd hm
 obtain ⟨⟨all,S2⟩,q2,hm⟩:=bnd hm
 obtain ⟨hz,he⟩:=za1 hm
 cases he
 refine ⟨ρ,l,S,it,k,S1,sim,ro,q1,λρ1 H1 J e1 s1 io D hD hK=>?_⟩
 dsimp only at q2 hz p
 refine ⟨λi m σ' H'=>CIT2 K it g t r g2 t2 e S2 all ρ1 H1 D i m σ' H',⟨k,?_⟩,?_⟩
 ·exact ⟨ρ1,za5 ixs l,S1,[],[],all,zbx hD,s1.laid hD,(zi9 ixs (ro.mono e1)).mono (zbx hD),zbo,s1.notin hD hK,.nil,q2,rfl⟩
 ·rintro i m σ' H' ⟨ρ',l',S',ds,vs,rest,e2,s2,ro2,hD2,hn2,rd2,hc,hall⟩
  cases m with
  | zero=>cases hc
  | succ m =>
   unfold zdb at hc
   obtain ⟨o,ho,hc⟩:=bnd hc
   obtain ⟨iStop,iGo⟩:=io i ρ' S' H' e2 s2
   cases o with
   | none =>
    cases hc
    rw [List.append_nil] at hall
    subst hall
    refine .inl ⟨iStop ho,p (ρ'++[D]) H' (.ref D) (e1.trans (e2.adopt hD)) (s2.adopt hD2 hn2 rd2) (.ref ?_)⟩
    rw [<-s2.len];exact zd2 ρ' D
   | some x =>
    obtain ⟨⟨l3,S3⟩,q3,hc⟩:=bnd hc
    obtain ⟨⟨b,S4⟩,q4,hc⟩:=bnd hc
    obtain ⟨hgo,hy⟩:=iGo x ho
    refine .inr ⟨hgo,_,λσ' H' h=>h,λy H'' hyl=>?_⟩
    obtain ⟨rfl,ry⟩:=hy y H'' hyl
    refine ⟨ρ',l',S',x,l3,S3,s2,ro2,ry,q3,λρ3 H3 σ3 e3 s3 ro3=>⟨ρ3,l3,S3,b,S4,s3,ro3,q4,λρ4 H4 e4 s4=>?_⟩⟩
    obtain ⟨hD3,hn3⟩:=e3.out D _ hD2 hn2
    obtain ⟨hD4,hn4⟩:=e4.out D _ hD3 hn3
    cases b with
    | false=>exact zc1 ⟨m,Nat.lt_succ_self m,ρ4,l3,S4,ds,vs,rest,e2.trans (e3.trans e4),s4,ro3.mono e4,hD4,hn4,rd2.mono (e3.trans e4),hc,hall⟩
    | true =>
     have hc:((r l3 S4).bind λy=>match y.1 with
      | .tup xs=>(zb6 xs g2 t2 e (xs.length+1) 0 l3 y.2).bind λu=>(zdb it g t r g2 t2 e m (i+1) u.2.1 u.2.2).bind λz=>some (u.1++z.1,z.2)
      | _=>none)=some (rest,S2):=hc
     obtain ⟨⟨dx,S5⟩,q5,hc⟩:=bnd hc
     obtain ⟨xs,rfl⟩:∃xs,dx=.tup xs:=by
      cases dx with
      | tup xs=>exact ⟨xs,rfl⟩
      | _=>cases hc
     obtain ⟨⟨r1,l6,S6⟩,q6,hc⟩:=bnd hc
     obtain ⟨⟨rest',S7⟩,q7,hc⟩:=bnd hc
     cases hc
     dsimp only at q6 q7
     refine zc2 ⟨ρ4,l3,S4,xs,S5,s4,ro3.mono e4,q5,λρ5 H5 a ys e5 s5 ha5 rx5=>?_⟩
     obtain ⟨hD5,hn5⟩:=e5.out D _ hD4 hn4
     refine ⟨λj m2 σ' H'=>CITi K xs ys a g2 t2 e l6 S6 rest' all ρ1 H1 D j m2 σ' H',⟨xs.length+1,?_⟩,?_⟩
     ·exact ⟨ρ5,l3,S5,ds,vs,r1,e2.trans (e3.trans (e4.trans e5)),ha5,rx5,s5,(ro3.mono e4).mono e5,hD5,hn5,rd2.mono (e3.trans (e4.trans e5)),q6,by rw [<-hall,List.append_assoc]⟩
     ·rintro j m2 σ6 H6 ⟨ρ6,l7,S8,ds6,vs6,rest6,e6,ha6,rx6,s6,ro6,hD6,hn6,rd6,hc6,hall6⟩
      cases m2 with
      | zero=>cases hc6
      | succ m2 =>
       unfold zb6 at hc6
       cases hx:xs[j]? with
       | none =>
        rw [hx] at hc6
        cases hc6
        have hj:=List.getElem?_eq_none_iff.mp hx
        have hl6:=rx6.length
        rw [List.append_nil] at hall6
        exact .inl ⟨⟨ys,SqT.of ha6,by omega⟩,m,Nat.lt_succ_self m,ρ6,l6,S6,ds6,vs6,rest',e6,s6,ro6,hD6,hn6,rd6,q7,hall6⟩
       | some y =>
        rw [hx] at hc6
        obtain ⟨vy,hvy,rvy⟩:=rx6.get hx
        obtain ⟨⟨l9,S9⟩,q9,hc6⟩:=bnd hc6
        obtain ⟨⟨b9,S10⟩,q10,hc6⟩:=bnd hc6
        refine .inr ⟨⟨ys,vy,SqT.of ha6,hvy⟩,_,λσ' H' h=>h,λz H'' ⟨hz1,hz2⟩=>?_⟩
        subst hz1
        have hz2:=hz2 ys (SqT.of ha6)
        rw [hvy] at hz2
        cases hz2
        refine ⟨ρ6,l7,S8,_,l9,S9,s6,ro6,rvy,q9,λρ7 H7 σ7 e7 s7 ro7=>⟨ρ7,l9,S9,b9,S10,s7,ro7,q10,λρ8 H8 e8 s8=>?_⟩⟩
        obtain ⟨hD7,hn7⟩:=e7.out D _ hD6 hn6
        obtain ⟨hD8,hn8⟩:=e8.out D _ hD7 hn7
        cases b9 with
        | false=>exact zc1 ⟨m2,Nat.lt_succ_self m2,ρ8,l9,S10,ds6,vs6,rest6,e6.trans (e7.trans e8),e8.tup _ _ (e7.tup _ _ ha6),rx6.mono (e7.trans e8),s8,ro7.mono e8,hD8,hn8,rd6.mono (e7.trans e8),hc6,hall6⟩
        | true =>
         have hc6:((e l9 S10).bind λr=>(zb6 xs g2 t2 e m2 (j+1) l9 r.2).bind λz=>some (r.1 :: z.1,z.2))=some (rest6,l6,S6):=hc6
         obtain ⟨⟨y5,S11⟩,q11,hc6⟩:=bnd hc6
         obtain ⟨⟨rest7,l12,S12⟩,q12,hc6⟩:=bnd hc6
         cases hc6
         refine zc2 ⟨ρ8,l9,S10,y5,S11,s8,ro7.mono e8,q11,λρ9 H9 v9 e9 s9 r9=>?_⟩
         obtain ⟨hD9,hn9⟩:=e9.out D _ hD8 hn8
         have e69:=e6.trans (e7.trans (e8.trans e9))
         have rd9:=rd6.mono (e7.trans (e8.trans e9))
         have hlen:vs6.length<sizeLine:=by
          have h1:=rd9.length
          have h2:=congrArg List.length hall6
          rw [qla,qla,List.length_cons] at h2
          omega
         refine ⟨vs6,hD9,hlen,m2,Nat.lt_succ_self m2,ρ9,l9,S11,ds6++[y5],vs6++[v9],rest7,e69.beside hD hD9,(zd1 (ρ:=ρ9) hD9).tup _ _ (e9.tup _ _ (e8.tup _ _ (e7.tup _ _ ha6))),(rx6.mono (e7.trans (e8.trans e9))).mono0 (zd1 hD9),s9.beside hD9 hn9,?_,zbo,hn9,((rd9.append (.cons r9 .nil)).mono0 (zd1 hD9)),q12,by rw [<-hall6];simp⟩
         have r0:=(ro7.mono e8).mono e9
         exact ⟨r0.len,λi d h=>let ⟨w,h1,h2⟩:=r0.get i d h;⟨w,h1,h2.mono0 (zd1 hD9)⟩⟩
theorem ydr {X:Cx}{N':List Str}{elt iter tgt iter2 tgt2:Expr}{ifs ifs2:List Expr}{scope:Scope}{pos:Pos}{im:IM}{ixs:List (Option Nat)}{g g2:GM}{t t2:TM}{r:EM}{e:EM}(hcalm:X.calm=true) (sc:CompSc X N' scope (za5 ixs))
  (hi:PI3 X tgt iter im) (hg:∀C s H fp pins,PG3 (cxC X N' scope C s H fp pins) tgt g) (ht:∀C s H fp pins,PTs (cxC X N' scope C s H fp pins) ifs (tt X.K t))
  (hi2:∀C s H fp pins,PQ3 (cxC X N' scope C s H fp pins) tgt2 iter2 r) (hg2:∀C s H fp pins,PG3 (cxC X N' scope C s H fp pins) tgt2 g2) (ht2:∀C s H fp pins,PTs (cxC X N' scope C s H fp pins) ifs2 (tt X.K t2))
  (he:∀C s H fp pins,PE3 (cxC X N' scope C s H fp pins) elt e)
  (hs:∀x,foldedSetIterable iter X.env x=pure x:=by intro _;rfl) (hs2:∀C s H fp pins x,foldedSetIterable iter2 (cxC X N' scope C s H fp pins).env x=pure x:=by intro _ _ _ _ _ _;rfl) :
  PE3 X (.ListComp elt [⟨tgt,iter,ifs,0⟩,⟨tgt2,iter2,ifs2,0⟩] scope pos) (zh4 im ixs g t r g2 t2 e) :=
 PE.imp (zqr (g:=tg X.K g) (g2:=tg X.K g2) (tts:=tt X.K t) (tts2:=tt X.K t2) (t:=te X.K e) hcalm sc hi hg ht he (wi2:=tq X.K r) hi2 hg2 ht2 hs hs2) ydq
section
end
section
end
noncomputable abbrev ze5 (led:Bool):Obj:={ cls:=.type "set",dict:=none,data:=.set #[] 0 (.fresh 0 0 led) }
section
noncomputable abbrev dis (ns:List Int) (n:Nat):List Int:=firstMet (λi=>ns.getD i 0) n
end
theorem zqs:∀{ns:List Int}{its:List Value},Vals (ns.map V.int) its->IntsAre its ns
 | [],its,r=>by cases r;exact .nil
 | n :: ns,its,r=>by
  cases r with
  | cons p q=>obtain ⟨t,rfl⟩:=p;exact .cons n t (zqs q)
section
variable {X:Cx}{K:QFg}{a:Expr}{es:List Expr}{mA:AM}{pos p:Pos}{k:Nat}
theorem yds:bootBuiltins "set" = some (.type "set"):=by decide +kernel
end
end L3
namespace SP
open PySem PySem.W PyProof.Rows PySem.Calls
section
theorem sorted_lays
  (hc:∀(E:Value->Shared->Prop) (R:List Value->Shared->Prop),(∀h' tk vs,s.heap.objs.size<=h'.objs.size->(∀b o,s.heap.get? b=some o->h'.get? b=some o)->IntsAre vs ns->R vs { s with heap:=h',toks:=tk })->wpAny (model prog w) A.in1 (collect (.ref x)) R E s) (h64:ns.length<64)
  (h:∀h' tk D e out ns',(∀b o,s.heap.get? b=some o->h'.get? b=some o)->s.heap.objs.size<=D->h'.get? D=some (seqObj "list" out e)->IntsAre out.toList ns'->ns'.Perm ns->ns'.Pairwise (·<=·)->Q (.ref D) { s with heap:=h',toks:=tk }) :
  wpAny (model prog w) A (call (.builtin "sorted") [.ref x]) Q E s:=by
 have fits:∀k,k<64->k<=sizeLine:=λk hk=>by rw [sizeLine_eq];lia
 refine call_function_entry kind_sorted plain_sorted entry_sorted (args_sorted1 _) ?_
 unfold Builtin.«sorted»
 refine qwb (m:=checkCount "sorted" 1 1 _) (qwp (qwb (hc _ _ λh' tk vs sz keep t=>?_)))
 have hl:vs.length=ns.length:=by
  clear hc h
  induction t with
  | nil=>rfl
  | cons n t q ih=>simp [ih (by simp at h64;lia)]
 refine qwb (wpAny_newList ?_ (fits _ (by lia)))
 have hD:(h'.push (seqObj "list" vs.toArray 0)).get? h'.objs.size=some (seqObj "list" vs.toArray 0):=Heap.get?_push_size _ rfl
 refine qwb (wpAny_holding (wpAny_call_entry slot_list_sort ⟨_,hD,rfl⟩ entry_list_sort (list_sort_tree (s:={ s with heap:=h'.push (seqObj "list" vs.toArray 0),toks:=tk }) hD t (by lia) λout ns' a1 a2 a3=>⟨_,rfl,?_⟩) (args_list_sort _)))
 refine qwp ⟨_,rfl,?_⟩
 obtain ⟨c,hc2⟩:=sortedHeap_at (out:=out) hD
 refine h _ tk h'.objs.size c out ns' (λb o e=>?_) sz hc2 a1 a2 a3
 have lb:=Heap.lt_size (keep b o e)
 rw [sortedHeap_old (Nat.ne_of_lt lb) (by rw [size_push'];exact Nat.lt_succ_of_lt lb)]
 exact qps _ (keep b o e)
end
end SP
namespace L3
open PySem PySem.Spec PyProof.Rows L2
noncomputable def sortI (ns:List Int):List Int:=ns.mergeSort λa b=>decide (a<=b)
theorem zqt (ns:List Int):(sortI ns).Perm ns:=List.mergeSort_perm ns _
theorem ydt (ns:List Int):(sortI ns).Pairwise (·<=·):=by
 have:=List.pairwise_mergeSort (le:=λa b:Int=>decide (a<=b)) (λa b c h1 h2=>by simp at *;lia) (λa b=>by simp;lia) ns
 exact this.imp λh=>by simpa using h
theorem zqu (h:a.Perm l) (s:a.Pairwise (·<=·)):a=sortI l :=
 List.Perm.eq_of_pairwise (λ_ _ _ _ h1 h2=>Int.le_antisymm h1 h2) s (ydt l) (h.trans (zqt l).symm)
theorem zqv:∀{ns:List Int}{us:List Value},IntsAre us ns->Vals (ns.map V.int) us
 | [],us,h=>by cases h;exact .nil
 | t :: ts,us,h=>by
  cases h with
  | cons x k q=>exact .cons ⟨_,rfl⟩ (zqv q)
theorem zqw:∀ns:List Int,RDs ρ H (ns.map D.int) (ns.map V.int)
 | []=>.nil
 | n :: ns=>.cons (.int n) (zqw ns)
section
variable {X:Cx}{K:QFg}{a:Expr}{es:List Expr}{mA:AM}{pos p:Pos}
end
section
end
open PySem.W
section
end
section
variable {X:Cx}{E:XK}{CA:Str->Addr}{tgt iter:Expr}{body:List Stmt}{g:GM}{b:SM}{rb:ZM}{m:EM}{pos:Pos}
end
def rSetL:List V->Hp->VK->Prop:=λxs H Q=>∃(a:Addr) (ns:List Int),xs=[.ref a]/\H a=some (.lst (ns.map V.int))/\ns.length+1<scanBound/\∀l,H l=none->Q (.ref l) (upd H l (.set (λk=>(dis ns ns.length).any (· == k)) (dis ns ns.length).length))
section
variable {X:Cx}{K:QFg}{a:Expr}{es:List Expr}{mA:AM}{pos p:Pos}{k:Nat}
end
section
variable {X:Cx}{K:QFg}{a:Expr}{es:List Expr}{mA:AM}{pos p:Pos}
end
section
variable {M:Model}{E:Value->Shared->Prop}{env:Env}{outer:List Env}{Q:Unit->Shared->Prop}
end
section
variable {P:Program}{w:World}{K:QFg}{mg:Str->Option Value}{base:Heap}{N:List Str}{qual:Str}{scope:Scope}{f:Addr}{cd:Value}{A:Around}{outer:List Env}{s:Shared}{H:Hp}{E:XK}
end
section
variable {X:Cx}{E:XK}{CA:Str->Addr}{N':List Str}{elt iter tgt:Expr}{ifs:List Expr}{scope:Scope}{pos:Pos}
end
section
end
def TZ (X:Cx) (E:XK) (CA:Str->Addr) (sts:List Stmt) (r:ZM):Prop:=∀(pins:List (Addr × Obj)) (s:Shared) (σ:L2.St) (H:Hp),Inv X pins σ H s->Rz X.K E CA r σ H ->
 wpAny (model X.prog X.w) X.A (execs sts X.env) (λ_ _=>False) (λe s'=>∃H1 s1,Inv X pins σ H1 s1/\CX1 X.prog X.w X.stack H1 s1 E e s') s
section
theorem ydu (i:Nat) (hN:X.N.Nodup) (hxe:∀e s,X.xe e s->False) (hstk:X.stack=X.env :: X.outer) (hfm:X.env.frame=some X.env.locals) (hex:X.ex=[]) (hmh:X.mg hx=some (.ref Dh)) (qD:excIn X.K Dh zc7 "ValueError.__new__" = true)
  (hok:∀c,ok c=true->PySem.W.nsIn X.K mainGlobals c=some (some (.ref (CA c)))/\excIn X.K (CA c) zc7 "ValueError.__new__" = true/\(Value.ref (CA c) :: zeq X.K (CA c)).contains (.ref Dh)=true)
  (hS:∀e,zcx (mk1 X e) (b0 :: suite) mS) (hz:∀E,TZ X E CA body r) (hNorm:zcx X body mN)
  (hi:X.N[i]? = some nm:=by rfl) (hln:X.env.scope.names.lookup nm=some .local:=by rfl) (hgh:Gl X hx:=by rfl) (hd:(hx == ("__debug__":Str))=false:=by decide) :
  PS3 X (.Try body [.ExceptHandler (some (.Name hx np)) (some nm) (b0 :: suite) hpos] [] [] tpos) (zhy i ok mN r mS):=by
 have main:PS X (.Try body [.ExceptHandler (some (.Name hx np)) (some nm) (b0 :: suite) hpos] [] [] tpos) (λD σ H=>ts X.K mN D σ H\/Rz X.K (EH X Dh (ts X.K mS) i D σ) CA r σ H):=by
  intro pins s σ H D I h
  rcases h with h|h
  ·refine wpAny_Try_except (wpAny_mono (hNorm pins s σ H D I h) (λf s1 q=>?_) λe s1 z=>(hxe _ _ z).elim)
   cases f with
   | next=>exact wpAny_execs_nil q
   | _=>exact q
  ·exact wpAny_Try_except (wpAny_mono (hz _ pins s σ H I h) (λ_ _ z=>z.elim) λe s2 ⟨H1,s1,I1,cx⟩=>ycb (tS:=ts X.K mS) hstk hfm hex hgh hmh qD hS hN hi hln hd I1 cx)
 refine PS.imp main λD σ H hx1_=>?_
 obtain ⟨ρ,l,S,f,l',S',sim,ro,hm,pz⟩:=hx1_
 unfold zhy at hm
 cases e1:mN l S with
 | some q =>
  rw [e1] at hm
  cases hm
  exact .inl ⟨ρ,l,S,f,l',S',sim,ro,e1,pz⟩
 | none =>
  rw [e1] at hm
  cases e2:r l S with
  | none=>rw [e2] at hm;cases hm
  | some q =>
   obtain ⟨c,S1⟩:=q
   rw [e2] at hm
   obtain ⟨hc,hm⟩:=zjh hm
   obtain ⟨⟨g,l2,S2⟩,q2,hm⟩:=bnd hm
   obtain ⟨k1,k2,k3⟩:=hok c hc
   refine .inr ⟨ρ,l,S,c,S1,sim,ro,e2,λρ1 H1 ex1 s1=>⟨CA c,rfl,k2,k3,λe he'=>?_⟩⟩
   have ex2:=zku (ρ:=ρ1) (u:=.ext (phi e (CA c))) he'
   have sim2:Sim X.K (ρ1++[e]) (S1++[.exc c]) (upd H1 e (.ext (phi e (CA c)))):=s1.pushG he' ⟨CA c,k1,zbo⟩
   have ro2:=((ro.mono ex1).mono ex2).set i (d:=.ref S1.length) (v:=.ref e) (.ref (by rw [<-s1.len];exact zd2 ρ1 e))
   cases g with
   | nx =>
    cases hm
    exact ⟨ρ1++[e],_,_,.nx,l2,S2,sim2,ro2,q2,λρ' H' σ' e' s' r'=>pz ρ' H' (σ'.set i none) (ex1.trans (ex2.trans e')) s' (RO.unset r' i)⟩
   | _=>cases hm
end
section
variable {X:Cx}{K:QFg}{a b:Expr}{ma mb:EM}{pos:Pos}
end
theorem CompSc.toSd {N':List Str}{scope:Scope}{src:St->St}(h:CompSc X N' scope src):CompSd X N' scope src :=
 ⟨h.kind,h.names,h.free,λy z=>.inl (h.rel y z),λy _ z=>h.nocell _ z rfl,h.len,h.src⟩
section
end
section
variable {K:QFg}{ρ:List Addr}{H H':Hp}{S:Sto}
end
end L3
namespace SK
open PySem PySem.W PyProof.Rows PySem.Calls
section
end
end SK
namespace L3
open PySem PySem.Spec PyProof.Rows L2
section
end
section
end
section
end
section
variable {P:Program}{w:World}{K:QFg}{mg:Str->Option Value}{base:Heap}
end
section
end
section
end
noncomputable def sm (i:Int):Bool:=decide (i.natAbs.log2<1920)
section
end
noncomputable def txU (p:PyData) (S:Sto):Option (D × Sto):=if p.shown.length<=sizeLine then some (.str p.shown,S) else none
section
theorem ydv {K:QFg}{f g:FM}{r r':List V->Hp->VK->Prop}(h:Fn3 K f r) (h':Fn3 K g r'):Fn3 K (λxs S=>match f xs S with|some v=>some v|none=>g xs S) (λxs H Q=>r xs H Q\/r' xs H Q):=by
 intro ρ S H xs vs v S' Q sim rr hm p
 dsimp only at hm
 cases e:f xs S with
 | some w=>rw [e] at hm;cases hm;exact .inl (h ρ S H xs vs _ _ Q sim rr e p)
 | none=>rw [e] at hm;exact .inr (h' ρ S H xs vs _ _ Q sim rr hm p)
end
open PySem.W
section
end
section
end
section
mutual
theorem RD.tupm (e:∀a vs,H a=some (.tup vs)->H' a=some (.tup vs)):∀{d:D}{v:V},RD ρ H d v->RD ρ H' d v
 | _,_,.non=>.non
 | _,_,.bl b=>.bl b
 | _,_,.int i=>.int i
 | _,_,.str x=>.str x
 | _,_,.tup h r=>.tup (e _ _ h) (RDs.tupm e r)
 | _,_,.ref h=>.ref h
 | _,_,.fn a=>.fn a
theorem RDs.tupm (e:∀a vs,H a=some (.tup vs)->H' a=some (.tup vs)):∀{d:List D}{v:List V},RDs ρ H d v->RDs ρ H' d v
 | _,_,.nil=>.nil
 | _,_,.cons r q=>.cons (RD.tupm e r) (RDs.tupm e q)
end
end
section
variable {K:QFg}{ρ:List Addr}{H H':Hp}{S:Sto}
end
section
end
section
end
section
end
section
end
section
end
section
end
section
variable {P:Program}{w:World}{K:QFg}{mg:Str->Option Value}{base:Heap}{CA:Str->Addr}{j k n:Nat}{f0:Str}{rx:ZF}{tb:List (Str × Nat × ZF)}
end
section
end
section
end
section
theorem ydw (h1:s.heap.get? t=some o) (h2:o.cls=.type "tuple") (h3:o.data=.seq #[u,.ref a] n) (hp:Reads s.heap u p as) (hps:p.showable=true) (hpd:p.hasDict=false)
  (g1:s.heap.get? a=some oa) (g2:oa.cls=.type "list") (g3:oa.data=.seq l.toArray na) (hl:ReadsAll s.heap l xs bs) (hls:PyData.showableAll xs=true) (hsm:sysModules ∉ bs)
  (hg:A.guards=some []) (hu:A.units+(p.depth+PyData.depthAll xs+5)<cLine)
  (hQ:∀h' u tk,(∀b o,s.heap.get? b=some o->h'.get? b=some o)->Q (.str (PyData.tuple [p,.list xs]).shown u) { s with heap:=h',toks:=tk })
  (hsz:(PyData.tuple [p,.list xs]).shown.length<=sizeLine):wpAny (model prog w) A (call (.builtin "repr") [.ref t]) Q E s:=by
 have hl':ReadsAll s.heap l.toArray.toList xs bs:=by simpa using hl
 have sh:(PyData.tuple [p,.list xs]).shown=tupleText [p.shown,listText (PyData.shownAll xs)]:=by simp only [PyData.shown,PyData.shownAll]
 rw [sh] at hsz
 have z1:p.shown.length<=sizeLine:=Nat.le_trans (tupleText_mem_le (by simp)) hsz
 have z2:(listText (PyData.shownAll xs)).length<=sizeLine:=Nat.le_trans (tupleText_mem_le (by simp)) hsz
 have rl:Reads s.heap (.ref a) (.list xs) (a :: bs):=.list g1 g2 g3 hl'
 have rt:Reads s.heap (.ref t) (.tuple [p,.list xs]) _:=.tuple h1 h2 h3 (.cons hp (.cons rl .nil))
 obtain ⟨cs,c1,c2⟩:=ReprK.of_reads (prog:=prog) (w:=w) hp hps (λe=>by rw [hpd] at e;cases e) z1
 obtain ⟨ds,d1,d2⟩:=ReprAllK.of_readsAll (prog:=prog) (w:=w) hl' hls (λ_=>hsm) λt ht=>Nat.le_trans (listText_mem_le ht) z2
 have na':a ∉ ds:=not_mem_of_deeper rl (by simp only [PyData.depth];lia) d1
 have kl:ReprK prog w (a :: ds) s.heap (PyData.depthAll xs+1) (.ref a) (listText (PyData.shownAll xs)):=by
  cases l with
  | nil =>
   cases hl
   have:=ReprK.listEmpty (prog:=prog) (w:=w) (as:=a :: ds) (d:=PyData.depthAll []+1) g1 g2 g3
   simpa only [PyData.shownAll,listText_nil] using this
  | cons x l =>
   exact ReprK.list g1 g2 g3 na' (by simpa using d2.length_eq) λi y e=>d2.item i y (by simpa using e)
 have dd:(PyData.list xs).depth=PyData.depthAll xs+1:=by simp only [PyData.depth]
 have nt:t ∉ cs++a :: ds:=by
  intro z
  obtain ⟨dq,aq,rq,le⟩:∃dq aq,Reads s.heap (.ref t) dq aq/\dq.depth<=max p.depth (PyData.depthAll xs+1):=by
   rcases List.mem_append.mp z with z|z
   ·obtain ⟨dq,aq,rq,le⟩:=c1 t z
    exact ⟨dq,aq,rq,by lia⟩
   ·rcases List.mem_cons.mp z with rfl|z
    ·exact ⟨_,_,rl,by lia⟩
    ·obtain ⟨dq,aq,rq,le⟩:=d1 t z
     exact ⟨dq,aq,rq,by lia⟩
  refine not_mem_of_deeper (n:=max p.depth (PyData.depthAll xs+1)) (bs:=[t]) rt ?_ (λb hb=>?_) (List.mem_singleton.mpr rfl)
  ·simp only [PyData.depth,PyData.depthAll];lia
  ·rw [List.mem_singleton.mp hb];exact ⟨dq,aq,rq,le⟩
 have all:ReprAllK prog w (cs++a :: ds) s.heap (p.depth+PyData.depthAll xs+1) (#[u,.ref a]:Array Value).toList [p.shown,listText (PyData.shownAll xs)] :=
  .cons ((c2.more λb hb=>List.mem_append_left _ hb).level_le (by lia)) (.cons ((kl.more λb hb=>List.mem_append_right _ hb).level_le (by lia)) .nil)
 refine call_repr_slot (by lia) ⟨o,h1,h2⟩ F.slot_tuple_repr ?_
 rw [sh] at hQ
 exact call_tuple_reprK h1 h2 h3 nt all hg (λb _=>Clear.nil b) (by show A.units+1+_<_;lia) (λ_ _ e=>e) (λh' u tk k=>⟨_,_,rfl,hQ h' u tk k⟩) hsz
end
noncomputable def zh5:FM
 | [.tup [x,.ref n]],S=>match S[n]? with
  | some (.lst ys)=>(zan S 60 x).bind λp=>(pyTs S 60 ys).bind λds=>txU (.tuple [p,.list ds]) S
  | _=>none
 | _,_=>none
def zqx (K:QFg):List V->Hp->VK->Prop:=λxs H Q=>∃v ρ S d z S',xs=[v]/\Sim K ρ S H/\RD ρ H d v/\zh5 [d] S=some (.str z,S')/\Q (.str z) H
section
theorem ydx (hr:Room k X.A):CallR X (.builtin "repr") (zqx X.K):=by
 intro pins s σ H xs us Q I r h
 obtain ⟨v,ρ,S,d,z,S',rfl,sim,rd,hp,q⟩:=h
 obtain ⟨u,rfl,ru⟩:=zcr r
 unfold zh5 at hp
 split at hp
 ·rename_i x n T heq
  cases heq
  split at hp
  ·rename_i ys e0
   obtain ⟨p,h1,hp⟩:=bnd hp
   obtain ⟨ds,h2,hp⟩:=bnd hp
   unfold txU at hp
   obtain ⟨hz,e⟩:=za1 hp
   cases e
   cases rd with
   | @tup _ ta vs ha rr =>
    cases ru
    obtain ⟨v1,v2,rfl,r1,r2⟩:=rr.two
    cases r2 with
    | @ref _ ad hn =>
     obtain ⟨us,hH,r3⟩:=sim.at' _ ad _ hn e0
     obtain ⟨zz,its,n2,rv,ho⟩:=I.hok ad _ hH
     obtain ⟨zt,itt,rt,ot,ho2,hc2,n3,hd2,_⟩:=I.hok ta _ ha
     have rt':Vals [v1,V.ref ad] itt:=rt
     cases rt' with
     | cons w1 w2 =>
      cases w2 with
      | cons w3 w4 =>
       cases w4
       cases w3
       obtain ⟨⟨as,k1⟩,k2,k3,k4⟩:=zgi I sim 60 _ v1 _ p r1 w1 h1
       obtain ⟨⟨bs,m1,m2⟩,m3,m4⟩:=readsTs_of I sim 60 ys us its ds r3 rv h2
       exact ydw ho2 hc2 hd2 k1 k2 k3 ho rfl rfl m1 m3 m2 hr.gd (by have:=hr.un;lia) (λh' u tk hk=>⟨.str _,H,I.kept hk,⟨u,rfl⟩,q⟩) hz
  ·cases hp
 ·cases hp
theorem ydy {K:QFg}:Fn3 K zh5 (zqx K):=by
 intro ρ S H xs vs v S' Q sim r h p
 have key:∃d z,xs=[d]/\v=.str z/\S' = S:=by
  unfold zh5 at h
  split at h
  ·split at h
   ·obtain ⟨p,h1,h⟩:=bnd h
    obtain ⟨ds,h2,h⟩:=bnd h
    unfold txU at h
    obtain ⟨hz,e⟩:=za1 h
    cases e
    exact ⟨_,_,rfl,rfl,rfl⟩
   ·cases h
  ·cases h
 obtain ⟨d,z,rfl,rfl,rfl⟩:=key
 obtain ⟨w,rfl,rw'⟩:=r.one
 exact ⟨w,ρ,_,d,z,_,rfl,sim,rw',h,p ρ H _ (Ext.refl ..) sim (.str _)⟩
noncomputable def zdj:FM:=λxs S=>match zfp xs S with|some v=>some v|none=>zh5 xs S
theorem zjo (hr:Room k X.A) (hg:Gl X "repr") (hm:X.mg "repr" = none) (ha:PA3 X (a :: es) mA) (he:starEach (a :: es) X.env=(false,eval a X.env) :: starEach es X.env:=by rfl) (hpl:(backTo pos (starEach es X.env)).any (·.1)=false:=by rfl):PE3 X (.Call (.Name "repr" p) (a :: es) [] pos) (zae zdj mA) :=
 zfh (CallR.or3 (CallR.or3 (ya7 hr) (zz5 hr)) (ydx hr)) (ydv (ya9 ya8 zz6) ydy) hg hm zz7 ha (by decide) (by decide) he hpl
end
section
variable {E:XK}{CA:Str->Addr}{a d:List Stmt}{st:Stmt}{r q:ZM}
end
section
end
section
variable {P:Program}{w:World}{K:QFg}{mg:Str->Option Value}{base:Heap}
end
end L3
namespace TS
open PySem PySem.SetTable
structure EI (es:Array (Int × Value)) (σ:List Int):Prop where
 sub:∀e∈es.toList,∃i t,i∈σ/\e=(hashInt i,.int i t)
 sup:∀i∈σ,∃t,(hashInt i,Value.int i t)∈es.toList
 len:es.size=σ.length
 nd:σ.Nodup
noncomputable def zck (w:World):Bool:=!w.params.followText "set-order"
def ydz (w:World) (o:Obj) (σ:List Int):Prop:=o.ExactSet/\∃es ep t,o.data=.set es ep t/\TOk t es/\t.plain=true/\t.led=zck w/\EI es σ
def ISet (w:World) (a:Addr) (σ:List Int) (h:Heap):Prop:=∃o,h.get? a=some o/\ydz w o σ
theorem yd0 (k:TOk t es) (h:Int) (hN:¬In t (pn t.mask h N).j) (hl:∀m,m<N->In t (pn t.mask h m).j) (hb:N<10*(t.mask+14)):t.freeSlot h=some ((pn t.mask h N).j,false):=by
 unfold SetTable.freeSlot
 rcases zuc k hN hl hb (Nat.zero_le _) (ha:=λ_=>h+1) (p:=t.probeStart h) rfl rfl with ⟨_,i,_,_,_,e,_⟩|⟨_,e⟩
 ·lia
 ·rw [e];rfl
theorem yd1 (k:TOk t es) (h:Int) (x:Value) (hN:¬In t (pn t.mask h N).j) (hl:∀m,m<N->In t (pn t.mask h m).j) (hb:N<10*(t.mask+14)) :
  layNew t es h x=(insertAt es (t.put (pn t.mask h N).j).2 (h,x),(t.put (pn t.mask h N).j).1,false,false):=by
 have hs:(insertAt es (t.put (pn t.mask h N).j).2 (h,x)).size=es.size+1:=zdl
 have hf:(t.put (pn t.mask h N).j).1.fits (es.size+1)=true:=by
  have hro:=k.ro
  obtain ⟨n,e1,e2⟩:=k.pw
  have:2 ^ 3<=2 ^ n:=Nat.pow_le_pow_right (by decide) e2
  have hf1:(t.put (pn t.mask h N).j).1.fill=es.size+1:=by rw [zfz k.dm];show (insertAt t.place _ _).size+t.dummies.size=_;rw [zdl,k.dm,k.sz];rfl
  have hp1:(t.put (pn t.mask h N).j).1.place.size=es.size+1:=by rw [zfz k.dm];show (insertAt t.place _ _).size=_;rw [zdl,k.sz]
  have hm1:(t.put (pn t.mask h N).j).1.mask=t.mask:=rfl
  unfold SetTable.fits
  rw [hf1,hm1,hp1]
  simp
  lia
 unfold layNew
 rw [yd0 k h hN hl hb]
 dsimp only
 unfold SetTable.orStandIn
 rw [hs,hf];rfl
theorem yd2 {t t':SetTable}{es:Array (Int × Value)}{order:Array Nat}(hs:es.size<=1000) (e:t.relaid (es.map (·.1)) (grown es.size)=some (t',order)):coversAll order es.size=true/\t'.plain=t.plain/\t'.led=t.led:=by
 have hg:grown es.size=es.size*4:=by unfold grown;rw [if_neg (by lia)]
 obtain ⟨k,hk3,hsa,hlt,hle⟩:=zmz (n:=es.size*4) (by lia)
 unfold relaid at e
 rw [hg,hsa] at e
 generalize hm:2 ^ k-1=mask at e
 have hk:mask+1=2 ^ k:=by lia
 obtain ⟨ow,hl,o⟩:=zm1 hk (es.map (·.1)) (by rw [Array.size_map];lia)
 unfold laid at e
 rw [hl] at e
 have e:some (({ mask:=mask,place:=((lv mask ow).map (·.1)).toArray,dummies:=#[],finger:=t.finger,led:=t.led,moves:=t.movedTo mask,plain:=t.plain }:SetTable),((lv mask ow).map (·.2)).toArray)=some (t',order):=e
 cases e
 refine ⟨?_,rfl,rfl⟩
 have hlen:(es.map (·.1)).toList.length=es.size:=by simp
 have mem:=zm2 o
 have srt:=zm4 mask ow
 unfold coversAll
 rw [List.isPerm_iff]
 refine (List.perm_ext_iff_of_nodup ?_ List.nodup_range).mpr λi=>?_
 ·rw [List.Nodup,List.pairwise_map]
  refine srt.imp_of_mem λ{p q} hp hq hpq z=>?_
  have m1:=(mem p).mp hp
  have m2:=(mem q).mp hq
  rw [z] at m1
  have:=o.inj _ _ _ m1 m2
  lia
 ·rw [List.mem_range]
  constructor
  ·intro hi
   obtain ⟨p,hp,rfl⟩:=List.mem_map.mp hi
   obtain ⟨h,e,_⟩:=o.pr p.1 p.2 ((mem p).mp hp)
   rw [<-hlen];exact (qme e).1
  ·intro hi
   obtain ⟨j,hj⟩:=o.all i (by rw [hlen];exact hi)
   exact List.mem_map.mpr ⟨(j,i),(mem (j,i)).mpr hj,rfl⟩
theorem yd3 {t:SetTable}{es:Array (Int × Value)}(hz:0<es.size) (hs:es.size<=1000):∃t' es',relayAll t es (grown es.size)=(es',t',false)/\es'.size=es.size/\TOk t' es'/\t'.plain=t.plain/\t'.led=t.led/\∀e,e∈es'.toList↔e∈es.toList:=by
 obtain ⟨t',order,es',r1,r2,r3,r4,r5⟩:=zub (t:=t) hz hs
 obtain ⟨c1,c2,c3⟩:=yd2 hs r1
 refine ⟨t',es',?_,r3,r4,c2,c3,r5⟩
 have hf:=r4.fits
 unfold relayAll
 rw [r1]
 dsimp only
 have r2':Array.filterMap (λx=>es[x]?) order=es':=r2
 rw [r2',c1,hf];rfl
section
theorem EI.put (el:EI es σ) (hn:i ∉ σ):EI (insertAt es p (hashInt i,.int i tk)) (σ++[i]):=by
 have pm:=insertAt_perm es p (hashInt i,Value.int i tk)
 rw [Array.toList_push] at pm
 refine ⟨λe he=>?_,λq hq=>?_,?_,?_⟩
 ·rcases List.mem_append.mp (pm.mem_iff.mp he) with he|he
  ·obtain ⟨q,t,hq,e1⟩:=el.sub e he;exact ⟨q,t,List.mem_append_left _ hq,e1⟩
  ·rw [List.mem_singleton] at he;subst he;exact ⟨i,tk,by simp,rfl⟩
 ·rcases List.mem_append.mp hq with hq|hq
  ·obtain ⟨t,ht⟩:=el.sup q hq
   exact ⟨t,pm.mem_iff.mpr (List.mem_append_left _ ht)⟩
  ·rw [List.mem_singleton] at hq;subst hq
   exact ⟨tk,pm.mem_iff.mpr (by simp)⟩
 ·rw [zdl,el.len];simp
 ·rw [List.nodup_append]
  exact ⟨el.nd,by simp,λx hx y hy z=>hn (by rw [List.mem_singleton.mp hy] at z;rw [<-z];exact hx)⟩
theorem EI.elems (el:EI es σ):ElemsOf (intKind prog w) es.toList:=λe he=>by
 obtain ⟨j,t,_,rfl⟩:=el.sub e he
 exact ⟨⟨j,by show Value.isInt j (.int j t)=true;simp [Value.isInt],rfl⟩,rfl⟩
theorem EI.find (el:EI es σ):(i∈σ->∃j,es.toList.findIdx? (λe=>(intKind prog w).is i e.snd)=some j)/\(i ∉ σ->es.toList.findIdx? (λe=>(intKind prog w).is i e.snd)=none):=by
 constructor
 ·intro hi
  obtain ⟨t,ht⟩:=el.sup i hi
  cases e:es.toList.findIdx? (λe=>(intKind prog w).is i e.snd) with
  | some j=>exact ⟨j,rfl⟩
  | none =>
   rw [List.findIdx?_eq_none_iff] at e
   have:=e _ ht
   have h2:Value.isInt i (.int i t)=false:=this
   simp [Value.isInt] at h2
 ·intro hi
  rw [List.findIdx?_eq_none_iff]
  intro e he
  obtain ⟨j,t,hj,rfl⟩:=el.sub e he
  show Value.isInt i (.int j t)=false
  have:¬j=i:=λz=>hi (by rw [<-z];exact hj)
  simp [Value.isInt]
  first|exact this|lia
theorem yd4 (hT:ISet w a σ s.heap) (hz:σ.length<900) (old:i∈σ->Q false s) (new:i ∉ σ->∀h',Heap.SameBut a s.heap h'->ISet w a (σ++[i]) h'->Q true { s with heap:=h' }) :
  wpAny (model prog w) A (setAddHashed a (.int i tk) (hashInt i)) Q E s:=by
 obtain ⟨o,ho,hex,es,ep,t,hd,ok,pl,ld,el⟩:=hT
 obtain ⟨N,hb,hN,hl⟩:=ok.empty (hashInt i)
 have hsl:=el.len
 have sb:scanBound=4096:=rfl
 have bs:byScan (.int i tk) es=true:=by
  unfold byScan
  rw [Bool.and_eq_true,Bool.and_eq_true]
  refine ⟨⟨rfl,by rw [decide_eq_true_eq];lia⟩,?_⟩
  rw [Array.all_eq_true_iff_forall_mem]
  intro e he
  obtain ⟨j,t,_,rfl⟩:=el.sub e (by simpa using he)
  rfl
 unfold setAddHashed setAddHashedIn
 refine wpAny_holding (qwb (wpAny_setState_of ho hd ok.fits ?_))
 dsimp only
 rw [bs]
 simp only [if_true]
 refine qwb ?_
 unfold setAddByScan
 refine qwb (wpAny_rule (qwb (wpAny_setScan_of (knd:=intKind prog w) (k:=i) (by show Value.isInt i (.int i tk)=true;simp [Value.isInt]) ho hd ok.fits el.elems ?_)))
 by_cases hi:i∈σ
 ·obtain ⟨j,e⟩:=(el.find (prog:=prog) (w:=w) (i:=i)).1 hi
  rw [e]
  exact qwp (qwp (old hi))
 ·rw [(el.find (prog:=prog) (w:=w) (i:=i)).2 hi]
  dsimp only
  rw [yd1 ok (hashInt i) (.int i tk) hN hl hb]
  dsimp only
  have hnew:=new hi
  have els:=el.put (i:=i) (tk:=tk) (p:=(t.put (pn t.mask (hashInt i) N).j).2) hi
  have hm1:(t.put (pn t.mask (hashInt i) N).j).1.mask=t.mask:=rfl
  have hpl:(t.put (pn t.mask (hashInt i) N).j).1.plain=t.plain:=by rw [zfz ok.dm]
  have hld:(t.put (pn t.mask (hashInt i) N).j).1.led=t.led:=by rw [zfz ok.dm]
  have hf1:(t.put (pn t.mask (hashInt i) N).j).1.fill=es.size+1:=by rw [zfz ok.dm];show (insertAt t.place _ _).size+t.dummies.size=_;rw [zdl,ok.dm,ok.sz];rfl
  have hsz:(insertAt es (t.put (pn t.mask (hashInt i) N).j).2 (hashInt i,Value.int i tk)).size=es.size+1:=zdl
  have put:=λq=>ok.put (x:=.int i tk) hN hl q
  generalize t.put (pn t.mask (hashInt i) N).j=tp at *
  obtain ⟨t1,p⟩:=tp
  dsimp only at *
  refine qwb (qwp ?_)
  rw [hpl,pl]
  simp only [if_true]
  refine qwb (qwp ?_)
  simp only [if_true]
  refine qwb (wpAny_storeSet_of ho hd ?_ (by rw [hsz,sizeLine_eq];lia))
  have hg:(s.heap.update a (Obj.putSet (insertAt es p (hashInt i,.int i tk)) t1)).get? a=some { o with data:=.set (insertAt es p (hashInt i,.int i tk)) (ep+1) t1 }:=by
   have:=Heap.get?_update_self (Obj.putSet (insertAt es p (hashInt i,.int i tk)) t1) ho (by rw [putSet_of _ _ hd];rfl)
   rw [putSet_of _ _ hd] at this;exact this
  have hsb1:=Heap.SameBut.update s.heap a (Obj.putSet (insertAt es p (hashInt i,.int i tk)) t1)
  by_cases full:t1.tooFull=true
  ·obtain ⟨t3,es3,r1,r3,r4,r6,r7,r5⟩:=yd3 (t:=t1) (es:=insertAt es p (hashInt i,Value.int i tk)) (by lia) (by lia)
   rw [full,r1]
   simp only [Bool.not_false,Bool.true_and,if_true]
   refine qwb (qwp (qwb (wpAny_storeSet_of (s:={ s with heap:=s.heap.update a (Obj.putSet (insertAt es p (hashInt i,.int i tk)) t1) }) hg rfl ?_ (by rw [r3,hsz,sizeLine_eq];lia))))
   have hg2:((s.heap.update a (Obj.putSet (insertAt es p (hashInt i,.int i tk)) t1)).update a (Obj.putSet es3 t3)).get? a=some { o with data:=.set es3 (ep+1+1) t3 }:=by
    have:=Heap.get?_update_self (Obj.putSet es3 t3) hg (by rw [putSet_of es3 t3 (o:={ o with data:=.set (insertAt es p (hashInt i,.int i tk)) (ep+1) t1 }) rfl];rfl)
    rw [putSet_of es3 t3 (o:={ o with data:=.set (insertAt es p (hashInt i,.int i tk)) (ep+1) t1 }) rfl] at this;exact this
   refine qwp (qwp (hnew _ (hsb1.trans (Heap.SameBut.update _ a _)) ⟨_,hg2,hex,_,_,_,rfl,r4,by rw [r6,hpl];exact pl,by rw [r7,hld];exact ld,⟨λe he=>els.sub e ((r5 e).mp he),λq hq=>let ⟨t,z⟩:=els.sup q hq;⟨t,(r5 _).mpr z⟩,by rw [r3];exact els.len,els.nd⟩⟩))
  ·have full':t1.tooFull=false:=by simpa using full
   rw [full']
   simp only [Bool.and_false,qbf,if_false]
   refine qwp (qwp (hnew _ hsb1 ⟨_,hg,hex,_,_,_,rfl,put ?_,by rw [hpl];exact pl,by rw [hld];exact ld,els⟩))
   unfold SetTable.tooFull at full
   rw [hf1,hm1] at full
   simp at full
   exact full
end
theorem zqy {α:Type}:∀{l:List α}{i:Nat}(h:i<l.length),(l[i] :: l.eraseIdx i).Perm l
 | [],_,h=>absurd h (Nat.not_lt_zero _)
 | x :: l,0,_=>List.Perm.refl _
 | x :: l,i+1,h=>by
  have h':i<l.length:=Nat.lt_of_succ_lt_succ h
  show (l[i] :: x :: l.eraseIdx i).Perm (x :: l)
  exact (List.Perm.swap x l[i] _).trans (List.Perm.cons x (zqy h'))
theorem yd5 {α:Type}(next:Nat->Nat):∀(fuel k:Nat) (left:List α) (out:Array α),left.length<=fuel->(pickOrder.go next fuel k left out).toList.Perm (out.toList++left):=by
 intro fuel
 induction fuel with
 | zero =>
  intro k left out hl
  have:left=[]:=List.length_eq_zero_iff.mp (Nat.le_zero.mp hl)
  subst this
  unfold pickOrder.go
  rw [List.append_nil]
 | succ f ih =>
  intro k left out hl
  unfold pickOrder.go
  by_cases hz:left=[]
  ·subst hz
   simp
  ·have hp:0<left.length:=List.length_pos_iff.mpr hz
   have hm:next k % left.length<left.length:=Nat.mod_lt _ hp
   rw [qge hm]
   dsimp only
   refine (ih _ _ _ (by rw [List.length_eraseIdx,if_pos hm];lia)).trans ?_
   rw [Array.toList_push,List.append_assoc,List.singleton_append]
   exact List.Perm.append_left _ (zqy hm)
theorem yd6 {α:Type}(next:Nat->Nat) (xs:Array α):(pickOrder next xs).toList.Perm xs.toList:=by
 unfold pickOrder
 have:=yd5 next xs.size 0 xs.toList #[] (by simp)
 simpa using this
theorem slot_si_next:Slot "set_iterator" "__next__" "set_iterator.__next__" :=
 .of (owner:="set_iterator") (n:="__next__") (by rw [typeLookup_type,builtinLookup_eq_fast];kernel_rfl) (by decide +kernel) (by decide +kernel) (by decide +kernel)
  (by first|exact .inl (by decide +kernel)|exact .inr (by decide +kernel)) (by rw [isSubtype_type];kernel_rfl)
theorem zqz:Slot "set_iterator" "__iter__" "set_iterator.__iter__" :=
 .of (owner:="set_iterator") (n:="__iter__") (by rw [typeLookup_type,builtinLookup_eq_fast];kernel_rfl) (by decide +kernel) (by decide +kernel) (by decide +kernel)
  (by first|exact .inl (by decide +kernel)|exact .inr (by decide +kernel)) (by rw [isSubtype_type];kernel_rfl)
theorem zq0:entryFor table "set_iterator.__next__" = some Builtin.«set_iterator.__next__»:=entryFor_of_tree (by kernel_rfl)
theorem yd7:entryFor table "set_iterator.__iter__" = some Builtin.«dict_keyiterator.__iter__» :=
 entryFor_alias (id':="dict_keyiterator.__iter__") (by kernel_rfl) rfl (by decide +kernel) (by kernel_rfl)
theorem yd8:entryFor table "set.__iter__" = some Builtin.«frozenset.__iter__» :=
 entryFor_alias (id':="frozenset.__iter__") (by kernel_rfl) rfl (by decide +kernel) (by kernel_rfl)
theorem zq1:Manifest.owners.lookup (String.ofList ['r','o','t','a','r','e','t','i','_','t','e','s'].reverse)=some Manifest.sig_set_iterator:=by kernel_rfl
theorem zq2 (a:Value):argsOk "set_iterator.__next__" ⟨[a],[]⟩:=by
 unfold argsOk;rw [signature?_of (id:="set_iterator.__next__") (n:=['_','_','t','x','e','n','_','_']) (o:=['r','o','t','a','r','e','t','i','_','t','e','s']) (by kernel_rfl) zq1];kernel_rfl
theorem yd9 (a:Value):argsOk "set_iterator.__iter__" ⟨[a],[]⟩:=by
 unfold argsOk;rw [signature?_of (id:="set_iterator.__iter__") (n:=['_','_','r','e','t','i','_','_']) (o:=['r','o','t','a','r','e','t','i','_','t','e','s']) (by kernel_rfl) zq1];kernel_rfl
noncomputable def ord (w:World) (a:Addr) (es:Array (Int × Value)) (ep:Nat):Array (Int × Value):=if w.params.followText "set-order" then pickOrder (w.params.setOrder a ep) es else es
theorem zq3 (w:World) (a:Addr) (es:Array (Int × Value)) (ep:Nat):(ord w a es ep).toList.Perm es.toList:=by
 unfold ord;split
 ·exact yd6 _ _
 ·exact List.Perm.refl _
theorem zft (w:World) (a:Addr) (es:Array (Int × Value)) (ep:Nat):(ord w a es ep).size=es.size:=by
 have:=(zq3 w a es ep).length_eq
 simpa using this
structure SIt (w:World) (h:Heap) (I a:Addr) (es:Array (Int × Value)) (ep:Nat) (t:SetTable) (i:Nat):Prop where
 it:∃o slot,h.get? I=some o/\o.cls=.type "set_iterator"/\o.data=.fields #[.int (slot:Nat) 0,.int (i:Nat) 0,.ref a,.int (es.size:Nat) 0,.int (ep:Nat) 0]/\(w.params.followText "set-order" = false->below t.place slot=i)
 st:∃o,h.get? a=some o/\o.ExactSet/\o.data=.set es ep t
 ok:TOk t es
 pl:t.plain=true
 ld:t.led=zck w
theorem zgv {M:Model}{A:Around}{α:Type}{b:Bool}{x y:Sem α}{Q:α->Shared->Prop}{E:Value->Shared->Prop}{s:Shared}(hb:b=false) (h:wpAny M A y Q E s):wpAny M A (if b=true then x else y) Q E s:=by
 rw [hb];exact h
section
variable {prog:Program}{w:World}{A:Around}{E:Value->Shared->Prop}{s:Shared}{a I:Addr}{es:Array (Int × Value)}{ep i:Nat}{t:SetTable}
theorem SIt.typeIs (x:SIt w s.heap I a es ep t i):s.TypeIs (.ref I) "set_iterator":=let ⟨o,_,ho,hc,_⟩:=x.it;⟨o,ho,hc⟩
theorem yea {Q:Value->Shared->Prop}(x:SIt w s.heap I a es ep t i) (h:Q (.ref I) s):wpAny (model prog w) A (pyIter (.ref I)) Q E s:=by
 refine wpAny_pyIter_slot x.typeIs zqz (wpAny_call_entry zqz x.typeIs yd7 ?_ (yd9 _))
 show wpAny _ _ (ret (.ref I)) _ _ s
 exact qwp ⟨_,rfl,"set_iterator",_,x.typeIs,slot_si_next.lookup,h⟩
theorem zjp {Q:Bool->Shared->Prop}(h:Q (w.params.followText "set-order") s):wpAny (model prog w) A setsByText Q E s:=by
 unfold setsByText
 exact qwb (wpAny_askSetting (qwp h))
theorem zq4 {o:Obj}{Q:Array (Int × Value)->Shared->Prop}(ho:s.heap.get? a=some o) (hd:o.data=.set es ep t) (ok:TOk t es) (pl:t.plain=true) (ld:t.led=zck w) (h:Q (ord w a es ep) s):wpAny (model prog w) A (setWalk a) Q E s:=by
 unfold setWalk
 refine qwb (wpAny_setState_of ho hd ok.fits ?_)
 dsimp only
 refine qwb (zjp ?_)
 unfold ord at h
 cases hb:w.params.followText "set-order" with
 | true =>
  rw [hb] at h
  simp only [if_true] at h ⊢
  exact qwb (wpAny_askSetting (qwp h))
 | false =>
  rw [hb] at h
  have ld':t.led=true:=by rw [ld];unfold zck;rw [hb];rfl
  simp only [qbf,if_false] at h ⊢
  refine zgv (show (!t.plain && decide (es.size > 1))=false by rw [pl];rfl) ?_
  refine qwb ?_
  show wpAny _ _ (if (!t.led && decide (es.size > 1))=true then _ else _) _ _ _
  rw [ld']
  simp only [Bool.not_true,Bool.false_and,qbf,if_false]
  exact qwp (qwp h)
end
section
theorem zq5 (hr:Ris xs):below xs 0=0:=by
 obtain ⟨_,h2,_⟩:=zfy hr 0
 rcases Nat.eq_zero_or_pos (below xs 0) with h|h
 ·exact h
 ·exact absurd (h2 0 h) (Nat.not_lt_zero _)
theorem yeb (ho:s.heap.get? a=some o) (hx:o.ExactSet) (hd:o.data=.set es ep t) (ok:TOk t es) (pl:t.plain=true) (ld:t.led=zck w)
  (h:SIt w (s.heap.push { cls:=.type "set_iterator",data:=.fields #[.int (0:Nat) 0,.int (0:Nat) 0,.ref a,.int (es.size:Nat) 0,.int (ep:Nat) 0] }) s.heap.objs.size a es ep t 0->Q (.ref s.heap.objs.size) { s with heap:=s.heap.push { cls:=.type "set_iterator",data:=.fields #[.int (0:Nat) 0,.int (0:Nat) 0,.ref a,.int (es.size:Nat) 0,.int (ep:Nat) 0] } }) :
  wpAny (model prog w) A (pyIter (.ref a)) Q E s:=by
 have hT:s.TypeIs (.ref a) "set":=⟨o,ho,hx.1⟩
 refine wpAny_pyIter_slot hT F.slot_set_iter (wpAny_call_entry F.slot_set_iter hT yd8 ?_ (F.args_set_iter_1 _))
 unfold Builtin.«frozenset.__iter__»
 refine qwb ?_
 show wpAny _ _ (pure a) _ _ s
 refine qwp ?_
 refine qwb ?_
 unfold Builtin.Frozenset.sizeOf
 refine qwb (wpAny_setEntries_of ho hd ok.fits (qwp ?_))
 refine qwb ?_
 unfold setDrawn
 refine qwb (wpAny_setState_of ho hd ok.fits ?_)
 dsimp only
 refine qwb (zjp (qwp ?_))
 refine zgv (show (!w.params.followText "set-order" && (!t.plain && decide (es.size > 1)))=false by rw [pl];simp) ?_
 refine qwb (qwp ?_)
 refine qwb ?_
 unfold setEpoch
 refine qwb (wpAny_setState_of ho hd ok.fits (qwp ?_))
 dsimp only
 unfold newFields
 refine qwb (wpAny_newObj_type (qwp ⟨_,rfl,"set_iterator",_,⟨_,Heap.get?_push_size _ rfl,rfl⟩,slot_si_next.lookup,?_⟩))
 refine h ⟨⟨_,0,Heap.get?_push_size _ rfl,rfl,rfl,λ_=>zq5 ok.ris⟩,⟨o,qps _ ho,hx,hd⟩,ok,pl,ld⟩
theorem yec (hr:Ris xs) (h:xs[i]? = some j):below xs (j+1)=i+1:=by
 obtain ⟨h1,h2,h3⟩:=zfy hr (j+1)
 obtain ⟨hi,hj⟩:=zg4 h 0
 have a1:i<below xs (j+1):=by
  rcases Nat.lt_or_ge i (below xs (j+1)) with q|q
  ·exact q
  ·have:=h3 i q hi
   lia
 have a2:¬i+1<below xs (j+1):=λq=>by
  have b1:=h2 (i+1) q
  have b2:=hr i (i+1) (by lia) (by lia)
  lia
 lia
theorem yed {slot:Nat}{Q:Option (Value × Nat)->Shared->Prop}(ho:s.heap.get? a=some o) (hd:o.data=.set es ep t) (ok:TOk t es) (pl:t.plain=true) (ld:t.led=zck w) (hb:w.params.followText "set-order" = false->below t.place slot=i) (hi:i<es.size)
  (h:∀slot':Nat,(w.params.followText "set-order" = false->below t.place slot' = i+1)->Q (some (((ord w a es ep)[i]'(by rw [zft];exact hi)).2,slot')) s) :
  wpAny (model prog w) A (setNext a slot i ep) Q E s:=by
 unfold setNext
 refine qwb (wpAny_setState_of ho hd ok.fits ?_)
 dsimp only
 refine qwb (zjp ?_)
 cases hbt:w.params.followText "set-order" with
 | true =>
  simp only [if_true]
  rw [if_neg (by simp)]
  refine qwb (zq4 ho hd ok pl ld (qwp ?_))
  rw [Array.getElem?_eq_getElem (by rw [zft];exact hi)]
  exact h slot λz=>by rw [hbt] at z;cases z
 | false =>
  have ld':t.led=true:=by rw [ld];unfold zck;rw [hbt];rfl
  have hb':=hb hbt
  simp only [qbf,if_false]
  refine zgv (show (!t.plain && decide (es.size > 1))=false by rw [pl];rfl) ?_
  refine qwb ?_
  show wpAny _ _ (if (!t.led && !es.isEmpty)=true then _ else _) _ _ _
  refine zgv (show (!t.led && !es.isEmpty)=false by rw [ld'];rfl) ?_
  refine qwp ?_
  have hp:t.place[i]? = some (t.place.getD i 0):=zkb (by rw [ok.sz];exact hi) 0
  rw [hb',Array.getElem?_eq_getElem hi,hp]
  refine qwp ?_
  have:=h (t.place.getD i 0+1) λ_=>yec ok.ris hp
  unfold ord at this
  simp only [hbt,qbf,if_false] at this
  exact this
theorem yee {slot:Nat}{Q:Option (Value × Nat)->Shared->Prop}(ho:s.heap.get? a=some o) (hd:o.data=.set es ep t) (ok:TOk t es) (pl:t.plain=true) (ld:t.led=zck w) (hb:w.params.followText "set-order" = false->below t.place slot=i) (hi:es.size<=i)
  (h:Q none s):wpAny (model prog w) A (setNext a slot i ep) Q E s:=by
 unfold setNext
 refine qwb (wpAny_setState_of ho hd ok.fits ?_)
 dsimp only
 refine qwb (zjp ?_)
 cases hbt:w.params.followText "set-order" with
 | true =>
  simp only [if_true]
  rw [if_neg (by simp)]
  refine qwb (zq4 ho hd ok pl ld (qwp ?_))
  rw [Array.getElem?_eq_none (by rw [zft];exact hi)]
  exact h
 | false =>
  have ld':t.led=true:=by rw [ld];unfold zck;rw [hbt];rfl
  have hb':=hb hbt
  simp only [qbf,if_false]
  refine zgv (show (!t.plain && decide (es.size > 1))=false by rw [pl];rfl) ?_
  refine qwb ?_
  show wpAny _ _ (if (!t.led && !es.isEmpty)=true then _ else _) _ _ _
  refine zgv (show (!t.led && !es.isEmpty)=false by rw [ld'];rfl) ?_
  refine qwp ?_
  rw [hb',Array.getElem?_eq_none hi]
  exact qwp h
theorem yef (x:SIt w s.heap I a es ep t i) (hne:a≠I) (hi:i<es.size)
  (h:∀h',SIt w h' I a es ep t (i+1)->Heap.SameBut I s.heap h'->Q (some ((ord w a es ep)[i]'(by rw [zft];exact hi)).2) { s with heap:=h' }) :
  wpAny (model prog w) A (pyNext (.ref I)) Q E s:=by
 obtain ⟨⟨o,slot,ho,hc,hd,hb⟩,⟨oa,hoa,hxa,hda⟩,ok,pl,ld⟩:=id x
 unfold pyNext
 refine qwb (wpAny_attempt (wpAny_callSpecial?_slot (name:=Str.ofString "__next__") x.typeIs slot_si_next
  (wpAny_call_entry slot_si_next x.typeIs zq0 ?_ (zq2 _))))
 unfold Builtin.«set_iterator.__next__»
 refine qwb ?_
 show wpAny _ _ (pure (Value.ref I,[])) _ _ s
 refine qwp ?_
 refine qwb (wpAny_fieldsOf ho hd ?_)
 dsimp only
 refine qwb (wpAny_setEntries_of hoa hda ok.fits ?_)
 rw [if_neg (by simp)]
 refine qwb ?_
 refine yed (i:=i) hoa hda ok pl ld hb hi λslot' hs'=>?_
 dsimp only
 refine qwb (wpAny_setField ho hd (by simp) ?_)
 have g1:(s.heap.update I (Obj.mapFields (·.setIfInBounds 0 (rawInt (slot':Nat))))).get? I=some (Obj.mapFields (·.setIfInBounds 0 (rawInt (slot':Nat))) o):=Heap.get?_update_self _ ho (Obj.isFreed_of_fields (Obj.data_mapFields hd _))
 have d1:=Obj.data_mapFields hd (·.setIfInBounds 0 (rawInt (slot':Nat)))
 refine qwb (wpAny_setField g1 d1 (by simp) ?_)
 have g2:((s.heap.update I (Obj.mapFields (·.setIfInBounds 0 (rawInt (slot':Nat))))).update I (Obj.mapFields (·.setIfInBounds 1 (rawInt ((i:Int)+1))))).get? I=some (Obj.mapFields (·.setIfInBounds 1 (rawInt ((i:Int)+1))) (Obj.mapFields (·.setIfInBounds 0 (rawInt (slot':Nat))) o)):=Heap.get?_update_self _ g1 (Obj.isFreed_of_fields (Obj.data_mapFields d1 _))
 have d2:=Obj.data_mapFields d1 (·.setIfInBounds 1 (rawInt ((i:Int)+1)))
 have sb:=(Heap.SameBut.update s.heap I (Obj.mapFields (·.setIfInBounds 0 (rawInt (slot':Nat))))).trans (Heap.SameBut.update _ I (Obj.mapFields (·.setIfInBounds 1 (rawInt ((i:Int)+1)))))
 refine qwp ⟨_,rfl,qwp (h _ ⟨⟨_,slot',g2,?_,?_,hs'⟩,⟨oa,?_,hxa,hda⟩,ok,pl,ld⟩ sb)⟩
 ·rw [Obj.cls_mapFields,Obj.cls_mapFields];exact hc
 ·rw [d2];simp [rawInt]
 ·exact sb.extBut _ _ hne hoa
theorem yeg (hh:A.handled=none) (x:SIt w s.heap I a es ep t i) (hi:es.size<=i)
  (hQ:∀h',Heap.ExtBut I s.heap h'->Q none { s with heap:=h' }) :
  wpAny (model prog w) A (pyNext (.ref I)) Q E s:=by
 obtain ⟨⟨o,slot,ho,hc,hd,hb⟩,⟨oa,hoa,hxa,hda⟩,ok,pl,ld⟩:=id x
 unfold pyNext
 refine qwb (wpAny_attempt (wpAny_callSpecial?_slot (name:=Str.ofString "__next__") x.typeIs slot_si_next
  (wpAny_call_entry slot_si_next x.typeIs zq0 ?_ (zq2 _))))
 unfold Builtin.«set_iterator.__next__»
 refine qwb ?_
 show wpAny _ _ (pure (Value.ref I,[])) _ _ s
 refine qwp ?_
 refine qwb (wpAny_fieldsOf ho hd ?_)
 dsimp only
 refine qwb (wpAny_setEntries_of hoa hda ok.fits ?_)
 rw [if_neg (by simp)]
 refine qwb ?_
 refine yee (i:=i) hoa hda ok pl ld hb hi ?_
 dsimp only
 refine qwb (wpAny_setField ho hd (by simp) ?_)
 refine qwb ?_
 simp only [newExc,newTuple]
 refine qwb (wpAny_newObj_type ?_ (by size_fits))
 refine qwb (m:=firstArgMember _ _) (wpAny_of_eq (a:=Value.none) (by first|rfl|(simp only [firstArgMember];rfl)) ?_)
 refine wpAny_newObj_type ?_ (by size_fits)
 simp only [raiseNew]
 refine qwb (wpAny_handled ?_)
 rw [show A.in1.handled=none from hh]
 refine qwb (qwp (wpAny_throw ?_))
 refine qwb (wpAny_isInstance (T:="StopIteration") (b:=true) ⟨_,Heap.get?_push_size _ rfl,rfl⟩ isSubtype_stop ?_)
 exact qwp (hQ _ (((Heap.SameBut.update ..).extBut.push _).push _))
theorem Walks.iset (hh:A.handled=none) (I a:Addr) (hne:a≠I) (es:Array (Int × Value)) (ep:Nat) (t:SetTable) :
  Walks prog w A I [I,a] [I] es.size (λi v=>∃h,(ord w a es ep)[i]? = some (h,v)) (λi h=>SIt w h I a es ep t i) where
 sub:=λb hb=>by simp at hb;simp [hb]
 frame:=λ_ _ _ st hk=>⟨let ⟨o,sl,ho,r⟩:=st.it;⟨o,sl,hk I (by simp) o ho,r⟩,let ⟨o,ho,r⟩:=st.st;⟨o,hk a (by simp) o ho,r⟩,st.ok,st.pl,st.ld⟩
 item:=λi s Q E hi st hQ=>by
  refine yef st hne hi λh' hit' hs'=>?_
  have hi':i<(ord w a es ep).size:=by rw [zft];exact hi
  exact hQ _ h' s.toks ⟨(ord w a es ep)[i].1,by rw [Array.getElem?_eq_getElem hi']⟩ hit' λb o hb e=>hs'.extBut b o (λh=>hb (by simp [h])) e
 done:=λs Q E st hQ=>yeg hh st (qlr _) λh' he'=>hQ h' s.toks λb o hb e=>he' b o (λh=>hb (by simp [h])) e
 self:=λ_ _ _ _ st hQ=>yea st hQ
end
open PyProof.Rows
noncomputable def nub (σ:List Int) (x:Int):List Int:=if x∈σ then σ else σ++[x]
noncomputable def nubs (f:Nat->Int):Nat->List Int
 | 0=>[]
 | i+1=>nub (nubs f i) (f i)
theorem nubs_len (f:Nat->Int):∀i,(nubs f i).length<=i
 | 0=>qlr _
 | i+1=>by
  have:=nubs_len f i
  unfold nubs nub
  split
  ·lia
  ·rw [qla];show _+1<=_;lia
theorem nubs_mem (f:Nat->Int) (x:Int):∀i,x∈nubs f i↔∃j,j<i/\f j=x
 | 0=>by simp [nubs]
 | i+1=>by
  have ih:=nubs_mem f x i
  have:x∈nubs f (i+1)↔x∈nubs f i\/x=f i:=by
   show x∈nub (nubs f i) (f i)↔_
   unfold nub
   split
   ·rename_i h
    constructor
    ·exact .inl
    ·rintro (h' | h')
     ·exact h'
     ·rw [h'];exact h
   ·simp
  rw [this,ih]
  constructor
  ·rintro (⟨j,h1,h2⟩|h)
   ·exact ⟨j,by lia,h2⟩
   ·exact ⟨i,by lia,h.symm⟩
  ·rintro ⟨j,h1,h2⟩
   rcases Nat.lt_or_ge j i with h|h
   ·exact .inl ⟨j,h,h2⟩
   ·have:j=i:=by lia
    subst this;exact .inr h2.symm
section
theorem ISet.at (x:ISet w a σ h) (e:∀o,h.get? a=some o->h'.get? a=some o):ISet w a σ h':=let ⟨o,ho,r⟩:=x;⟨o,e o ho,r⟩
theorem yeh (hT:ISet w a σ s.heap) (hz:σ.length<900) (h:∀b h',Heap.SameBut a s.heap h'->ISet w a (nub σ i) h'->Q b { s with heap:=h',toks:=s.toks+1 }) :
  wpAny (model prog w) A (setAdd a (.int i tk)) Q E s:=by
 unfold setAdd
 refine wpAny_holding ?_
 refine qwb ((intKind prog w).pyHash (k:=i) (intKind_is _ _ _ _) ?_)
 refine yd4 (s:={ s with toks:=s.toks+1 }) hT hz (λhi=>?_) λhi h' hs hI=>?_
 ·exact h false s.heap (Heap.SameBut.refl _ _) (by unfold nub;rw [if_pos hi];exact hT)
 ·exact h true h' hs (by unfold nub;rw [if_neg hi];exact hI)
end
section
variable {R:Result->Shared->Prop}{n:Nat}{P:Nat->Value->Prop}{St:Nat->Heap->Prop}
theorem yei (W:Walks prog w A.in1 I fp wr n P St) (S:Addr) (hSf:S ∉ fp) (val:Nat->Int) (hval:∀i v,P i v->∃t,v=.int (val i) t) (hb:n<900) :
  ∀(k i:Nat) (s:Shared),n-i=k->i<=n->St i s.heap->ISet w S (nubs val i) s.heap ->
   (∀h' tk,(∀b o,b ∉ S :: wr->s.heap.get? b=some o->h'.get? b=some o)->ISet w S (nubs val n) h'->R (.ok (.ret .none)) { s with heap:=h',toks:=tk }) ->
   codeAny (model prog w) A (.builtin "set.update.loop" ⟨[.ref S,.ref I],[]⟩) R s:=by
 have hSw:S ∉ wr:=λh=>hSf (W.sub _ h)
 intro k
 induction k with
 | zero =>
  intro i s hk hi hst hS hR
  have hin:i=n:=by lia
  subst hin
  refine codeAny_builtin F.entry_set_update_loop ?_
  rw [Around.under_plainId F.plain_set_update_loop _]
  show wpAny _ A.in1 (pyNext (.ref I) >>= _) _ _ s
  refine qwb (W.done s _ _ hst λh' tk hm=>?_)
  show wpAny _ A.in1 (ret Value.none) _ _ _
  exact qwp (hR h' tk (λb o hb e=>hm b o (λz=>hb (List.mem_cons_of_mem _ z)) e) (hS.at λo e=>hm S o hSw e))
 | succ k ih =>
  intro i s hk hi hst hS hR
  have hlt:i<n:=by lia
  refine codeAny_builtin F.entry_set_update_loop ?_
  rw [Around.under_plainId F.plain_set_update_loop _]
  show wpAny _ A.in1 (pyNext (.ref I) >>= _) _ _ s
  refine qwb (W.item i s _ _ hlt hst λv h' tk hP hst' hm=>?_)
  obtain ⟨t,rfl⟩:=hval i v hP
  have hS':ISet w S (nubs val i) h':=hS.at λo e=>hm S o hSw e
  show wpAny _ A.in1 (holding [Value.int (val i) t] (setAdd S (.int (val i) t)) >>= _) _ _ _
  refine qwb (wpAny_holding ?_)
  refine yeh (s:={ s with heap:=h',toks:=tk }) hS' (by have:=nubs_len val i;lia) λb h2 hsb hS2=>?_
  refine qwp ⟨plainId_quiet F.plain_set_update_loop _,ih (i+1) _ (by lia) hlt (W.frame _ h' _ hst' λb hb o e=>?_) hS2 λh3 tk3 hm3 hS3=>?_⟩
  ·show h2.get? b=some o
   rw [hsb.2 b (λh:b=S=>hSf (by rw [<-h];exact hb))];exact e
  ·refine hR h3 tk3 (λb o hb e=>hm3 b o hb ?_) hS3
   show h2.get? b=some o
   rw [hsb.2 b (λh:b=S=>hb (by rw [h];simp))]
   exact hm b o (λz=>hb (List.mem_cons_of_mem _ z)) e
end
open L3
section
theorem yej:isSubtype (.type "list") (.type "set")=pure false:=by rw [isSubtype_type];kernel_rfl
theorem yek:isSubtype (.type "list") (.type "frozenset")=pure false:=by rw [isSubtype_type];kernel_rfl
theorem yel (e:h.get? a=some (ze5 (zck w))):ISet w a [] h :=
 ⟨_,e,⟨rfl,rfl,rfl⟩,#[],0,_,rfl,⟨rfl,rfl,⟨3,rfl,qlr _⟩,λi j hi hj=>absurd hj (by simp [SetTable.fresh]),λj hj=>by simp [In,SetTable.fresh] at hj,by show 0*5<7*3;decide,by show 7<8192;decide,λi h v e=>by simp at e⟩,rfl,rfl,⟨λe he=>by simp at he,λi hi=>by simp at hi,rfl,List.nodup_nil⟩⟩
theorem yem (a:Value)
  (h:Q₁ (.ref s.heap.objs.size) { s with heap:=s.heap.push (ze5 (zck w)) }) :
  codeAny (model prog w) A (.call (.builtin "set.__new__") ⟨[.type "set",a],[]⟩) (wants Q₁ E) s:=by
 refine codeAny_of_tree ?_
 show wpAny _ A.in1 (do checkBuiltinCall "set.__new__" ⟨[.type "set",a],[]⟩;again (.builtin "set.__new__" ⟨[.type "set",a],[]⟩)) _ _ s
 refine qwb (wpAny_of_eq (F.newCall_set_1 a) (qwp ⟨plainId_quiet F.plain_set_new _,codeAny_builtin F.entry_set_new ?_⟩))
 rw [Around.under_plainId F.plain_set_new _]
 unfold Builtin.«set.__new__» Builtin.Frozenset.newClass
 have hsub:=sub_set_self
 obtain ⟨hp,g,d,tk,os⟩:=s
 dsimp only
 wp_walk
 refine wpAny_askSetting (qwp ?_)
 dsimp only
 simp only [newObj]
 refine qwb (wpAny_alloc (qwp ?_))
 exact qwp h
theorem yen (hh:A.handled=none) (ht:s.heap.IsList l its) (hi:IntsAre its.toList ns) (hb:its.size<900)
  (hd:s.heap.get? d=some (ze5 (zck w))) (htd:l≠d)
  (h:∀(h':Heap) (tk:Nat),ISet w d (nubs (λi=>ns.getD i 0) its.size) h'->(∀b o,b≠d->s.heap.get? b=some o->h'.get? b=some o)->Q (.done (.ret .none)) { s with heap:=h',toks:=tk }) :
  wpAny (model prog w) A (Builtin.«set.__init__» ⟨[.ref d,.ref l],[]⟩) Q E s:=by
 obtain ⟨ol,hol,hcl,nl,hdl⟩:=id ht
 have hTs:s.TypeIs (.ref d) "set":=⟨_,hd,rfl⟩
 have hTt:s.TypeIs (.ref l) "list":=⟨_,hol,hcl⟩
 have q1:=yej
 have q2:=yek
 obtain ⟨hp,g,dr,tk,os⟩:=s
 obtain ⟨c1,c2,c3,c4⟩:=ol
 dsimp only at hcl hdl hol
 subst hcl hdl
 unfold Builtin.«set.__init__» noKeywords Builtin.Frozenset.updateFrom
 generalize hPI:pyIter=PI
 wp_walk
 subst hPI
 have ht':hp.IsList l its:=ht
 have lt1:l<hp.objs.size:=Heap.lt_size hol
 have lt2:d<hp.objs.size:=Heap.lt_size hd
 refine wpAny_pyIter_list ht' (qwb (wpAny_runValue ?_))
 have vi:∀(i:Nat) (v:Value),its[i]? = some v->∃t,v=.int (ns.getD i 0) t:=λi v hv=>IntsAre.int_at hi i v (by rw [Array.getElem?_toList];exact hv)
 have nf:d ∉ [hp.objs.size,l]:=by
  simp only [List.mem_cons,List.not_mem_nil,or_false,not_or]
  exact ⟨Nat.ne_of_lt lt2,Ne.symm htd⟩
 refine yei (Walks.list (by simpa using hh) hp.objs.size l (Nat.ne_of_lt lt1) its) d nf (λi=>ns.getD i 0) vi hb (its.size-0) 0 _ (by lia) (Nat.zero_le _) ⟨⟨_,Heap.get?_push_size _ rfl,rfl,rfl⟩,?_⟩ ?_ λh' tk' hk hS=>?_
 ·obtain ⟨o,e,r⟩:=id ht'
  exact ⟨o,qps _ e,r⟩
 ·exact yel (qps _ hd)
 ·refine qwp (qwp (h h' tk' hS λb o hb e=>?_))
  exact hk b o (by simp only [List.mem_cons,List.not_mem_nil,or_false,not_or];exact ⟨hb,Nat.ne_of_lt (Heap.lt_size e)⟩) (qps _ e)
theorem call_set_list_i (hh:A.handled=none) (ht:s.heap.IsList t its) (hi:IntsAre its.toList ns) (hb:its.size<900)
  (h:∀(h':Heap) (tk:Nat),ISet w s.heap.objs.size (nubs (λi=>ns.getD i 0) its.size) h'->(∀b o,s.heap.get? b=some o->h'.get? b=some o)->Q (.ref s.heap.objs.size) { s with heap:=h',toks:=tk }) :
  wpAny (model prog w) A (call (.type "set") [.ref t]) Q E s:=by
 obtain ⟨c,tl,k0⟩:=F.called_set.mro;have k1:=F.called_set.made;have k2:=F.called_set.sub
 refine wpAny_call (codeAny_of_tree (show wpAny _ _ (callAny (.type "set") _) _ _ _ from ?_))
 refine qwp ⟨Code.quiet_builtin _ (by decide +kernel),codeAny_builtin F.entry_type_call ?_⟩;rw [Around.under_plain (weight_type_call_type "set" [.ref t] []) rfl]
 have k3:=F.called_set.notType;have k4:=F.called_set.canCreate;have k5:=F.typeCall_set_1 (.ref t)
 repeat (any_goals (first|assumption|wp_step))
 refine codeAny_mono (yem (.ref t) (E:=E) (Q₁:=λx s1=>x=.ref s.heap.objs.size/\s1={ s with heap:=s.heap.push (ze5 (zck w)) }) ⟨rfl,rfl⟩) λr s1 hr=>?_
 match r,hr with
 | .error e,hr=>exact hr
 | .ok .next,hr=>exact hr.elim
 | .ok .brk,hr=>exact hr.elim
 | .ok .cont,hr=>exact hr.elim
 | .ok (.ret x),hr =>
  obtain ⟨rfl,rfl⟩:=hr
  have g1:(s.heap.push (ze5 (zck w))).get? s.heap.objs.size=some (ze5 (zck w)):=Heap.get?_push_size _ rfl
  have g2:Shared.TypeIs { s with heap:=s.heap.push (ze5 (zck w)) } (.ref s.heap.objs.size) "set":=⟨_,g1,rfl⟩
  have k6:=F.called_set.init.lookup;have k7:=F.called_set.init.bind (.ref s.heap.objs.size)
  repeat (any_goals (first|assumption|wp_step))
  have ht':(s.heap.push (ze5 (zck w))).IsList t its:=by
   obtain ⟨o,e,q⟩:=ht
   exact ⟨o,qps _ e,q⟩
  have lt1:t≠s.heap.objs.size:=by
   obtain ⟨o,e,q⟩:=ht
   exact Nat.ne_of_lt (Heap.lt_size e)
  refine codeAny_mono (codeAny_call_builtin (R:=wants (λr s2=>r=.none/\∃h' tk,s2={ s with heap:=h',toks:=tk }/\ISet w s.heap.objs.size (nubs (λi=>ns.getD i 0) its.size) h'/\∀b o,s.heap.get? b=some o->h'.get? b=some o) E) F.called_set.init.plain F.entry_set_init
   (check_set_init_1 g2 (yen (by simpa using hh) ht' hi hb g1 lt1 λh' tk hS hk=>⟨rfl,h',tk,rfl,hS,λb o e=>hk b o (Nat.ne_of_lt (Heap.lt_size e)) (qps _ e)⟩))) λr2 s2 hr2=>?_
  match r2,hr2 with
  | .error e,hr2=>exact hr2
  | .ok .next,hr2=>exact hr2.elim
  | .ok .brk,hr2=>exact hr2.elim
  | .ok .cont,hr2=>exact hr2.elim
  | .ok (.ret y),hr2 =>
   obtain ⟨rfl,h',tk,rfl,hS,hk⟩:=hr2
   repeat (any_goals (first|assumption|wp_step))
   exact h _ _ hS hk
end
open SP PySem.W PySem.Calls
section
variable {prog:Program}{w:World}{A:Around}{E:Value->Shared->Prop}{s:Shared}{d:Addr}{es:Array (Int × Value)}{ep:Nat}{t:SetTable}
def SAt (w:World) (h:Heap) (d:Addr) (es:Array (Int × Value)) (ep:Nat) (t:SetTable):Prop:=(∃o,h.get? d=some o/\o.ExactSet/\o.data=.set es ep t)/\TOk t es/\t.plain=true/\t.led=zck w
theorem SAt.keep (x:SAt w h d es ep t) (k:∀o,h.get? d=some o->h'.get? d=some o):SAt w h' d es ep t:=let ⟨⟨o,e,r⟩,q⟩:=x;⟨⟨o,k o e,r⟩,q⟩
theorem SAt.lt (x:SAt w h d es ep t):d<h.objs.size:=let ⟨⟨_,e,_⟩,_⟩:=x;Heap.lt_size e
theorem SAt.ty (x:SAt w s.heap d es ep t):s.TypeIs (.ref d) "set":=let ⟨⟨o,e,c,_⟩,_⟩:=x;⟨o,e,c.1⟩
theorem yeo (hT:s.TypeIs (.ref r) "set") (h:Q false s):wpAny (model prog w) A (Builtin.List.listLengthHint (.ref r)) Q E s:=by
 unfold Builtin.List.listLengthHint
 refine qwb (wpAny_specialOf hT PySem.F.slot_set_len.lookup ?_)
 generalize hid:("set.__len__":String)=id0
 wp_delta
 rw [show splitId id0=some ("set","__len__") from by subst hid;decide +kernel]
 subst hid
 refine qwb (wpAny_isInstance (T:="set") (b:=true) hT (by rw [isSubtype_type];kernel_rfl) ?_)
 refine wpAny_ite_split (λhab=>absurd hab (by decide)) (λ_=>?_)
 refine wpAny_ite_split (λ_=>?_) (λhab=>absurd (by decide +kernel) hab)
 refine qwb (wpAny_typeOf hT ?_)
 exact qwp h
theorem yep:KdlSrc prog w "set" d d es.size (λi v=>∃h,(ord w d es ep)[i]? = some (h,v)) (λh=>SAt w h d es ep t) where
 type:=λ_ hm=>hm.ty
 there:=λ_ hm=>⟨hm.lt,hm.lt⟩
 keep:=λ_ _ hm hk=>hm.keep λo e=>hk d (.inl rfl) o e
 notList:=by decide
 notTuple:=by decide
 hint:=λ_ _ _ _ hm hq=>yeo hm.ty hq
 iter:=λ_ s hh hm=>⟨_,_,(λ_ _ hq=>let ⟨⟨_,e,x,dt⟩,ok,pl,ld⟩:=hm;yeb e x dt ok pl ld λ_=>hq),Walks.iset hh _ d (Nat.ne_of_lt hm.lt) es ep t,let ⟨⟨o,e,x,dt⟩,ok,pl,ld⟩:=hm;⟨⟨_,0,Heap.get?_push_size _ rfl,rfl,rfl,λ_=>zq5 ok.ris⟩,⟨o,qps _ e,x,dt⟩,ok,pl,ld⟩⟩
theorem yeq (hh:A.handled=none) (x:SAt w s.heap d es ep t) (hn:es.size<=sizeLine)
  (h:∀(h':Heap) (tk:Nat),s.heap.objs.size<=h'.objs.size->(∀b o,s.heap.get? b=some o->h'.get? b=some o)->R ((ord w d es ep).toList.map (·.2)) { s with heap:=h',toks:=tk }):wpAny (model prog w) A (collect (.ref d)) R E s:=by
 have K:=yep (prog:=prog) (w:=w) (d:=d) (es:=es) (ep:=ep) (t:=t)
 have hS₁:(s.heap.push { cls:=.type "list",data:=.seq ([]:List Value).toArray }).get? s.heap.objs.size=some { cls:=.type "list",data:=.seq #[] }:=Heap.get?_push_size _ rfl
 have zff:∀(h':Heap) (tk:Nat) (acc:Array Value) (c:Nat),(∀b o,s.heap.get? b=some o->h'.get? b=some o)->h'.get? s.heap.objs.size=some { cls:=.type "list",dict:=none,data:=.seq acc c,slots:=#[] }->ItemsOf (λi v=>∃h,(ord w d es ep)[i]? = some (h,v)) acc es.size->R acc.toList { s with heap:=h',toks:=tk }:=λh' tk acc c k g a=>by
  have e:acc.toList=(ord w d es ep).toList.map (·.2):=by
   apply List.ext_getElem?
   intro j
   rw [qgm,Array.getElem?_toList,Array.getElem?_toList]
   rcases Nat.lt_or_ge j acc.size with hj|hj
   ·rw [Array.getElem?_eq_getElem hj]
    obtain ⟨q,z⟩:=a.2 j _ (Array.getElem?_eq_getElem hj)
    rw [z];rfl
   ·rw [Array.getElem?_eq_none hj,Array.getElem?_eq_none (by rw [zft,<-a.1];exact hj)];rfl
  rw [e]
  exact h h' tk (Nat.le_of_lt (Heap.lt_size g)) k
 unfold collect
 refine qwb (wpAny_runValue (codeAny_builtin entry_proto_collect' ?_))
 rw [Around.under_plainId PySem.F.plain_proto_collect _]
 refine qwb (m:=newList []) (wpAny_newObj_type (qwp ⟨plainId_quiet PySem.F.plain_list_iadd _,codeAny_builtin entry_list_iadd' ?_⟩))
 rw [Around.under_plainId PySem.F.plain_list_iadd _]
 have key:=kdl_extend (A:=A) (s:={ s with heap:=s.heap.push { cls:=.type "list",data:=.seq ([]:List Value).toArray } }) (R:=λ(q:Result) (s':Shared)=>∃(h':Heap) (tk:Nat) (acc:Array Value) (c:Nat),q=.ok (.ret (.ref s.heap.objs.size))/\s' = { s with heap:=h',toks:=tk }/\(∀b o,s.heap.get? b=some o->h'.get? b=some o)/\h'.get? s.heap.objs.size=some { cls:=.type "list",dict:=none,data:=.seq acc c,slots:=#[] }/\ItemsOf (λi v=>∃h,(ord w d es ep)[i]? = some (h,v)) acc es.size)
  K hh (K.keep _ _ x λb _ o e=>qps _ e) s.heap.objs.size (Nat.ne_of_gt x.lt) (Nat.ne_of_gt x.lt) (.ref s.heap.objs.size) 0 hS₁
  (λh' tk acc c hk hS' hacc=>⟨h',tk,acc,c,rfl,rfl,λb o e=>hk b o (Nat.ne_of_lt (Heap.lt_size e)) (qps _ e),hS',hacc⟩) hn
 refine wpAny_mono key (λfin s' z=>?_) λe s' z=>let ⟨_,_,_,_,e',_⟩:=z;(by cases e')
 cases fin with
 | done f =>
  obtain ⟨h',tk,acc,c,e,rfl,k,g,a⟩:=z
  cases e
  show wpAny _ A (load s.heap.objs.size >>= _) _ _ _
  exact qwb (wpAny_load g (qwp (zff h' tk acc c k g a)))
 | again c₁ =>
  refine ⟨z.1,codeAny_mono z.2 λq s₂ y=>?_⟩
  obtain ⟨h',tk,acc,c,rfl,rfl,k,g,a⟩:=y
  show wpAny _ A (load s.heap.objs.size >>= _) _ _ _
  exact qwb (wpAny_load g (qwp (zff h' tk acc c k g a)))
theorem zq6:∀{σ ns:List Int},σ.Nodup->(∀i∈σ,i∈ns)->σ.length=ns.length->σ.Perm ns
 | [],ns,_,_,hl=>by rw [List.length_eq_zero_iff.mp hl.symm]
 | i :: r,ns,nd,hs,hl=>by
  have hi:=hs i List.mem_cons_self
  rw [List.nodup_cons] at nd
  have h1:=List.perm_cons_erase hi
  refine (List.Perm.cons i (zq6 (ns:=ns.erase i) nd.2 (λj hj=>?_) ?_)).trans h1.symm
  ·exact (List.mem_erase_of_ne λz=>nd.1 (by rw [<-z];exact hj)).mpr (hs j (List.mem_cons_of_mem _ hj))
  ·have:=h1.length_eq
   simp at this hl
   lia
theorem zq7:∀(l:List (Int × Value)),(∀e∈l,∃i t,e=(hashInt i,.int i t))->∃ns,IntsAre (l.map (·.2)) ns/\l.map (·.1)=ns.map hashInt/\∀i,i∈ns↔∃t,(hashInt i,Value.int i t)∈l
 | [],_=>⟨[],.nil,rfl,λi=>by simp⟩
 | e :: l,h=>by
  obtain ⟨ns,h1,h2,h3⟩:=zq7 l λe he=>h e (List.mem_cons_of_mem _ he)
  obtain ⟨i,t,rfl⟩:=h e (List.mem_cons_self)
  refine ⟨i :: ns,.cons _ t h1,by rw [List.map_cons,List.map_cons,h2],λj=>?_⟩
  rw [List.mem_cons,h3 j]
  constructor
  ·rintro (rfl|⟨t',z⟩)
   ·exact ⟨t,List.mem_cons_self⟩
   ·exact ⟨t',List.mem_cons_of_mem _ z⟩
  ·rintro ⟨t',z⟩
   rcases List.mem_cons.mp z with z|z
   ·have z2:=congrArg Prod.snd z
    simp only [Value.int.injEq] at z2
    exact .inl z2.1
   ·exact .inr ⟨t',z⟩
theorem ISet.walk (x:ISet w d σ h):∃es ep t ns,SAt w h d es ep t/\es.size=σ.length/\IntsAre ((ord w d es ep).toList.map (·.2)) ns/\ns.Perm σ:=by
 obtain ⟨o,e,hx,es,ep,t,hd,ok,pl,ld,el⟩:=x
 have pm:=zq3 w d es ep
 obtain ⟨ns,h1,h2,h3⟩:=zq7 (ord w d es ep).toList λe he=>by
  obtain ⟨i,t,_,z⟩:=el.sub e (pm.mem_iff.mp he)
  exact ⟨i,t,z⟩
 refine ⟨es,ep,t,ns,⟨⟨o,e,hx,hd⟩,ok,pl,ld⟩,el.len,h1,?_⟩
 have hl:ns.length=σ.length:=by
  have q1:=congrArg List.length h2
  have q2:=zft w d es ep
  have q3:=el.len
  rw [qlm,qlm,Array.length_toList] at q1
  lia
 have sub:∀i∈σ,i∈ns:=λi hi=>by
  obtain ⟨t,z⟩:=el.sup i hi
  exact (h3 i).mpr ⟨t,pm.mem_iff.mpr z⟩
 exact (zq6 el.nd sub hl.symm).symm
theorem sorted_set (hh:A.handled=none) (x:ISet w d σ s.heap) (h64:σ.length<64)
  (h:∀(h':Heap) (tk:Nat) (D:Addr) (e:Nat) (out:Array Value),(∀b o,s.heap.get? b=some o->h'.get? b=some o)->s.heap.objs.size<=D->h'.get? D=some (seqObj "list" out e)->IntsAre out.toList (L3.sortI σ)->Q (.ref D) { s with heap:=h',toks:=tk }) :
  wpAny (model prog w) A (call (.builtin "sorted") [.ref d]) Q E s:=by
 obtain ⟨es,ep,t,ns,sa,hz,hi,pm⟩:=x.walk
 refine SP.sorted_lays (ns:=ns) (λE R hR=>yeq (by simpa using hh) sa (by rw [sizeLine_eq];lia) λh' tk sz keep=>hR h' tk _ sz keep hi) (by rw [pm.length_eq];exact h64) λh' tk D e out ns' keep sz hD a1 a2 a3=>?_
 have e1:=zqu (a2.trans pm) a3
 subst e1
 exact h h' tk D e out keep sz hD a1
end
end TS
namespace L3
open PySem PySem.Spec PyProof.Rows L2
noncomputable def ze6 (ns:List Int):List Int:=TS.nubs (λi=>ns.getD i 0) ns.length
theorem yer (ns:List Int):(ze6 ns).length<=ns.length:=TS.nubs_len _ _
theorem yet (ns:List Int) (x:Int):x∈ze6 ns↔x∈ns:=by
 unfold ze6
 rw [TS.nubs_mem,List.mem_iff_getElem]
 constructor
 ·rintro ⟨j,hj,e⟩
  exact ⟨j,hj,by rw [<-e];simp [List.getD,hj]⟩
 ·rintro ⟨j,hj,e⟩
  exact ⟨j,hj,by rw [<-e];simp [List.getD,hj]⟩
theorem zq8 (f:Nat->Int):∀i,(TS.nubs f i).Nodup
 | 0=>List.nodup_nil
 | i+1=>by
  have ih:=zq8 f i
  show (TS.nub (TS.nubs f i) (f i)).Nodup
  unfold TS.nub
  split
  ·exact ih
  ·rename_i hn
   rw [List.nodup_append]
   exact ⟨ih,by simp,λx hx y hy z=>hn (by rw [List.mem_singleton.mp hy] at z;rw [<-z];exact hx)⟩
theorem yeu (ns:List Int):(ze6 ns).Nodup:=zq8 _ _
noncomputable def zgw:FM
 | [.ref n],S=>(lstOf S n).bind λxs=>(zgo xs).bind λns=>if ns.length<64 then some (.ref S.length,S++[.lst ((sortI (ze6 ns)).map .int)]) else none
 | _,_=>none
theorem yev (hT:TS.ISet w a σ h):ObjOk P w H h a (.ext (TS.ISet w a σ)) :=
 ⟨hT,let ⟨o,ho,_⟩:=hT;⟨o,ho⟩,λh1 h2 ⟨o,ho,r⟩ k=>⟨o,k o ho,r⟩⟩
section
def zq9 (X:Cx):List V->Hp->VK->Prop:=λxs H Q=>∃(q:Addr) (ns:List Int),xs=[.ref q]/\SqL X.K H q (ns.map V.int)/\ns.length<64/\∀l,H l=none->Q (.ref l) (upd H l (.ext (TS.ISet X.w l (ze6 ns))))
def zra (X:Cx):List V->Hp->VK->Prop:=λxs H Q=>∃(q:Addr) (σ:List Int),xs=[.ref q]/\H q=some (.ext (TS.ISet X.w q σ))/\σ.length<64/\∀l,H l=none->Q (.ref l) (upd H l (.lst ((sortI σ).map V.int)))
theorem yew (hcalm:X.calm=true):CallR X (.type "set") (zq9 X):=by
 intro pins s σ H xs us Q I r h
 obtain ⟨q,ns,rfl,sq,h64,hq⟩:=h
 obtain ⟨u,rfl,ru⟩:=zcr r
 cases ru
 obtain ⟨its,rv,pl,hz⟩:=I.list sq
 have hl:=rv.length
 rw [qlm] at hl
 have e:its.toArray.size=ns.length:=by simp [hl]
 refine TS.call_set_list_i (ns:=ns) (I.ok.hd hcalm) pl.isList (by simpa using zqs rv) (by rw [e];lia) λh' tk hS hk=>?_
 rw [e] at hS
 exact ⟨.ref s.heap.objs.size,_,I.laid (t':=tk) hk (qlr _) (yev hS),rfl,hq _ (I.hok.fresh (qlr _))⟩
theorem yex (hcalm:X.calm=true):CallR X (.builtin "sorted") (zra X):=by
 intro pins s σ H xs us Q I r h
 obtain ⟨q,τ,rfl,hH,h64,hq⟩:=h
 obtain ⟨u,rfl,ru⟩:=zcr r
 cases ru
 have hO:TS.ISet X.w q τ s.heap:=(I.hok q _ hH).1
 refine TS.sorted_set (I.ok.hd hcalm) hO h64 λh' tk D e out keep sz hD a1=>?_
 exact ⟨.ref D,_,I.laid (t':=tk) keep sz (show ObjOk X.prog X.w _ _ _ (.lst ((sortI τ).map V.int)) from ⟨by rw [qlm,(zqt τ).length_eq,sizeLine_eq];lia,out.toList,e,zqv a1,by rw [hD]⟩),rfl,hq D (I.hok.fresh sz)⟩
theorem yey:Fn3 X.K zgw (λvs H Q=>zq9 X vs H λx H1=>zra X [x] H1 Q):=by
 intro ρ S H xs vs v S' Q sim r h p
 unfold zgw at h
 split at h
 ·obtain ⟨ys,h2,h⟩:=bnd h
  obtain ⟨ns,h3,h⟩:=bnd h
  obtain ⟨hz,e⟩:=za1 h
  cases e
  obtain ⟨w,rfl,rw'⟩:=r.one
  obtain ⟨b,us,hb,sq,rv⟩:=sim.lstOf h2
  cases rw' with
  | ref hn =>
   rw [hb] at hn;cases hn
   have e:=zpv h3 rv
   subst e
   exact ⟨b,ns,rfl,sq,hz,λd hd=>⟨d,ze6 ns,rfl,zbo,Nat.lt_of_le_of_lt (yer ns) hz,zf7 (sim.laid hd) (zqw _) (p.ext (zbx hd))⟩⟩
 ·cases h
theorem yez (hcalm:X.calm=true) (hg:Gl X "sorted") (hm:X.mg "sorted" = none) (hg2:Gl X "set") (hm2:X.mg "set" = none) (ha:PA3 X [a] mA) (he:starEach [a] X.env=(false,eval a X.env) :: starEach [] X.env:=by rfl) (hpl:(backTo pos2 (starEach [] X.env)).any (·.1)=false:=by rfl)
  (he2:starEach [.Call (.Name "set" p2) [a] [] pos2] X.env=(false,eval (.Call (.Name "set" p2) [a] [] pos2) X.env) :: starEach [] X.env:=by rfl) (hpl2:(backTo pos (starEach [] X.env)).any (·.1)=false:=by rfl) :
  PE3 X (.Call (.Name "sorted" p) [.Call (.Name "set" p2) [a] [] pos2] [] pos) (zae zgw mA) :=
 PE.imp (ziw (yex hcalm) hg hm ybq (zeu (zkm (yew hcalm) hg2 hm2 yds ha (by decide) (by decide) he hpl) zf1 he2) (by decide) (by decide) he2 hpl2) (zkw yey)
end
noncomputable def zjq:FM
 | [.ref n],S=>match S[n]? with
  | some (.dct kvs)=>some (.ref S.length,S++[.lst (kvs.map (·.2))])
  | _=>none
 | _,_=>none
theorem kv_vals {κ:Type}{kvs:List (κ × V)}{vs:List (κ × Value)}(r:KV kvs vs):Vals (kvs.map (·.2)) (vs.map (·.2)):=by
 unfold KV at r
 induction r with
 | nil=>exact .nil
 | cons h _ ih=>exact .cons h.2 ih
section
variable {X:Cx}{o:Expr}{mo:EM}{pos apos cpos p:Pos}
def zrb:V->List V->Hp->VK->Prop:=λx vs H Q=>∃(a:Addr) (kvs:List (Key × V)),x=.ref a/\vs=[]/\H a=some (.dK kvs)/\∀l,H l=none->Q (.ref l) (upd H l (.ext λh=>h.IsValuesView l a))
def zrc:List V->Hp->VK->Prop:=λxs H Q=>∃(l a:Addr) (kvs:List (Key × V)),xs=[.ref l]/\H l=some (.ext λh=>h.IsValuesView l a)/\H a=some (.dK kvs)/\∀m,H m=none->Q (.ref m) (upd H m (.lst (kvs.map (·.2))))
theorem ye0:MtR X "dict.values" zrb:=by
 intro pins s σ H x vs v us Q I rx rv h
 obtain ⟨a,kvs,rfl,rfl,hH,q⟩:=h
 cases rx
 have hus:=rv.zero
 subst hus
 obtain ⟨z,hs,xs,rel,dd⟩:=ziz I.hok hH
 refine call_meetsIn PySem.F.slot_dict_values dd.typeIs PySem.F.entry_dict_values (PySem.F.args_dict_values_1 _) (meets_dict_values (zbr X.prog X.w) a hs) ⟨⟨xs,dd⟩,?_⟩
 refine ⟨.ref s.heap.objs.size,_,I.laid (t':=s.toks) (λb o e=>qps _ e) (qlr _) (show ObjOk X.prog X.w _ _ _ (.ext λh=>h.IsValuesView s.heap.objs.size a) from ⟨⟨_,Heap.get?_push_size _ rfl,rfl,rfl⟩,⟨_,Heap.get?_push_size _ rfl⟩,λh1 h2 ⟨o,ho,r⟩ k=>⟨o,k o ho,r⟩⟩),rfl,q _ (I.hok.fresh (qlr _))⟩
theorem ye1 (hcalm:X.calm=true):CallR X (.type "list") zrc:=by
 intro pins s σ H xs us Q I r h
 obtain ⟨l,a,kvs,rfl,hl,hH,q⟩:=h
 obtain ⟨u,rfl,ru⟩:=zcr r
 cases ru
 have hV:s.heap.IsValuesView l a:=(I.hok l _ hl).1
 obtain ⟨z,hs,vs,rel,o,es,ep,ho,hx,hd,k1,k2,k3⟩:=ziz I.hok hH
 have da:s.heap.DictAt (zbr X.prog X.w) a vs ep:=⟨o,es,ho,hx,hd,k1,k2,k3⟩
 have hz:vs.length<=sizeLine:=by rw [<-rel.length];exact z
 refine PySem.W.kdl_call (PySem.W.kdl_values (knd:=zbr X.prog X.w) (r:=l) (d:=a) (kvs:=vs) (ep:=ep)) (I.ok.hd hcalm) ⟨hV,da⟩ hz λh' tk acc c keep hD hacc=>?_
 have e:acc.toList=vs.map (·.2):=by
  apply List.ext_getElem?
  intro j
  rw [qgm,Array.getElem?_toList]
  rcases Nat.lt_or_ge j acc.size with hj|hj
  ·rw [Array.getElem?_eq_getElem hj]
   obtain ⟨k,z⟩:=hacc.2 j _ (Array.getElem?_eq_getElem hj)
   rw [z];rfl
  ·rw [Array.getElem?_eq_none hj,List.getElem?_eq_none (by rw [<-hacc.1];exact hj)];rfl
 refine ⟨.ref s.heap.objs.size,_,I.laid (t':=tk) keep (qlr _) (show ObjOk X.prog X.w _ _ _ (.lst (kvs.map (·.2))) from ⟨by rw [qlm];exact z,acc.toList,c,by rw [e];exact kv_vals rel,by simpa using hD⟩),rfl,q _ (I.hok.fresh (qlr _))⟩
theorem ye2:Un3 X.K (λd S=>zjq [d] S) (λx H Q=>tyV X.K "dict" x H/\zrb x [] H λy H1=>zrc [y] H1 Q):=by
 intro ρ S H x x' v S' Q sim r h p
 dsimp only at h
 unfold zjq at h
 cases x with
 | ref n =>
  dsimp only at h
  split at h
  ·rename_i kvs e
   cases h
   cases r with
   | @ref _ a hn =>
    obtain ⟨us,hH,rr⟩:=sim.at' _ a _ hn e
    refine ⟨.inr (.inr (.inl ⟨rfl,.inl ⟨_,hH⟩⟩)),a,_,rfl,rfl,hH,λd hd=>⟨d,a,_,rfl,zbo,by rw [zaj (zbh hH hd)];exact hH,?_⟩⟩
    rw [List.map_snd_zip]
    ·exact zf7 (sim.laid hd) (rr.mono (zbx hd)) (p.ext (zbx hd))
    ·have:=rr.length
     rw [qlm] at this ⊢
     lia
  ·cases h
 | _=>cases h
noncomputable def zlz (mo:EM):EM:=λl S=>(mo l S).bind λp=>zjq [p.1] p.2
theorem ye3 (hcalm:X.calm=true) (hg:Gl X "list") (hm:X.mg "list" = none) (ho:PE3 X o mo) (hbase:attributeBase o "values" X.env (eval o X.env)=eval o X.env:=by rfl) (hline:(apos.endLine == cpos.line)=true:=by rfl)
  (he:starEach [.Call (.Attribute o "values" apos) [] [] cpos] X.env=(false,eval (.Call (.Attribute o "values" apos) [] [] cpos) X.env) :: starEach [] X.env:=by rfl) (hpl:(backTo pos (starEach [] X.env)).any (·.1)=false:=by rfl) :
  PE3 X (.Call (.Name "list" p) [.Call (.Attribute o "values" apos) [] [] cpos] [] pos) (zlz mo) :=
 PE.imp (zkm (ye1 hcalm) hg hm zzq (zeu (zn3 PySem.F.plainAttrs_dict PySem.F.slot_dict_values PySem.F.type_dict_values ye0 ho hbase hline) zf1 he) (by decide) (by decide) he hpl) λσ H Q hq=>by
  obtain ⟨ρ,l,S,v,S',sim,ro,hm,p⟩:=hq
  obtain ⟨⟨x,S1⟩,h1,hm⟩:=bnd hm
  exact ⟨ρ,l,S,x,S1,sim,ro,h1,λρ1 H1 x' e1 s1 r1=>ye2 ρ1 S1 H1 x x' v S' Q s1 r1 hm (p.ext e1)⟩
end
section
theorem ye4 (F:ze3 X.prog X.w X.K X.mg X.base CA x k n rx) (hxe:∀e s,X.xe e s->False) (hr:Room j X.A) (hkj:k<=j) (hg:Gl X x)
  (ha:PA3 X (a :: es) mA) (hl:∀l S v S',mA l S=some (v,S')->v.length=n) (hdb:(x == ("__debug__":Str))=false) (he:starEach (a :: es) X.env=(false,eval a X.env) :: starEach es X.env) (hpl:(backTo cpos (starEach es X.env)).any (·.1)=false)
  (hs:swapsWith (.Call (.Name x p) (a :: es) [] cpos) none apos.line X.env=pure false)
  {pins:List (Addr × Obj)} {s:Shared} {σ:L2.St} {H:Hp} {Q:Flow->Shared->Prop} (I:Inv X pins σ H s) (h:Rz X.K E CA (zlp rx mA) σ H) :
  wpAny (model X.prog X.w) X.A (execs [.Expr (.Call (.Name x p) (a :: es) [] cpos) apos] X.env) Q (λe s'=>∃H1 s1,Inv X pins σ H1 s1/\CX1 X.prog X.w X.stack H1 s1 E e s') s:=by
 obtain ⟨f,fd,ps,F,hm,hk,hb⟩:=F
 obtain ⟨ρ,l,S,C,S',sim,ro,hz,pz⟩:=h
 obtain ⟨⟨ds,S1⟩,q1,hz⟩:=bnd hz
 refine wpAny_execs_cons (wpAny_mono (Q:=λ_ _=>False) ?_ (λ_ _ z=>z.elim) λ_ _ z=>z)
 refine wpAny_Expr_any (wpAny_mono (Q:=λ_ _=>False) ?_ (λ_ _ z=>z.elim) λ_ _ z=>z) I.quiet hs
 refine wpAny_Call_Name_kw (ziq I hg hm ?_ hdb)
 refine PySem.W.callWith_K (h₀:=X.base) I.ok.mod.kin hk (wpAny_mono (ha cpos pins s σ H (λvs H1=>spZ X.K CA n rx vs H1 (λ_ _=>False) E) I ⟨ρ,l,S,ds,S1,sim,ro,q1,λρ1 H1 vs e1 s1 r1=>⟨by rw [<-r1.length];exact hl _ _ _ _ q1,ρ1,ds,S1,C,S',s1,r1,hz,λρ2 H2 e2 s2=>pz ρ2 H2 (e1.trans e2) s2⟩⟩) (λus s1 ⟨vs,H1,I1,r,q⟩=>⟨I1.kIn,?_⟩) λ_ _ z=>(hxe _ _ z).elim) he hpl
 have r2:Vals (vs++[]) (us++[]):=by rw [List.append_nil,List.append_nil];exact r
 have hlen:(us++[]).length=ps.length:=by rw [List.append_nil,<-r.length];exact F.len _ _ _ _ q
 refine wpAny_call (codeAny_mono (F.run X.A X.stack s1 H1 ⟨us,[]⟩ (us++[]) (vs++[]) (λ_ _=>False) E (hr.mono hkj) I1.env0 (hb s1 us I1.kIn hlen) r2 (by rw [List.append_nil];exact q)) λres s' hq=>?_)
 cases res with
 | error e=>exact ⟨H1,s1,I1,hq⟩
 | ok fl =>
  cases fl with
  | ret u=>obtain ⟨_,_,_,_,_,_,_,z⟩:=hq;exact z.elim
  | next=>exact False.elim hq
  | brk=>exact False.elim hq
  | cont=>exact False.elim hq
theorem ye5 (F:ze3 X.prog X.w X.K X.mg X.base CA x k n rx) (hxe:∀e s,X.xe e s->False) (hr:Room j X.A) (hkj:k<=j) (ha:PA3 X (a :: es) mA) (hl:∀l S v S',mA l S=some (v,S')->v.length=n) (hg:Gl X x:=by rfl) (hdb:(x == ("__debug__":Str))=false:=by decide) (he:starEach (a :: es) X.env=(false,eval a X.env) :: starEach es X.env:=by rfl) (hpl:(backTo cpos (starEach es X.env)).any (·.1)=false:=by rfl)
  (hs:swapsWith (.Call (.Name x p) (a :: es) [] cpos) none apos.line X.env=pure false:=by rfl):TZ X E CA [.Expr (.Call (.Name x p) (a :: es) [] cpos) apos] (zlp rx mA) :=
 λ_ _ _ _ I h=>ye4 F hxe hr hkj hg ha hl hdb he hpl hs I h
end
end L3
namespace HT
open PySem PySem.Spec PyProof.Rows
section
theorem zrd:typeLookup (.type "tuple") (dunderI "add")=pure none:=by rw [typeLookup_type,builtinLookup_eq_fast];kernel_rfl
theorem icat_tup (ht:IsTup s.heap t vs.toArray) (hb:IsTup s.heap b ws.toArray) (hv:vs≠[])
  (h1:ws=[]->Q (.ref t) s) (h2:ws≠[]->Q (.ref s.heap.objs.size) { s with heap:=s.heap.push { cls:=.type "tuple",data:=.seq (vs++ws).toArray } })
  (hsz:vs.length+ws.length<=sizeLine):wpAny (model prog w) A (inplaceOp .Add (.ref t) (.ref b)) Q E s:=by
 obtain ⟨⟨cls,dd,data,sl⟩,ho,hc,n,hd⟩:=id ht
 obtain ⟨⟨cls2,dd2,data2,sl2⟩,ho2,hc2,n2,hd2⟩:=id hb
 simp only at hc hd hc2 hd2
 subst hc hd hc2 hd2
 have e:vs.toArray++ws.toArray=(vs++ws).toArray:=by simp
 by_cases hw:ws=[]
 ·exact wpAny_inplaceOp_concat ⟨_,ho,rfl⟩ ⟨_,ho2,rfl⟩ zrd noFill_tuple_add seq_tuple_add (call_meets PySem.F.slot_tuple_add ⟨_,ho,rfl⟩ PySem.F.entry_tuple_add (PySem.F.args_tuple_add_2 _ _)
   (tuple_addW1 t b vs.toArray ws.toArray n n2 dd dd2 sl sl2 (by simpa using hv) (by simp [hw])) ⟨ho,ho2,h1 hw⟩)
 ·refine wpAny_inplaceOp_concat ⟨_,ho,rfl⟩ ⟨_,ho2,rfl⟩ zrd noFill_tuple_add seq_tuple_add (call_meets PySem.F.slot_tuple_add ⟨_,ho,rfl⟩ PySem.F.entry_tuple_add (PySem.F.args_tuple_add_2 _ _)
   (tuple_addW2 t b vs.toArray ws.toArray n n2 dd dd2 sl sl2 (by simpa using hv) (by simpa using hw) (by rw [List.size_toArray,List.size_toArray];exact hsz)) ⟨ho,ho2,?_⟩)
  rw [e]
  exact h2 hw
end
end HT
namespace L3
open PySem PySem.Spec PyProof.Rows L2
section
theorem ye6:OpR X (inplaceOp .Add) (zg7 X.K):=by
 intro pins s σ H x y v u Q I rx ry h
 obtain ⟨a,b,xs,ys,rfl,rfl,ha,hb,hx,hz,q1,q2⟩:=h
 cases rx
 cases ry
 obtain ⟨its,r1,p1,_⟩:=I.tuple ha
 obtain ⟨its2,r2,p2,_⟩:=I.tuple hb
 refine HT.icat_tup p1 p2 (λz=>hx (r1.nil_iff.mp z)) (λz=>⟨.ref a,H,I,rfl,q1 (r2.nil_iff.mp z)⟩) (λz=>?_) (by rw [<-r1.length,<-r2.length];exact hz)
 refine ⟨.ref s.heap.objs.size,_,I.laid (t':=s.toks) (o:=.tup (xs++ys)) (λb ob q=>qps _ q) (qlr _) ?_,rfl,q2 (λw=>z (r2.nil_iff.mpr w)) _ (I.hok.fresh (qlr _))⟩
 exact ⟨by rw [qla];exact hz,_,r1.append r2,IsTD.new _ _⟩
noncomputable def zh6:D->D->Sto->Option (D × Sto)
 | .tup (x :: xs),.tup ys,S=>if (x :: xs).length+ys.length<=sizeLine then some (.tup (x :: xs++ys),S) else none
 | _,_,_=>none
theorem ye7 {K:QFg}:Op3 K zh6 (zg7 K):=by
 intro ρ S H x y x' y' v S' Q sim rx ry h p
 unfold zh6 at h
 split at h
 ·obtain ⟨hz,e⟩:=za1 h
  cases e
  cases rx with
  | @tup xs a vs ha r =>
   cases ry with
   | @tup ys b ws hb q =>
    cases r with
    | cons r1 r2 =>
     refine ⟨a,b,_,ws,rfl,rfl,SqT.of ha,SqT.of hb,by simp,by rw [<-(RDs.cons r1 r2).length,<-q.length];exact hz,λe=>?_,λ_=>?_⟩
     ·subst e
      cases q
      rw [List.append_nil] at p
      exact p ρ H _ (Ext.refl ..) sim (.tup ha (.cons r1 r2))
     ·exact zf6 sim ((RDs.cons r1 r2).append q) p
 ·cases h
noncomputable def zjr (mo mi mv:EM):SM:=λl S=>(mo l S).bind λo=>(mi l o.2).bind λi=>(zhv o.1 i.1 i.2).bind λx=>(mv l x.2).bind λy=>(zh6 x.1 y.1 y.2).bind λz=>(zll o.1 i.1 z.1 z.2).bind λS'=>some (.nx,l,S')
theorem ye8 (hr:Room k X.A) (ho:PE3 X o mo) (hi:PE3 X i mi) (hv:PE3 X value mv)
  (ha:∀ov iv new,augStore i ov iv new=(do holding [new,ov,iv] (setItem ov iv new);release [new,ov,iv] [];pure .next):=by intros;rfl) :
  PS3 X (.AugAssign (.Subscript o i tpos) .Add value pos) (zjr mo mi mv):=PS.imp (zyb (zgm hr) ho hi hv ye6 ha) λE σ H hx1_=>by
 obtain ⟨ρ,l,S,f,l',S',sim,ro,hm,p⟩:=hx1_
 obtain ⟨⟨x,S1⟩,h1,hm⟩:=bnd hm
 obtain ⟨⟨y,S2⟩,h2,hm⟩:=bnd hm
 obtain ⟨⟨v,S3⟩,h3,hm⟩:=bnd hm
 obtain ⟨⟨z,S4⟩,h4,hm⟩:=bnd hm
 obtain ⟨⟨u,S5⟩,h5,hm⟩:=bnd hm
 obtain ⟨S6,h6,hm⟩:=bnd hm
 cases hm
 refine ⟨ρ,l,S,x,S1,sim,ro,h1,λρ1 H1 x' e1 s1 r1=>⟨ρ1,l,S1,y,S2,s1,ro.mono e1,h2,λρ2 H2 y' e2 s2 r2=>?_⟩⟩
 have r12:=r1.mono e2
 obtain ⟨a,w,ex,g,ρw,ew,sw,rw'⟩:=ybk ρ2 S2 H2 x y x' y' v S3 (λw H3=>∃ρ3,Ext ρ2 H2 ρ3 H3/\Sim X.K ρ3 S3 H3/\RD ρ3 H3 v w) s2 r12 r2 h3 λρ' H' v' e s r=>⟨ρ',e,s,r⟩
 refine ⟨a,w,ex,g,ρw,l,S3,z,S4,sw,((ro.mono e1).mono e2).mono ew,h4,λρ4 H4 z' e4 s4 r4=>?_⟩
 refine ye7 ρ4 S4 H4 v z w z' u S5 _ s4 (rw'.mono e4) r4 h5 λρ5 H5 u' e5 s5 r5=>?_
 subst ex
 cases r12 with
 | @ref n a' hn =>
  obtain ⟨kvs,q1,h6⟩:=bnd (show (zeb S5 n).bind (λkvs=>(zep y).bind λk=>if kvs.length<sizeLine then some (S5.set n (.dct (zc6 kvs k u))) else none)=some _ from h6)
  obtain ⟨ky,q2,h6⟩:=bnd h6
  obtain ⟨hz,e⟩:=za1 h6
  cases e
  obtain ⟨b,vs,hb,hH,r⟩:=s5.dct (zhu q1)
  have e25:=ew.trans (e4.trans e5)
  have hn5:=e25.pre _ _ hn
  rw [hb] at hn5;cases hn5
  have ey:=zgl q2 (r2.mono e25)
  subst ey
  have hl:((kvs.map (·.1)).zip vs).length=kvs.length:=by rw [List.length_zip,qlm];have:=r.length;rw [qlm] at this;lia
  obtain ⟨ws,hw1,hw2⟩:=zps (k:=ky) r5 r
  refine ⟨_,DPut.k hH (by rw [hl];exact hz),?_⟩
  have ex:=zhd (o:=.dK (zbs ((kvs.map (·.1)).zip vs) ky u')) hb hH (zgn _)
  refine p ρ5 _ σ ((e1.trans (e2.trans e25)).trans ex) (s5.setG hb (zhu q1) rfl hH (zgn _) ?_) ((ro.mono (e1.trans (e2.trans e25))).mono ex)
  exact ⟨ws,by rw [zbo,hw1],hw2.mono ex⟩
 | _=>cases h6
end
noncomputable def ye9:Ob->Bool
 | .lam _ _=>false
 | _=>true
noncomputable def zl0:Ob->Bool
 | .lam _ _=>false
 | .fdct _=>false
 | _=>true
section
variable {K:QFg}{ρ:List Addr}{H H':Hp}{S:Sto}
theorem ObR.thaw (ha:H a=some (.frz o (.dK kvs))) (hl:ye9 ob=true) (hb:(∃q,ob=.fdct q)->b≠a) (h:ObR K ρ H ob b):ObR K ρ (upd H a (.dK kvs)) ob b:=by
 have off:∀c u,H c=some u->(∀o q,u≠.frz o (.dK q))->upd H a (.dK kvs) c=some u:=λc u e n=>by
  rw [zaj];exact e
  intro z
  rw [z,ha] at e;cases e
  exact n _ _ rfl
 have tp:∀c vs,H c=some (.tup vs)->upd H a (.dK kvs) c=some (.tup vs):=λc vs e=>off c _ e λo q z=>(by cases z)
 have cf:∀q c,CodeF H q c->CodeF (upd H a (.dK kvs)) q c:=λq c ⟨oc,vs,t,h1,h2,h3⟩=>⟨oc,vs,t,off _ _ h1 λo q z=>(by cases z),h2,h3⟩
 cases ob with
 | lst xs=>obtain ⟨vs,e1,r⟩:=h;exact ⟨vs,off _ _ e1 λo q z=>(by cases z),r.tupm tp⟩
 | flst xs =>
  obtain ⟨vs,e1,r⟩:=h
  refine ⟨vs,?_,r.tupm tp⟩
  rcases e1 with ⟨o,e1⟩|e1
  ·exact .inl ⟨o,off _ _ e1 λo q z=>(by cases z)⟩
  ·exact .inr e1
 | iset f n=>exact off _ _ h λo q z=>(by cases z)
 | dct kvs=>obtain ⟨vs,e1,r⟩:=h;exact ⟨vs,off _ _ e1 λo q z=>(by cases z),r.tupm tp⟩
 | tdct kvs=>obtain ⟨vs,e1,r⟩:=h;exact ⟨vs,off _ _ e1 λo q z=>(by cases z),r.tupm tp⟩
 | fdct kvs=>obtain ⟨o,vs,e1,r⟩:=h;exact ⟨o,vs,by rw [zaj (hb ⟨_,rfl⟩)];exact e1,r.tupm tp⟩
 | ftdct kvs=>obtain ⟨o,vs,e1,r⟩:=h;exact ⟨o,vs,off _ _ e1 λo q z=>(by cases z),r.tupm tp⟩
 | tset ks=>obtain ⟨xs,e0,e1,r⟩:=h;exact ⟨xs,e0,off _ _ e1 λo q z=>(by cases z),λp hq=>tp _ _ (r p hq)⟩
 | fnc x=>exact h
 | exc c=>obtain ⟨C,hc',e1⟩:=h;exact ⟨C,hc',off _ _ e1 λo q z=>(by cases z)⟩
 | tab x=>obtain ⟨c,ps,h1,h2,e1,t1,t2⟩:=h;exact ⟨c,ps,h1,h2,off _ _ e1 λo q z=>(by cases z),t1,λpos cv z=>let ⟨c,y,k⟩:=t2 pos cv z;⟨c,y,cf _ _ k⟩⟩
 | lam g caps=>cases hl
 | dead=>obtain ⟨o,fd,e1,d⟩:=h;exact ⟨o,fd,off _ _ e1 λo q z=>(by cases z),d⟩
end
section
variable {X:Cx}{pins:List (Addr × Obj)}{σ:L2.St}{H H1:Hp}{s s1:Shared}
theorem Inv.thaw (I1:Inv X pins σ1 H1 s1) (h1:H1 a=some (.dK kvs1)) (I:Inv X pins σ H s) (ha:H a=some (.frz o (.dK kvs))):Inv X pins σ (upd H a (.dK kvs)) s:=by
 have ne:∀b,H b=none->b≠a:=λb e z=>by rw [z,ha] at e;cases e
 have up:∀b,H b=none->upd H a (.dK kvs) b=none:=λb e=>by rw [zaj (ne b e)];exact e
 refine ⟨I.ok,I.os,I.bare,⟨I.base.keep,I.base.slot,λb o e n x=>up b (I.base.free b o e n x),I.base.there,λb xs e=>?_,λb o u e=>?_,λb ps e=>?_⟩,I.loc,I.cell,up _ I.free,λx c e=>up _ (I.freeC x c e),λp hp=>let ⟨q1,q2,q3⟩:=I.pin p hp;⟨q1,up _ q2,q3⟩,?_,I.len⟩
 ·rw [zaj];exact I.base.tups b xs e
  intro z;have:=I1.base.tups b xs e;rw [z,h1] at this;cases this
 ·rw [zaj];exact I.base.frzs b o u e
  intro z;have:=I1.base.frzs b o u e;rw [z,h1] at this;cases this
 ·obtain ⟨m,e2⟩:=I.base.tbls b ps e
  exact ⟨m,by rw [zaj];exact e2;intro z;obtain ⟨_,this⟩:=I1.base.tbls b ps e;rw [z,h1] at this;cases this⟩
 ·intro b u q
  by_cases hb:b=a
  ·subst hb;rw [zbo] at q;cases q
   exact (I.hok b _ ha).2
  ·rw [zaj hb] at q
   refine (I.hok b u q).stay (λc v _ r=>r) (λc r=>?_) λc xs r=>?_
   ·rw [zaj (zcm r ha (λz=>by cases z))];exact r
   ·rw [zaj (zcm r ha (λz=>by cases z))];exact r
end
section
open Classical in
noncomputable def zh7 (i:Nat) (m:SM):SM:=λl S=>(m l S).bind λp=>match p.1,l[i]? with
 | .nx,some (some (.ref n))=>match S[n]?,p.2.2[n]? with
  | some (.dct _),some (.fdct kvs)=>if p.2.2.take S.length=S.set n (.fdct kvs)/\(p.2.2.drop S.length).all zl0=true then some (.nx,p.2.1,p.2.2.set n (.dct kvs)) else none
  | _,_=>none
 | _,_=>none
open Classical in
theorem yfa {st:Stmt}(i:Nat) (he:PS3 X st m):PS3 X st (zh7 i m):=by
 intro pins s σ H D I h
 obtain ⟨ρ,l,S,f,l',S',sim,ro,hm,p⟩:=h
 obtain ⟨⟨f1,l1,S1⟩,h1,hm⟩:=bnd hm
 dsimp only at hm
 split at hm
 ·rename_i n hl
  split at hm
  ·rename_i kv0 kvs e0 e1
   obtain ⟨hc,e2⟩:=za1 hm
   cases e2
   obtain ⟨hc1,hc2⟩:=hc
   rw [List.all_eq_true] at hc2
   obtain ⟨a,vs0,ha,hH,_⟩:=sim.dct e0
   refine thn (he pins s σ H ⟨λσ1 H'=>∃ρ',Ext ρ H ρ' H'/\Sim X.K ρ' S1 H'/\RO ρ' H' l' σ1,λ_ _=>False,λ_ _=>False,λ_ _=>False⟩ I ⟨ρ,l,S,.nx,l',S1,sim,ro,h1,λρ' H' σ' e s r=>⟨ρ',e,s,r⟩⟩) λfl s1 q=>?_
   cases fl with
   | brk=>obtain ⟨_,_,_,z⟩:=q;exact z.elim
   | cont=>obtain ⟨_,_,_,z⟩:=q;exact z.elim
   | ret u=>obtain ⟨_,_,_,_,_,z⟩:=q;exact z.elim
   | next =>
   obtain ⟨σ1,H',I1,ρ',ex,sim1,ro1⟩:=q
   have ha':=ex.pre _ _ ha
   obtain ⟨o,vs,hF,rr⟩:=sim1.at' _ a _ ha' e1
   have tp:∀c xs,H' c=some (.tup xs)->upd H' a (.dK ((kvs.map (·.1)).zip vs)) c=some (.tup xs):=λc xs e=>by
    rw [zaj (zcm e hF (λz=>by cases z))];exact e
   have ex2:Ext ρ H ρ' (upd H' a (.dK ((kvs.map (·.1)).zip vs))):=by
    refine ⟨⟨ex.pre,λc xs e=>tp _ _ (ex.tup c xs e),λc o u e=>?_⟩,λc u e hn=>?_⟩
    ·rw [zaj (zcm e hH (λz=>by cases z))];exact ex.frz c o u e
    ·obtain ⟨q1,q2⟩:=ex.out c u e hn
     exact ⟨by rw [zaj (λz=>hn n (by rw [z];exact ha))];exact q1,q2⟩
   have hlt:n<S1.length:=(qme e1).1
   have old:∀(j:Nat) (ob:Ob),j≠n->j<S.length->S1[j]? = some ob->S[j]? = some ob:=λj ob hj hs h=>by
    have:=congrArg (λx=>x[j]?) hc1
    rw [List.getElem?_take,if_pos hs,List.getElem?_set_ne (Ne.symm hj),h] at this
    exact this.symm
   have new:∀(j:Nat) (ob:Ob),S.length<=j->S1[j]? = some ob->zl0 ob=true:=λj ob hs h=>by
    refine hc2 ob (List.mem_iff_getElem?.mpr ⟨j-S.length,?_⟩)
    rw [List.getElem?_drop,Nat.add_sub_cancel' hs];exact h
   refine ⟨σ1,_,Inv.thaw I hH I1 hF,p ρ' _ σ1 ex2 ⟨by rw [List.length_set];exact sim1.len,λj k b o1 o2 q1 q2 q3 q4 m1 m2=>?_,λj b ob q1 q2=>?_⟩ ⟨ro1.len,λj d h=>let ⟨v,q1,q2⟩:=ro1.get j d h;⟨v,q1,q2.tupm tp⟩⟩⟩
   ·by_cases hj:j=n
    ·by_cases hk:k=n
     ·rw [hj,hk]
     ·exfalso
      rw [List.getElem?_set_ne (Ne.symm hk)] at q4
      rw [hj,ha'] at q1;cases q1
      exact hk (sim1.nd k n _ o2 (.fdct kvs) q2 ha' q4 e1 m2 rfl)
    ·rw [List.getElem?_set_ne (Ne.symm hj)] at q3
     by_cases hk:k=n
     ·exfalso
      rw [hk,ha'] at q2;cases q2
      exact hj (sim1.nd j n _ o1 (.fdct kvs) q1 ha' q3 e1 m1 rfl)
     ·rw [List.getElem?_set_ne (Ne.symm hk)] at q4
      exact sim1.nd j k b o1 o2 q1 q2 q3 q4 m1 m2
   ·by_cases hj:j=n
    ·subst hj
     rw [List.getElem?_set_self hlt] at q2
     cases q2
     rw [ha'] at q1;cases q1
     exact ⟨vs,zbo,rr.tupm tp⟩
    ·rw [List.getElem?_set_ne (Ne.symm hj)] at q2
     have r1:=sim1.at' j b ob q1 q2
     rcases Nat.lt_or_ge j S.length with hs|hs
     ·have q0:=old j ob hj hs q2
      obtain ⟨b0,hb0⟩:∃b0,ρ[j]? = some b0:=⟨ρ[j]'(by rw [sim.len];exact hs),qge _⟩
      have hbb:=ex.pre _ _ hb0
      rw [q1] at hbb;cases hbb
      have r0:=sim.at' j b ob hb0 q0
      cases ob with
      | lam g caps=>obtain ⟨cs,pm,c,ctv,e1,k,r⟩:=r0;exact ⟨cs,pm,c,ctv,ex2.frz _ _ _ e1,k.mono ex2.frz,r.mono ex2.toExt0⟩
      | fdct q=>obtain ⟨o,vs,e1,r⟩:=r0;exact ⟨o,vs,ex2.frz _ _ _ e1,r.mono0 ex2.toExt0⟩
      | _=>exact r1.thaw hF rfl (λhx1_=>by obtain ⟨q,z⟩:=hx1_;cases z)
     ·have hn:=new j ob hs q2
      cases ob with
      | lam g caps=>cases hn
      | fdct q=>cases hn
      | _=>exact r1.thaw hF rfl (λhx2_=>by obtain ⟨q,z⟩:=hx2_;cases z)
  ·cases hm
 ·cases hm
end
theorem zaw {α:Type}{x:α}{p:α->Prop}:(∃d,(some (some x):Option (Option α))=some (some d)/\p d)=p x:=by
 apply propext;constructor
 ·rintro ⟨d,h,q⟩;cases h;exact q
 ·exact λq=>⟨x,rfl,q⟩
theorem zcl {α:Type}{x:α}{p:α->Prop}:(∃d,(some x:Option α)=some d/\p d)=p x:=by
 apply propext;constructor
 ·rintro ⟨d,h,q⟩;cases h;exact q
 ·exact λq=>⟨x,rfl,q⟩
theorem zfu {b:Bool}{p:Bool->Prop}:(∃k,D.bl b=D.bl k/\p k)=p b:=by
 apply propext;constructor
 ·rintro ⟨d,h,q⟩;cases h;exact q
 ·exact λq=>⟨b,rfl,q⟩
theorem yfb {α:Type}{x y:α}:L2.atI [x,y] 0=some x:=rfl
theorem yfc {α:Type}{x y:α}:L2.atI [x,y] 1=some y:=rfl
theorem yfd {α:Type}{x y z:α}:L2.atI [x,y,z] 0=some x:=rfl
theorem yfe {α:Type}{x y z:α}:L2.atI [x,y,z] 1=some y:=rfl
theorem yff {α:Type}{x y z:α}:L2.atI [x,y,z] 2=some z:=rfl
theorem zdk:lstOf (S++[.lst xs]) S.length=some xs:=by unfold lstOf;rw [zd2]
theorem yfg {α:Type}(xs:List α) (i:Int) (h0:0<=i) (h1:i<xs.length):∃x,L2.atI xs i=some x/\x∈xs:=by
 have hl:i.toNat<xs.length:=by omega
 refine ⟨xs[i.toNat],?_,qem hl⟩
 unfold L2.atI L2.ixN
 rw [if_pos h0,if_pos h1]
 simp [hl]
theorem atI_get {α:Type}{xs:List α}{i:Nat}{x:α}(h:xs[i]? = some x):L2.atI xs (i:Int)=some x:=by
 have hl:=(qme h).1
 unfold L2.atI L2.ixN
 rw [if_pos (by omega),if_pos (by omega)]
 simpa using h
section
theorem yfh:Wo (zfo (.int i) (.int j) S) Q=(((-(2 ^ 64)<i/\i<2 ^ 64)\/(-(2 ^ 64)<j/\j<2 ^ 64))/\Q (.int (i*j)) S):=zem
theorem zjs:Wo (zap (.tup xs) (.int i) S) Q = ∃v,L2.atI xs i=some v/\Q v S:=by
 have e:zap (.tup xs) (.int i) S=dIx (.tup xs) (.int i) S:=by
  unfold zap
  cases h:dIx (.tup xs) (.int i) S with
  | some v=>rfl
  | none=>rfl
 rw [e,zpa]
theorem zet:Wo (zap (.ref k) (.int i) S) Q = ∃xs,lstOf S k=some xs/\∃v,L2.atI xs i=some v/\Q v S:=by
 have e:zap (.ref k) (.int i) S=dIx (.ref k) (.int i) S:=by
  unfold zap
  cases h:dIx (.ref k) (.int i) S with
  | some v=>rfl
  | none=>rfl
 rw [e,zpb]
theorem zjt:Wo (zcp [.ref k] S) Q = ∃xs,lstOf S k=some xs/\Q (.int xs.length) S:=zpd
theorem yfi:Wo (zcp [.tup xs] S) Q=Q (.int xs.length) S:=zpc
theorem yfj:Wo (dNe (.int i) (.int j) S) Q=Q (.bl (!decide (i=j))) S:=zbq
theorem yfk:Wo (zhs [.ref n] S) Q = ∃xs,lstOf S n=some xs/\xs.all zen=true/\Q (.bl (xs.all isT)) S:=by
 show Wo ((lstOf S n).bind λxs=>if xs.all zen=true then some (.bl (xs.all isT),S) else none) Q=_
 rw [ze0];simp only [zem]
theorem yfl:Wo (zgk [.ref n] S) Q = ∃xs,lstOf S n=some xs/\xs.all zen=true/\Q (.bl (xs.any isT)) S:=by
 show Wo ((lstOf S n).bind λxs=>if xs.all zen=true then some (.bl (xs.any isT),S) else none) Q=_
 rw [ze0];simp only [zem]
end
def Gr (S0 S:Sto):Prop:=∃ex,S=S0++ex
theorem Gr.refl (S:Sto):Gr S S:=⟨[],by rw [List.append_nil]⟩
theorem Gr.trans (h:Gr A B) (g:Gr B C):Gr A C:=by obtain ⟨x,rfl⟩:=h;obtain ⟨y,rfl⟩:=g;exact ⟨x++y,by rw [List.append_assoc]⟩
theorem Gr.push (h:Gr A B) (o:Ob):Gr A (B++[o]):=h.trans ⟨[o],rfl⟩
theorem Gr.get {n:Nat}{o:Ob}(h:Gr A B) (e:A[n]? = some o):B[n]? = some o:=by
 obtain ⟨x,rfl⟩:=h
 rw [List.getElem?_append_left (qme e).1];exact e
theorem Gr.lst (h:Gr A B) (e:lstOf A n=some xs):lstOf B n=some xs:=by
 unfold lstOf at e ⊢
 cases q:A[n]? with
 | none=>rw [q] at e;cases e
 | some o=>rw [h.get q];rw [q] at e;exact e
section
theorem zju (xs:List D) (R:Nat->List D->Lo->Sto->Prop) (hit:∀i acc l S,R i acc l S->it i S=some xs[i]?)
  (step:∀(i:Nat) x acc l S,xs[i]? = some x->R i acc l S->Wg (g x l S) λl1 S1=>Wt t l1 S1 λb S2=>if b=true then We e l1 S2 λv S3=>R (i+1) (acc++[v]) l1 S3 else R (i+1) acc l1 S2) :
  ∀(n i:Nat) (acc:List D) (l:Lo) (S:Sto),n+i=xs.length->R i acc l S->∃rest S' l',zci it g t e (n+1) i l S=some (rest,S')/\R xs.length (acc++rest) l' S'
 | 0,i,acc,l,S,hn,h=>by
  have hi:i=xs.length:=by omega
  have e0:=hit i acc l S h
  rw [List.getElem?_eq_none_iff.mpr (by omega)] at e0
  refine ⟨[],S,l,?_,by rw [List.append_nil,<-hi];exact h⟩
  unfold zci;rw [e0];rfl
 | n+1,i,acc,l,S,hn,h=>by
  have hi:i<xs.length:=by omega
  have e0:=hit i acc l S h
  rw [qge hi] at e0
  obtain ⟨l1,S1,e1,b,S2,e2,q⟩:=step i _ acc l S (qge hi) h
  cases b with
  | true =>
   obtain ⟨v,S3,e3,q⟩:=q
   obtain ⟨rest,S',l',e4,q⟩:=zju xs R hit step n (i+1) (acc++[v]) l1 S3 (by omega) q
   refine ⟨v :: rest,S',l',?_,by rw [List.append_assoc] at q;exact q⟩
   unfold zci;rw [e0];show (g _ l S).bind _=_;rw [e1];show (t l1 S1).bind _=_;rw [e2]
   show (e l1 S2).bind _=_;rw [e3];show (zci it g t e (n+1) (i+1) l1 S3).bind _=_;rw [e4];rfl
  | false =>
   obtain ⟨rest,S',l',e4,q⟩:=zju xs R hit step n (i+1) acc l1 S2 (by omega) q
   refine ⟨rest,S',l',?_,q⟩
   unfold zci;rw [e0];show (g _ l S).bind _=_;rw [e1];show (t l1 S1).bind _=_;rw [e2]
   exact e4
theorem zh8 (xs:List D) (R:Nat->List D->Lo->Sto->Prop) (him:im l S=some (it,xs.length+1,S1)) (h0:R 0 [] (za5 ixs l) S1) (hit:∀i acc l S,R i acc l S->it i S=some xs[i]?)
  (step:∀(i:Nat) x acc l S,xs[i]? = some x->R i acc l S->Wg (g x l S) λl1 S1=>Wt t l1 S1 λb S2=>if b=true then We e l1 S2 λv S3=>R (i+1) (acc++[v]) l1 S3 else R (i+1) acc l1 S2)
  (fin:∀acc l' S',R xs.length acc l' S'->acc.length<=sizeLine/\Q (.ref S'.length) (S'++[.lst acc])):We (zbd im ixs g t e) l S Q:=by
 obtain ⟨rest,S',l',h1,h2⟩:=zju (it:=it) (g:=g) (t:=t) (e:=e) xs R hit step xs.length 0 [] (za5 ixs l) S1 rfl h0
 obtain ⟨hz,q⟩:=fin rest l' S' h2
 refine ⟨_,_,?_,q⟩
 unfold zbd;rw [him];show (zci it g t e (xs.length+1) 0 (za5 ixs l) S1).bind _=_;rw [h1];show (if _ then _ else _)=_;rw [if_pos hz]
theorem yfm (xs:List D) (F:D->D) (P:Sto->Prop) (L:Lo->Prop) (him:im l S=some (it,xs.length+1,S1)) (h0:P S1) (l0:L (za5 ixs l)) (hit:∀i S,P S->it i S=some xs[i]?) (hz:xs.length<=sizeLine)
  (step:∀x l S,x∈xs->L l->P S->Wg (g x l S) λl1 S2=>P S2/\L l1/\We e l1 S2 λv S3=>v=F x/\P S3)
  (fin:∀S',P S'->Q (.ref S'.length) (S'++[.lst (xs.map F)])):We (zbd im ixs g zar e) l S Q:=by
 refine zh8 xs (λi acc l S=>acc=(xs.take i).map F/\L l/\P S) him ⟨rfl,l0,h0⟩ (λi acc l S h=>hit i S h.2.2) ?_ ?_
 ·rintro i x acc l S hx ⟨rfl,hl,hp⟩
  obtain ⟨l1,S2,e1,p1,q1,v,S3,e2,rfl,p3⟩:=step x l S (qmg hx) hl hp
  refine ⟨l1,S2,e1,?_⟩
  dsimp only
  rw [zhn,if_pos rfl]
  refine ⟨_,S3,e2,?_,q1,p3⟩
  rw [List.take_add_one,hx];simp
 ·rintro acc l' S' ⟨rfl,hl,hp⟩
  rw [List.take_length]
  exact ⟨by rw [qlm];exact hz,fin S' hp⟩
theorem zh9 (xs:List D) (F:D->Option D) (P:Sto->Prop) (L:Lo->Prop) (him:im l S=some (it,xs.length+1,S1)) (h0:P S1) (l0:L (za5 ixs l)) (hit:∀i S,P S->it i S=some xs[i]?) (hz:xs.length<=sizeLine)
  (step:∀x l S,x∈xs->L l->P S->Wg (g x l S) λl1 S2=>L l1/\Wt t l1 S2 λb S3=>P S3/\(b=false->F x=none)/\(b=true->We e l1 S3 λv S4=>F x=some v/\P S4))
  (fin:∀S',P S'->Q (.ref S'.length) (S'++[.lst (xs.filterMap F)])):We (zbd im ixs g t e) l S Q:=by
 refine zh8 xs (λi acc l S=>acc=(xs.take i).filterMap F/\L l/\P S) him ⟨rfl,l0,h0⟩ (λi acc l S h=>hit i S h.2.2) ?_ ?_
 ·rintro i x acc l S hx ⟨rfl,hl,hp⟩
  obtain ⟨l1,S2,e1,q1,b,S3,e2,p3,hf,ht⟩:=step x l S (qmg hx) hl hp
  refine ⟨l1,S2,e1,b,S3,e2,?_⟩
  have et:xs.take (i+1)=xs.take i++[x]:=by rw [List.take_add_one,hx];rfl
  cases b with
  | true =>
   obtain ⟨v,S4,e4,hv,p4⟩:=ht rfl
   dsimp only
   rw [if_pos rfl]
   refine ⟨v,S4,e4,?_,q1,p4⟩
   rw [et,List.filterMap_append];simp [hv]
  | false =>
   dsimp only
   rw [if_neg Bool.false_ne_true]
   refine ⟨?_,q1,p3⟩
   rw [et,List.filterMap_append];simp [hf rfl]
 ·rintro acc l' S' ⟨rfl,hl,hp⟩
  rw [List.take_length]
  exact ⟨Nat.le_trans (List.length_filterMap_le _ _) hz,fin S' hp⟩
theorem yfn (xs:List D) (V:D->Prop) (P:Nat->Sto->Prop) (L:Lo->Prop) (him:im l S=some (it,xs.length+1,S1)) (h0:P 0 S1) (l0:L (za5 ixs l)) (hit:∀i S,P i S->it i S=some xs[i]?) (hz:xs.length<=sizeLine)
  (step:∀(i:Nat) x l S,xs[i]? = some x->L l->P i S->Wg (g x l S) λl1 S2=>L l1/\We e l1 S2 λv S3=>V v/\P (i+1) S3)
  (fin:∀vs S',vs.length=xs.length->(∀v∈vs,V v)->P xs.length S'->Q (.ref S'.length) (S'++[.lst vs])):We (zbd im ixs g zar e) l S Q:=by
 refine zh8 xs (λi acc l S=>acc.length=i/\(∀v∈acc,V v)/\L l/\P i S) him ⟨rfl,(λv hv=>by cases hv),l0,h0⟩ (λi acc l S h=>hit i S h.2.2.2) ?_ ?_
 ·rintro i x acc l S hx ⟨hl,hv,hL,hp⟩
  obtain ⟨l1,S2,e1,q1,v,S3,e2,hv2,p3⟩:=step i x l S hx hL hp
  refine ⟨l1,S2,e1,?_⟩
  dsimp only
  rw [zhn,if_pos rfl]
  refine ⟨v,S3,e2,by simp [hl],λu hu=>?_,q1,p3⟩
  rcases List.mem_append.mp hu with hu|hu
  ·exact hv u hu
  ·rw [List.mem_singleton.mp hu];exact hv2
 ·rintro acc l' S' ⟨hl,hv,hL,hp⟩
  exact ⟨by rw [hl];exact hz,fin acc S' hl hv hp⟩
end
theorem yfo (h:as l S=some ([.int j],S1)) (hz:-(2 ^ 62)<=j/\j<2 ^ 62):zbj as l S=some ((0,j.toNat),S1):=by
 unfold zbj;rw [h];simp only [Option.bind_some];rw [if_pos hz]
theorem zgx (h:as l S=some ([.int (n:Int)],S1)) (hn:n<1000000000):zco (zbj as) l S=some (itX (zas 0 n),(zas 0 n).length+1,S1):=by
 have:=yfo h ⟨by omega,by omega⟩
 unfold zco;rw [this];simp only [Option.bind_some,Int.toNat_natCast,zdh]
theorem zjv (h:e l S=some (.tup xs,S1)):zcd e l S=some (itX xs,xs.length+1,S1):=by
 unfold zcd;rw [h];rfl
theorem zjw (h:e l S=some (.ref n,S1)) (hn:lstOf S1 n=some xs):zcd e l S=some (itL n,xs.length+1,S1):=by
 unfold zcd;rw [h];show (lstOf S1 n).bind _=_;rw [hn];rfl
theorem zjx (hn:lstOf S n=some xs):itL n i S=some xs[i]?:=by unfold itL;rw [hn];rfl
section
theorem zl1 (P:Nat->Lo->Sto->Prop) (O:D->Sto->Prop):∀(xs:List D) (k:Nat) (l:Lo) (S:Sto),P k l S ->
  (∀(i:Nat) x l S,xs[i]? = some x->P (k+i) l S->Wg (g x l S) λl1 S1=>Ws b l1 S1 λf l2 S2=>((f=.nx\/f=.ct)/\P (k+i+1) l2 S2)\/∃d,f=.rt d/\O d S2) ->
  Wr (zde g b xs l S) λf l' S'=>(f=.nx/\P (k+xs.length) l' S')\/∃d,f=.rt d/\O d S'
 | [],k,l,S,h0,_=>⟨_,_,_,rfl,.inl ⟨rfl,h0⟩⟩
 | x :: xs,k,l,S,h0,hs=>by
  obtain ⟨l1,S1,e1,f,l2,S2,e2,q⟩:=hs 0 x l S rfl h0
  rcases q with ⟨hf,h1⟩|⟨d,rfl,hd⟩
  ·have ih:=zl1 P O xs (k+1) l2 S2 h1 λi y l S hy hp=>by
    have:=hs (i+1) y l S (by simpa using hy) (by rw [show k+(i+1)=k+1+i by omega];exact hp)
    rw [show k+(i+1)+1=k+1+i+1 by omega] at this
    exact this
   obtain ⟨f',l',S',e3,q1⟩:=ih
   refine ⟨f',l',S',?_,by rw [List.length_cons,show k+(xs.length+1)=k+1+xs.length by omega];exact q1⟩
   unfold zde
   rw [e1];show (b l1 S1).bind _=_;rw [e2]
   rcases hf with rfl|rfl <;> exact e3
  ·refine ⟨_,l2,S2,?_,.inr ⟨d,rfl,hd⟩⟩
   unfold zde
   rw [e1];show (b l1 S1).bind _=_;rw [e2];rfl
theorem zia (P:Nat->Lo->Sto->Prop) (O:D->Sto->Prop) (h:as l S=some ([.int (n:Int)],S1)) (hn:n<1000000000) (h0:P 0 l S1)
  (step:∀(i:Nat) l S,i<n->P i l S->Wg (g (.int i) l S) λl1 S1=>Ws b l1 S1 λf l2 S2=>((f=.nx\/f=.ct)/\P (i+1) l2 S2)\/∃d,f=.rt d/\O d S2)
  (fin:∀l' S',P n l' S'->QS .nx l' S') (out:∀d l' S',O d S'->QS (.rt d) l' S'):Ws (zd9 (zbj as) g b) l S QS:=by
 rw [zz3]
 refine ⟨_,_,h,(n:Int),rfl,⟨by omega,by omega⟩,?_⟩
 rw [Int.toNat_natCast]
 refine (zl1 P O (zas 0 n) 0 l S1 h0 ?_).mono ?_
 ·intro i x l S hx hp
  obtain ⟨hi,rfl⟩:=zlc hx
  rw [Nat.zero_add] at hp
  have:=step i l S hi hp
  rw [Int.zero_add,Nat.zero_add]
  exact this
 ·rintro f l' S' (⟨rfl,hp⟩|⟨d,rfl,hd⟩)
  ·rw [zdh,Nat.zero_add] at hp;exact fin l' S' hp
  ·exact out d l' S' hd
end
section
theorem zjy:Wo (zbm (.int i) (.int j) S) Q=Q (.int (i+j)) S:=zbq
theorem yfp:Wo (zbm (.tup xs) (.tup ys) S) Q=(xs.length+ys.length<=sizeLine/\Q (.tup (xs++ys)) S):=zem
theorem zgy (h1:S[n]? = some (.lst xs)) (h2:S[m]? = some (.lst ys)):Wo (zbm (.ref n) (.ref m) S) Q=(xs.length+ys.length<=sizeLine/\Q (.ref S.length) (S++[.lst (xs++ys)])):=by
 show Wo (match S[n]?,S[m]? with|some (.lst xs),some (.lst ys)=>if xs.length+ys.length<=sizeLine then some (.ref S.length,S++[.lst (xs++ys)]) else none|_,_=>none) Q=_
 rw [h1,h2];exact zem
theorem zre:Wo (zhx [.bl k] S) Q=Q (.int (if k then 1 else 0)) S:=zbq
def Wp (o:OM) (l:Lo) (S:Sto) (Q:Option Int->Sto->Prop):Prop:=∃v S',o l S=some (v,S')/\Q v S'
theorem zrf {Q:Option Int->Sto->Prop}:Wp zfi l S Q=Q none S:=by
 apply propext
 exact ⟨λhx1_=>by obtain ⟨v,S',h,q⟩:=hx1_;cases h;exact q,λq=>⟨_,_,rfl,q⟩⟩
theorem zrg {Q:Option Int->Sto->Prop}:Wp (zew e) l S Q=We e l S λx S1=>∃i,x=.int i/\Q (some i) S1:=by
 apply propext
 constructor
 ·rintro ⟨v,S',h,q⟩
  obtain ⟨⟨x,S1⟩,h1,h⟩:=bnd h
  refine ⟨x,S1,h1,?_⟩
  cases x with
  | int i=>cases h;exact ⟨i,rfl,q⟩
  | _=>cases h
 ·rintro ⟨x,S1,h1,i,rfl,q⟩
  exact ⟨_,S1,by unfold zew;rw [h1];rfl,q⟩
theorem zrh {b:Int}{p:Int->Prop}:(∃k,D.int b=D.int k/\p k)=p b:=by
 apply propext;constructor
 ·rintro ⟨d,h,q⟩;cases h;exact q
 ·exact λq=>⟨b,rfl,q⟩
noncomputable def slA (x:D) (a b:Option Int) (S:Sto):Option (D × Sto):=match x with
 | .tup xs=>some (.tup (zch xs a b),S)
 | .ref n=>(lstOf S n).bind λxs=>some (.ref S.length,S++[.lst (zch xs a b)])
 | .str z=>if z.length<=sizeLine then some (.str (Txt.slice z a b),S) else none
 | _=>none
theorem zri {m:EM}{lo hi:OM}:We (ze2 m lo hi) l S Q=We m l S λx S1=>Wp lo l S1 λa S2=>Wp hi l S2 λb S3=>Wo (slA x a b S3) Q:=by
 apply propext
 constructor
 ·rintro ⟨v,S',h,q⟩
  obtain ⟨⟨x,S1⟩,h1,h⟩:=bnd h
  obtain ⟨⟨a,S2⟩,h2,h⟩:=bnd h
  obtain ⟨⟨b,S3⟩,h3,h⟩:=bnd h
  exact ⟨x,S1,h1,a,S2,h2,b,S3,h3,v,S',h,q⟩
 ·rintro ⟨x,S1,h1,a,S2,h2,b,S3,h3,v,S',h,q⟩
  refine ⟨v,S',?_,q⟩
  unfold ze2;rw [h1];show (lo l S1).bind _=_;rw [h2];show (hi l S2).bind _=_;rw [h3];exact h
theorem yfq:Wo (slA (.tup xs) a b S) Q=Q (.tup (zch xs a b)) S:=zbq
theorem yfr (h:lstOf S n=some xs):Wo (slA (.ref n) a b S) Q=Q (.ref S.length) (S++[.lst (zch xs a b)]):=by
 show Wo ((lstOf S n).bind λxs=>some (.ref S.length,S++[.lst (zch xs a b)])) Q=_
 rw [h];exact zbq
theorem zrj (xs:List D) (k:Nat):zch xs none (some (k:Int))=xs.take k:=by
 unfold zch;rw [HT.sIx_none,HT.sIx_nat,List.drop_zero,Nat.sub_zero]
 by_cases h:k<=xs.length
 ·rw [Nat.min_eq_left h]
 ·rw [Nat.min_eq_right (by omega),List.take_length,List.take_of_length_le (by omega)]
theorem zrk (xs:List D) (k:Nat):zch xs (some (k:Int)) none=xs.drop k:=by
 unfold zch;rw [HT.sIx_none,HT.sIx_nat]
 by_cases h:k<=xs.length
 ·rw [Nat.min_eq_left h,List.take_of_length_le (by rw [List.length_drop];exact qlr _)]
 ·rw [Nat.min_eq_right (by omega),Nat.sub_self,List.take_zero,List.drop_eq_nil_of_le (by omega)]
end
section
theorem yfs (xs:List D) (P:Nat->Lo->Sto->Prop) (O:D->Sto->Prop) (he:e l S=some (.tup xs,S1)) (h0:P 0 l S1)
  (step:∀(i:Nat) x l S,xs[i]? = some x->P i l S->Wg (g x l S) λl1 S1=>Ws b l1 S1 λf l2 S2=>((f=.nx\/f=.ct)/\P (i+1) l2 S2)\/∃d,f=.rt d/\O d S2)
  (fin:∀l' S',P xs.length l' S'->QS .nx l' S') (out:∀d l' S',O d S'->QS (.rt d) l' S'):Ws (zc3 e g b) l S QS:=by
 rw [zpe]
 refine ⟨_,_,he,?_⟩
 refine (zl1 P O xs 0 l S1 h0 ?_).mono ?_
 ·intro i x l S hx hp
  rw [Nat.zero_add] at hp ⊢
  exact step i x l S hx hp
 ·rintro f l' S' (⟨rfl,hp⟩|⟨d,rfl,hd⟩)
  ·rw [Nat.zero_add] at hp;exact fin l' S' hp
  ·exact out d l' S' hd
theorem zrl (xs:List D) (P:Nat->Lo->Sto->Prop) (O:D->Sto->Prop) (hit:∀i l S,P i l S->lstOf S n=some xs)
  (step:∀(i:Nat) x l S,xs[i]? = some x->P i l S->Wg (g x l S) λl1 S1=>Ws b l1 S1 λf l2 S2=>((f=.nx\/f=.ct)/\P (i+1) l2 S2)\/∃d,f=.rt d/\O d S2) :
  ∀(k i:Nat) (l:Lo) (S:Sto),k+i=xs.length->P i l S->Wr (zdf g b n (k+1) i l S) λf l' S'=>(f=.nx/\P xs.length l' S')\/∃d,f=.rt d/\O d S'
 | 0,i,l,S,hn,h=>by
  have hi:i=xs.length:=by omega
  refine ⟨.nx,l,S,?_,.inl ⟨rfl,by rw [<-hi];exact h⟩⟩
  unfold zdf;rw [hit i l S h];simp only [Option.bind_some];rw [List.getElem?_eq_none_iff.mpr (by omega)]
 | k+1,i,l,S,hn,h=>by
  have hi:i<xs.length:=by omega
  obtain ⟨l1,S1,e1,f,l2,S2,e2,q⟩:=step i _ l S (qge hi) h
  rcases q with ⟨hf,h1⟩|⟨d,rfl,hd⟩
  ·obtain ⟨f',l',S',e3,q1⟩:=zrl xs P O hit step k (i+1) l2 S2 (by omega) h1
   refine ⟨f',l',S',?_,q1⟩
   unfold zdf;rw [hit i l S h];simp only [Option.bind_some];rw [qge hi];show (g _ l S).bind _=_;rw [e1];show (b l1 S1).bind _=_;rw [e2]
   rcases hf with rfl|rfl <;> exact e3
  ·refine ⟨_,l2,S2,?_,.inr ⟨d,rfl,hd⟩⟩
   unfold zdf;rw [hit i l S h];simp only [Option.bind_some];rw [qge hi];show (g _ l S).bind _=_;rw [e1];show (b l1 S1).bind _=_;rw [e2];rfl
theorem zib (xs:List D) (P:Nat->Lo->Sto->Prop) (O:D->Sto->Prop) (he:e l S=some (.ref n,S1)) (h0:P 0 l S1) (hit:∀i l S,P i l S->lstOf S n=some xs)
  (step:∀(i:Nat) x l S,xs[i]? = some x->P i l S->Wg (g x l S) λl1 S1=>Ws b l1 S1 λf l2 S2=>((f=.nx\/f=.ct)/\P (i+1) l2 S2)\/∃d,f=.rt d/\O d S2)
  (fin:∀l' S',P xs.length l' S'->QS .nx l' S') (out:∀d l' S',O d S'->QS (.rt d) l' S'):Ws (zc3 e g b) l S QS:=by
 rw [zpe]
 refine ⟨_,_,he,?_⟩
 simp only
 rw [hit 0 l S1 h0];simp only [Option.bind_some]
 refine (zrl xs P O hit step xs.length 0 l S1 rfl h0).mono ?_
 rintro f l' S' (⟨rfl,hp⟩|⟨d,rfl,hd⟩)
 ·exact fin l' S' hp
 ·exact out d l' S' hd
end
theorem zl2 (B:Nat):∀ts:List Str,(∀t∈ts,t.length<=B)->(ts.map (·.length)).sum<=B*ts.length
 | [],_=>Nat.zero_le _
 | t :: ts,h=>by
  have h1:=h t List.mem_cons_self
  have h2:=zl2 B ts λx hx=>h x (List.mem_cons_of_mem _ hx)
  simp only [List.map_cons,List.sum_cons,List.length_cons]
  rw [Nat.mul_add];omega
theorem zrm (xs:List PyData):PyData.shownAll xs=xs.map PyData.shown:=by
 induction xs with
 | nil=>rfl
 | cons x xs ih=>unfold PyData.shownAll;rw [ih];rfl
theorem yft (B:Nat) (xs:List PyData) (h:∀x∈xs,x.shown.length<=B):(PyData.list xs).shown.length<=B*xs.length+2*xs.length+3:=by
 show (listText (PyData.shownAll xs)).length<=_
 rw [zrm]
 have h1:=listText_len_le (xs.map PyData.shown)
 have h2:=zl2 B (xs.map PyData.shown) λt ht=>by
  obtain ⟨p,hp,rfl⟩:=List.mem_map.mp ht
  exact h p hp
 simp only [qlm] at h1 h2
 omega
theorem yfu (B:Nat) (xs:List PyData) (h:∀x∈xs,x.shown.length<=B):(PyData.tuple xs).shown.length<=B*xs.length+2*xs.length+3:=by
 show (tupleText (PyData.shownAll xs)).length<=_
 rw [zrm]
 have h1:=tupleText_len_le (xs.map PyData.shown)
 have h2:=zl2 B (xs.map PyData.shown) λt ht=>by
  obtain ⟨p,hp,rfl⟩:=List.mem_map.mp ht
  exact h p hp
 simp only [qlm] at h1 h2
 omega
def Sh (S:Sto) (k B:Nat) (d:D):Prop:=∃p:PyData,p.shown.length<=B/\∀S',Gr S S'->zan S' k d=some p
theorem Sh.le (h:Sh S k B d) (hb:B<=B'):Sh S k B' d:=let ⟨p,h1,h2⟩:=h;⟨p,Nat.le_trans h1 hb,h2⟩
theorem zl3:∀(xs:List D),(∀x∈xs,Sh S k B x)->∃ps:List PyData,ps.length=xs.length/\(∀p∈ps,p.shown.length<=B)/\∀S',Gr S S'->pyAll S' k xs=some ps
 | [],_=>⟨[],rfl,(λp hp=>by cases hp),λex _=>by unfold pyAll;rfl⟩
 | x :: xs,h=>by
  obtain ⟨p,h1,h2⟩:=h x List.mem_cons_self
  obtain ⟨ps,h3,h4,h5⟩:=zl3 xs λy hy=>h y (List.mem_cons_of_mem _ hy)
  refine ⟨p :: ps,by simp [h3],λq hq=>?_,λex g=>?_⟩
  ·rcases List.mem_cons.mp hq with rfl|hq
   ·exact h1
   ·exact h4 q hq
  ·unfold pyAll;rw [h2 ex g,h5 ex g];rfl
theorem zgz (h:∀x∈xs,Sh S k B x) (hn:xs.length<=n):Sh S (k+1) (B*n+2*n+3) (.tup xs):=by
 obtain ⟨ps,h1,h2,h3⟩:=zl3 xs h
 refine ⟨.tuple ps,?_,λex g=>?_⟩
 ·have:=yfu B ps h2
  rw [h1] at this
  have h4:B*xs.length<=B*n:=Nat.mul_le_mul_left _ hn
  omega
 ·unfold zan;rw [h3 ex g];rfl
theorem yfv (hj:lstOf S j=some xs) (h:∀x∈xs,Sh S k B x) (hn:xs.length<=n):Sh S (k+1) (B*n+2*n+3) (.ref j):=by
 obtain ⟨ps,h1,h2,h3⟩:=zl3 xs h
 refine ⟨.list ps,?_,λex g=>?_⟩
 ·have:=yft B ps h2
  rw [h1] at this
  have h4:B*xs.length<=B*n:=Nat.mul_le_mul_left _ hn
  omega
 ·unfold zan;rw [g.lst hj];show (pyAll ex k xs).bind _=_;rw [h3 ex g];rfl
theorem zrn (h:n<1000000):((n:Nat):Int).natAbs.log2<1920:=by
 by_cases hz:n=0
 ·subst hz;decide
 ·have h1:((n:Nat):Int).natAbs=n:=by omega
  rw [h1]
  have h2:n.log2<20:=(Nat.log2_lt hz).mpr (Nat.lt_of_lt_of_le h (by decide))
  omega
theorem zl4 {k n:Nat}(h:n<1000000):Sh S (k+1) 10 (.int n):=by
 refine ⟨.int n,?_,λex _=>by unfold zan;rw [if_pos (zrn h)]⟩
 show (PySem.Str.ofString (toString (n:Int))).length<=10
 exact PySem.W.KT.len_num (by omega) (by omega)
theorem yfw:Sh S (k+1) 10 .non:=⟨.none,by decide +kernel,λex _=>by unfold zan;rfl⟩
section
theorem yfx:We zlr l S Q=Q (.ref S.length) (S++[.tdct []]):=by
 apply propext
 exact ⟨λhx2_=>by obtain ⟨v,S',h,q⟩:=hx2_;cases h;exact q,λq=>⟨_,_,rfl,q⟩⟩
theorem zro:Wo (zer neg y x S) Q = ∃o,dRd S x y=some o/\Q (.bl (if neg then !o.isSome else o.isSome)) S:=by
 unfold zer
 rw [ze0];simp only [zbq]
theorem zl5:Wg (zgs o i v l S) QG=We o l S λx S1=>We i l S1 λy S2=>∃S',zes x y v S2=some S'/\QG l S':=by
 apply propext
 constructor
 ·rintro ⟨l',S',h,q⟩
  obtain ⟨⟨x,S1⟩,h1,h⟩:=bnd h
  obtain ⟨⟨y,S2⟩,h2,h⟩:=bnd h
  obtain ⟨S3,h3,h⟩:=bnd h
  cases h
  exact ⟨x,S1,h1,y,S2,h2,_,h3,q⟩
 ·rintro ⟨x,S1,h1,y,S2,h2,S3,h3,q⟩
  refine ⟨l,S3,?_,q⟩
  unfold zgs;rw [h1];show (i l S1).bind _=_;rw [h2];show (zes x y v S2).bind _=_;rw [h3];rfl
theorem yfy (h:S[n]? = some (.tdct kvs)) (hk:zc9 y=some k) (hz:kvs.length<sizeLine):zes (.ref n) y v S=some (S.set n (.tdct (zce kvs k v))):=by
 unfold zes;dsimp only;rw [h];dsimp only;rw [hk];show (if _ then _ else _)=_;rw [if_pos hz]
theorem zl6 (h:S[n]? = some (.tdct kvs)) (hk:zc9 y=some k):dRd S (.ref n) y=some (za6 kvs k):=by
 unfold dRd;dsimp only;rw [h];dsimp only;rw [hk];rfl
theorem zl7 (h:S[n]? = some (.tdct kvs)):isDc S (.ref n)=some ():=by unfold isDc;dsimp only;rw [h]
end
theorem zrp (I:Nat->Lo->Sto->Prop) (O:D->Sto->Prop) (Q:Lo->Sto->Prop)
  (step:∀m l S,I m l S->Wt c l S λk S1=>if k=true then Ws b l S1 λf l2 S2=>((f=.nx\/f=.ct)/\∃m',m' < m/\I m' l2 S2)\/∃d,f=.rt d/\O d S2 else Q l S1) :
  ∀(fuel m:Nat),m<fuel->∀l S,I m l S->Wr (whl c b fuel l S) λf l' S'=>(f=.nx/\Q l' S')\/∃d,f=.rt d/\O d S'
 | 0,m,h,_,_,_=>absurd h (Nat.not_lt_zero _)
 | fuel+1,m,h,l,S,hi=>by
  obtain ⟨k,S1,e1,h1⟩:=step m l S hi
  cases k with
  | false=>exact ⟨.nx,l,S1,by unfold whl;rw [e1];rfl,.inl ⟨rfl,h1⟩⟩
  | true =>
   have h1:Ws b l S1 λf l2 S2=>((f=.nx\/f=.ct)/\∃m',m' < m/\I m' l2 S2)\/∃d,f=.rt d/\O d S2:=h1
   obtain ⟨f,l2,S2,e2,q⟩:=h1
   rcases q with ⟨hf,m',hm,hi2⟩|⟨d,rfl,hd⟩
   ·obtain ⟨f',l',S',e3,q⟩:=zrp I O Q step fuel m' (by omega) l2 S2 hi2
    refine ⟨f',l',S',?_,q⟩
    unfold whl;rw [e1];show (b l S1).bind _=_;rw [e2]
    rcases hf with rfl|rfl <;> exact e3
   ·refine ⟨_,l2,S2,?_,.inr ⟨d,rfl,hd⟩⟩
    unfold whl;rw [e1];show (b l S1).bind _=_;rw [e2];rfl
theorem yfz (I:Nat->Lo->Sto->Prop) (O:D->Sto->Prop) (Q:Lo->Sto->Prop) (m:Nat) (hm:m<1000000) (h0:I m l S)
  (step:∀m l S,I m l S->Wt c l S λk S1=>if k=true then Ws b l S1 λf l2 S2=>((f=.nx\/f=.ct)/\∃m',m' < m/\I m' l2 S2)\/∃d,f=.rt d/\O d S2 else Q l S1)
  (fin:∀l' S',Q l' S'->QS .nx l' S') (out:∀d l' S',O d S'->QS (.rt d) l' S'):Ws (whl c b zhr) l S QS:=by
 refine Wr.mono (zrp I O Q step zhr m hm l S h0) ?_
 rintro f l' S' (⟨rfl,h⟩|⟨d,rfl,h⟩)
 ·exact fin l' S' h
 ·exact out d l' S' h
theorem zbv (h1:Ws m l S λf l1 S1=>f=.nx/\l1=l'/\S1=S') (h2:Ws n l' S' QS):Ws (zai m n) l S QS:=by
 rw [zjc]
 obtain ⟨f,l1,S1,e,rfl,rfl,rfl⟩:=h1
 exact ⟨_,_,_,e,h2⟩
theorem zl8 (R:Lo->Sto->Prop) (O:D->Sto->Prop) (h1:Ws m l S λf l1 S1=>(f=.nx/\R l1 S1)\/∃d,f=.rt d/\O d S1) (h2:∀l1 S1,R l1 S1->Ws n l1 S1 QS) (h3:∀d l1 S1,O d S1->QS (.rt d) l1 S1):Ws (zai m n) l S QS:=by
 rw [zjc]
 obtain ⟨f,l1,S1,e,q⟩:=h1
 rcases q with ⟨rfl,r⟩|⟨d,rfl,o⟩
 ·exact ⟨_,_,_,e,h2 l1 S1 r⟩
 ·exact ⟨_,_,_,e,h3 d l1 S1 o⟩
theorem Gr.len (h:Gr A B):A.length<=B.length:=by obtain ⟨x,rfl⟩:=h;rw [qla];omega
theorem Gr.set (h:Gr A B) (hr:A.length<=r) (o:Ob):Gr A (B.set r o):=by
 obtain ⟨x,rfl⟩:=h
 exact ⟨x.set (r-A.length) o,by rw [List.set_append_right _ _ hr]⟩
theorem zca (h:S[n]? = some (.lst xs)):lstOf S n=some xs:=by unfold lstOf;rw [h]
theorem za4 {S:Sto}{o:Ob}:(S++[o])[S.length]? = some o:=zd2 S o
theorem zbe {n:Nat}{o o':Ob}(h:S[n]? = some o):(S++[o'])[n]? = some o:=by
 rw [List.getElem?_append_left (qme h).1];exact h
theorem zc0 {S:Sto}{n:Nat}{o o':Ob}(h:S[n]? = some o):(S.set n o')[n]? = some o':=List.getElem?_set_self (qme h).1
theorem zbw {S:Sto}{n m:Nat}{o o':Ob}(h:S[m]? = some o) (hn:n≠m):(S.set n o')[m]? = some o:=by rw [List.getElem?_set_ne hn];exact h
theorem ze7 (h:S[n]? = some (.lst xs)) (hz:xs.length<sizeLine):Wo (zb7 (.ref n) [x] S) Q=Q .non (S.set n (.lst (xs++[x]))):=by
 rw [zz2,h]
 apply propext
 constructor
 ·rintro ⟨ys,e,_,q⟩;cases e;exact q
 ·exact λq=>⟨xs,rfl,hz,q⟩
theorem zds (h:S[n]? = some (.lst xs)):zf9 (.ref n) S=some xs:=zca h
section
theorem zjz {α:Type}{im:IM}{it:ItM}{ixs:List (Option Nat)}{g:GM}{e:EM}(ys:List α) (f h:α->D) (P:Sto->Prop) (L:Lo->Prop) (him:im l S=some (it,(ys.map f).length+1,S1)) (h0:P S1) (l0:L (za5 ixs l)) (hit:∀i S,P S->it i S=some (ys.map f)[i]?) (hz:ys.length<=sizeLine)
  (step:∀y l S,y∈ys->L l->P S->Wg (g (f y) l S) λl1 S2=>L l1/\We e l1 S2 λv S3=>v=h y/\P S3)
  (fin:∀S',P S'->Q (.ref S'.length) (S'++[.lst (ys.map h)])):We (zbd im ixs g zar e) l S Q:=by
 refine zh8 (ys.map f) (λi acc l S=>acc=(ys.take i).map h/\L l/\P S) him ⟨rfl,l0,h0⟩ (λi acc l S h=>hit i S h.2.2) ?_ ?_
 ·rintro i x acc l S hx ⟨rfl,hl,hp⟩
  rw [qgm] at hx
  obtain ⟨y,hy,rfl⟩:=Option.map_eq_some_iff.mp hx
  obtain ⟨l1,S2,e1,q1,v,S3,e2,rfl,p3⟩:=step y l S (qmg hy) hl hp
  refine ⟨l1,S2,e1,?_⟩
  dsimp only
  rw [zhn,if_pos rfl]
  refine ⟨_,S3,e2,?_,q1,p3⟩
  rw [List.take_add_one,hy];simp
 ·rintro acc l' S' ⟨rfl,hl,hp⟩
  have e:ys.take (ys.map f).length=ys:=by rw [qlm,List.take_length]
  rw [e]
  exact ⟨by rw [qlm];exact hz,fin S' hp⟩
end
end L3
section
namespace G
open PySem PySem.Spec PyProof.Rows L2 L3
noncomputable abbrev bd:List Stmt:=PySem.Challenge.pw_opencells_k31_blocks_told.main.body
noncomputable def zrq:SM:=zai (zak (zae zcp (zab (eOp zap (zaa 0) (eC (.int 1))) (zad))) (zag 1)) (zbp (zjn (zco (zbj (zab (zaa 1) (zad)))) [none,none,some 1] (zag 0) (zar) (zgb (zab (eOp zbm (zaa 0) (eC (.int 1))) (zab (zaa 2) (zad)))) (zag 1) (zar) (zae zat (zab (zaa 0) (zab (zaa 1) (zad))))))
noncomputable def zdt:FM:=zby 2 zrq
noncomputable def zrr:SM:=zai (zak (zaa 0) (zcy 2 (zbl (zag 1) (zbl (zag 2) (zcv))))) (zai (zak (zlr) (zag 3)) (zai (zc3 (zae zdt (zab (zaa 0) (zad))) (zcy 2 (zbl (zag 4) (zbl (zag 5) (zcv)))) (zd9 (zbj (zab (zaa 1) (zad))) (zag 6) (zai (zak (zae zat (zab (eOp zap (eOp zap (eOp zap (zaa 2) (zaa 4)) (zaa 6)) (eC (.int 0))) (zab (eOp zap (eOp zap (eOp zap (zaa 2) (zaa 5)) (zaa 6)) (eC (.int 0))) (zad)))) (zag 7)) (sIf (tE (eOp (dIn true) (eC .non) (zaa 7))) (zai (zak (zae zat (zab (zae zh2 (zab (zaa 7) (zad))) (zab (zae zh3 (zab (zaa 7) (zad))) (zad)))) (zag 8)) (zb8 (zbi zb7 (zfs (zaa 3) (zaa 8) (zae zbf (zad))) (zab (zae zat (zab (zaa 4) (zab (zaa 5) (zad)))) zad)))) (zcu))))) (zbp (zaa 3))))
noncomputable def zic:FM:=zby 9 zrr
noncomputable def zrs:SM:=zbp (zf4 (eOp zf8 (zaa 0) (eC .non)) (zf4 (eOp zf8 (zaa 1) (eC .non)) (eOp dNe (zaa 0) (zaa 1))))
noncomputable def zg0:FM:=zby 2 zrs
noncomputable def zrt:SM:=zbp (zae zg0 (zab (eOp zap (zaa 0) (eC (.int 1))) (zab (eOp zap (zaa 1) (eC (.int 1))) (zad))))
noncomputable def zfv:FM:=zby 2 zrt
noncomputable def zru:SM:=zai (zak (zaa 0) (zcy 2 (zbl (zag 1) (zbl (zag 2) (zcv))))) (zbp (zbd (zcd (zae zdt (zab (zaa 0) (zad)))) [none,none,some 1,some 2] (zcy 2 (zbl (zag 0) (zbl (zag 1) (zcv)))) (tE (zae zgk (zab (zbd (zco (zbj (zab (zaa 2) (zad)))) [none,some 3,some 0,some 1] (zag 0) (zar) (zae zfv (zab (eOp zap (eOp zap (zaa 1) (zaa 2)) (zaa 0)) (zab (eOp zap (eOp zap (zaa 1) (zaa 3)) (zaa 0)) (zad))))) (zad)))) (zae zat (zab (zaa 0) (zab (zaa 1) (zad))))))
noncomputable def zid:FM:=zby 3 zru
noncomputable def zrv:SM:=zai (zak (zae zid (zab (zaa 0) (zad))) (zag 1)) (zai (zak (zae zic (zab (zaa 0) (zad))) (zag 2)) (zai (zak (zh1 (zcd (zaa 1)) [none] (zag 0) (zar) (zaa 0) (eC (.bl true))) (zag 3)) (zai (whl (tL (zaa 1)) (zai (zak (zbi zfk (zaa 1) zad) (zag 4)) (zc3 (zgr (zaa 2) (zaa 4) (zae zbf (zad))) (zag 5) (sIf (tE (eOp (zer true) (zaa 5) (zaa 3))) (zai (zak (eC (.bl true)) (zgs (zaa 3) (zaa 5))) (zb8 (zbi zb7 (zaa 1) (zab (zaa 5) zad)))) (zcu)))) zhr) (zbp (zaa 3)))))
noncomputable def zg1:FM:=zby 6 zrv
noncomputable def zrw:SM:=zbp (zae zhs (zab (zh4 (zcd (eOp zap (zaa 0) (eC (.int 1)))) [none,none] (zag 0) (zar) (zaa 0) (zag 1) (zar) (eOp (dIn true) (eC .non) (zaa 1))) (zad)))
noncomputable def zcf:FM:=zby 1 zrw
noncomputable def zl9:SM:=zai (sIf (zf3 (tE (zae zcf (zab (zaa 0) (zad))))) (zk3) (zcu)) (zai (zak (zae zg1 (zab (zaa 0) (zad))) (zag 1)) (zai (zak (zpp) (zag 2)) (zai (zd9 (zbj (zab (zae zcp (zab (eOp zap (zaa 0) (eC (.int 1))) (zad))) (zad))) (zag 3) (zai (zh7 2 (zak (zbd (zgp (zaa 2)) [none,some 3,some 1] (zag 0) (tE (eOp (zer true) (zae zat (zab (zaa 0) (zab (zaa 1) (zad)))) (zaa 2))) (zaa 0)) (zag 4))) (sIf (tL (zaa 4)) (zjr (zaa 2) (eOp zap (zaa 4) (eC (.int 0))) (zae zat (zab (zaa 3) (zad)))) (zak (zae zat (zab (zaa 3) (zad))) (zgs (zaa 2) (zaa 3)))))) (zbp (zlz (zaa 2))))))
noncomputable def zdu:FM:=zby 5 zl9
noncomputable def zrx:ZM:=zIf (zf3 (tE (zae zcf (zab (zaa 0) (zad))))) (λ_ S=>some ("NotFull",S)) (zlo)
noncomputable def zg2:ZF:=zjj 5 zrx
noncomputable def zry:SM:=zai (zak (zae zbf (zab (zae zat (zab (eC (.str "many")) (zab (eUn (zb9 [("NotFull",false)]) (zaa 0)) (zad)))) (zab (zae zat (zab (eC (.str "closed")) (zab (eUn (zb9 [("NotFull",false)]) (zaa 0)) (zad)))) (zad)))) (zag 1)) (zai (zak (eOp zbm (zaa 1) (zae zbf (zab (zae zat (zab (eC (.str "unlike")) (zab (eUn (zb9 [("NotFull",false)]) (zaa 0)) (zad)))) (zab (zae zat (zab (eC (.str "full")) (zab (eUn (zb9 [("NotFull",true)]) (zaa 0)) (zad)))) (zad))))) (zag 1)) (zai (zak (eOp zbm (zaa 1) (zae zbf (zab (zae zat (zab (eC (.str "unreached")) (zab (eUn (zb9 [("NotFull",false)]) (zaa 0)) (zad)))) (zab (zae zat (zab (eC (.str "clash")) (zab (eUn (zb9 [("NotFull",false)]) (zaa 0)) (zad)))) (zad))))) (zag 1)) (zai (zak (eOp zbm (zaa 1) (zae zbf (zab (zae zat (zab (eC (.str "words")) (zab (eUn (zb9 [("NotFull",false)]) (zaa 0)) (zad)))) (zab (zae zat (zab (eC (.str "open")) (zab (eUn (zb9 [("NotFull",false)]) (zaa 0)) (zad)))) (zad))))) (zag 1)) (zai (zak (eOp zbm (zaa 1) (zae zbf (zab (zae zat (zab (eC (.str "back")) (zab (eUn (zb9 [("NotFull",false)]) (zaa 0)) (zad)))) (zab (zae zat (zab (eC (.str "text")) (zab (eUn (zb9 [("NotFull",false)]) (zaa 0)) (zad)))) (zad))))) (zag 1)) (zai (zak (eOp zbm (zaa 1) (zae zbf (zab (zae zat (zab (eC (.str "name")) (zab (eUn (zb9 [("NotFull",false)]) (zaa 0)) (zad)))) (zab (zae zat (zab (eC (.str "line")) (zab (eUn (zb9 [("NotFull",false)]) (zaa 0)) (zad)))) (zad))))) (zag 1)) (zbp (eOp zbm (zbd (zcd (zaa 1)) [none,none] (zcy 2 (zbl (zag 0) (zbl (zag 1) (zcv)))) (tE (zaa 1)) (zaa 0)) (eOp zgj (zae zbf (zab (eC (.str "no value")) (zad))) (zae zhx (zab (zi1 (eUn (zb9 [("NotFull",true)]) (zaa 0))) (zad)))))))))))
noncomputable def zie:FM:=zby 2 zry
noncomputable def zrz:SM:=zai (zak (eC .non) (zag 1)) (zai (zhy 2 (λc=>c == "NotFull") (zb8 (zae zdu (zab (zaa 0) (zad)))) (zlp zg2 (zab (zaa 0) (zad))) (zak (zaa 2) (zag 1))) (zbp (zfg (tE (eOp dIs (zaa 1) (eC .non))) (zae zbf (zab (eC (.str "told")) (zad))) (zae zie (zab (zaa 1) (zad))))))
noncomputable def zfw:FM:=zby 3 zrz
noncomputable def zr0:SM:=zai (zak (zbd (zcd (zaa 0)) [none] (zag 0) (zar) (eC (.int 0))) (zag 1)) (zai (zc3 (zaa 0) (zag 2) (zai (zak (zbd (zcd (zaa 0)) [none,some 1] (zag 0) (zar) (zae zdp (zab (zbd (zcd (zaa 0)) [none,none,some 1] (zcy 2 (zbl (zag 0) (zbl (zag 1) (zcv)))) (zar) (zae zat (zab (eOp zap (zaa 2) (zaa 0)) (zab (zaa 1) (zad))))) (zad)))) (zag 3)) (zak (zbd (zcd (zaa 3)) [none,some 3] (zag 0) (zar) (zbi zgu (zaa 1) (zab (zaa 0) zad))) (zag 1)))) (zbp (zaa 1)))
noncomputable def zif:FM:=zby 4 zr0
noncomputable def zr1:SM:=zai (zak (zae zif (zab (eOp zap (zaa 0) (eC (.int 1))) (zad))) (zag 1)) (zai (zak (zae zbf (zad)) (zag 2)) (zai (zc3 (zae zgw (zab (zaa 1) (zad))) (zag 3) (zb8 (zbi zb7 (zaa 2) (zab (zae zdp (zab (zbd (zco (zbj (zab (zae zcp (zab (zaa 1) (zad))) (zad)))) [none,some 1,some 3] (zag 0) (tE (eOp dEq (eOp zap (zaa 1) (zaa 0)) (zaa 2))) (zaa 0)) (zad))) zad)))) (zbp (zaa 2))))
noncomputable def zig:FM:=zby 4 zr1
noncomputable def zr2:SM:=zai (zak (zaa 0) (zcy 2 (zbl (zag 3) (zbl (zag 4) (zcv))))) (zai (zak (eOp zdo (zaa 2) (zae zcp (zab (zaa 4) (zad)))) (zag 5)) (zai (zak (eOp zdo (eOp zhg (zaa 2) (zae zcp (zab (zaa 4) (zad)))) (zaa 3)) (zag 6)) (zai (zak (eOp zap (eOp zap (zaa 4) (zaa 5)) (zaa 6)) (zcy 2 (zbl (zag 7) (zbl (zag 8) (zcv))))) (zai (zak (eOp zap (zae zbf (zab (zae zat (zab (eC .non) (zab (zaa 8) (zad)))) (zab (zae zat (zab (zaa 7) (zab (eC .non) (zad)))) (zab (zae zat (zab (eC .non) (zab (eC .non) (zad)))) (zad))))) (zaa 1)) (zag 9)) (zai (zak (eOp zbm (eOp zbm (ze2 (eOp zap (zaa 4) (zaa 5)) (zfi) (zew (zaa 6))) (zae zat (zab (zaa 9) (zad)))) (ze2 (eOp zap (zaa 4) (zaa 5)) (zew (eOp zbm (zaa 6) (eC (.int 1)))) (zfi))) (zag 10)) (zbp (zae zat (zab (zaa 3) (zab (eOp zbm (eOp zbm (ze2 (zaa 4) (zfi) (zew (zaa 5))) (zae zat (zab (zaa 10) (zad)))) (ze2 (zaa 4) (zew (eOp zbm (zaa 5) (eC (.int 1)))) (zfi))) (zad))))))))))
noncomputable def zih:FM:=zby 11 zr2
noncomputable def zr3:SM:=zai (sIf (tE (eOp dGt (eOp zap (zaa 0) (eC (.int 2))) (eC (.int 0)))) (zai (zak (eOp zdo (eOp zap (zaa 0) (eC (.int 2))) (zaa 1)) (zag 2)) (zai (zak (eOp zhg (eOp zap (zaa 0) (eC (.int 2))) (zaa 1)) (zga (zaa 0) (eC (.int 2)))) (zbp (zaa 2)))) (zcu)) (zai (zak (ze2 (zaa 0) (zfi) (zew (eC (.int 2)))) (zht 2 (zbl (zag 3) (zbl (zag 4) (zcv))))) (zai (zak (eOp zbm (zaa 4) (eC (.int 1))) (zga (zaa 0) (eC (.int 1)))) (zai (zak (eOp zbm (eOp zfo (eC (.int 1201)) (zaa 4)) (eC (.int 17))) (zag 5)) (zai (sIf (tE (eOp dGt (zae zcp (zab (zaa 3) (zad))) (eC (.int 0)))) (zai (zak (eOp zap (zaa 3) (eOp zdo (zaa 4) (zae zcp (zab (zaa 3) (zad))))) (zag 5)) (sIf (zf2 (tE (eOp dLt (zaa 4) (zae zcp (zab (zaa 3) (zad))))) (tE (eOp dGe (zae zfj (zab (zaa 5) (zad))) (eOp zi5 (eC (.int 10)) (eC (.int 18)))))) (zai (zak (eOp zhg (zae zfj (zab (zaa 5) (zad))) (zaa 1)) (zga (zaa 0) (eC (.int 2)))) (zbp (eOp zdo (zae zfj (zab (zaa 5) (zad))) (zaa 1)))) (zcu))) (zcu)) (zai (zak (eOp zap (zae zbf (zab (eC (.int 2147483647)) (zab (eC (.int 2147483629)) (zab (eC (.int 2147483587)) (zab (eC (.int 2147483579)) (zab (eC (.int 2147483563)) (zad))))))) (eOp zdo (zaa 4) (eC (.int 5)))) (zag 6)) (zai (zak (eOp zdo (eOp zi5 (eOp zbm (eOp zbm (eOp zdo (zaa 5) (zaa 6)) (eOp zfo (eC (.int 40009)) (zaa 4))) (eC (.int 17))) (eC (.int 3))) (zaa 6)) (zag 7)) (zai (zak (eOp zdo (eOp zi5 (eOp zbm (eOp zfo (zaa 7) (eOp zbm (zaa 4) (eC (.int 31)))) (eC (.int 1201))) (eC (.int 3))) (eC (.int 2147483549))) (zag 7)) (zbp (eOp zdo (eOp zhg (zaa 7) (eC (.int 64))) (zaa 1))))))))))
noncomputable def zb0:FM:=zby 8 zr3
noncomputable def zr4:SM:=zai (zak (eOp zbm (eC (.int 1)) (zae zb0 (zab (zaa 0) (zab (eOp zap (zae zbf (zab (eC (.int 5)) (zab (zaa 1) (zab (zaa 1) (zad))))) (zae zb0 (zab (zaa 0) (zab (eC (.int 3)) (zad))))) (zad))))) (zag 2)) (zai (zak (eOp zbm (eC (.int 1)) (zae zb0 (zab (zaa 0) (zab (zaa 2) (zad))))) (zag 3)) (zai (zak (eOp zbm (eC (.int 1)) (zae zb0 (zab (zaa 0) (zab (eC (.int 4)) (zad))))) (zag 4)) (zai (zak (eOp zap (zae zbf (zab (eC (.int 2)) (zab (eC (.int 3)) (zab (eC (.int 8)) (zab (eC (.int 1)) (zad)))))) (zae zb0 (zab (zaa 0) (zab (eC (.int 4)) (zad))))) (zag 5)) (zai (zak (zbd (zco (zbj (zab (zaa 2) (zad)))) [none,some 3,some 0] (zag 0) (zar) (zfg (tE (eOp dLt (zaa 0) (zaa 1))) (zaa 0) (zae zb0 (zab (zaa 2) (zab (zaa 1) (zad)))))) (zag 6)) (zai (zak (zae zbf (zad)) (zag 7)) (zai (zd9 (zbj (zab (zaa 3) (zad))) (zag 8) (zb8 (zbi zb7 (zaa 7) (zab (zbd (zco (zbj (zab (zaa 4) (zad)))) [none,some 0,some 3,some 5] (zag 0) (zar) (zae zat (zab (zae zb0 (zab (zaa 1) (zab (zaa 2) (zad)))) (zab (zae zb0 (zab (zaa 1) (zab (zaa 3) (zad)))) (zad))))) zad)))) (zai (zak (zae zbf (zad)) (zag 9)) (zai (zc3 (zaa 6) (zag 10) (zai (zak (zae zbf (zad)) (zag 11)) (zai (zc3 (eOp zap (zaa 7) (zaa 10)) (zcy 2 (zbl (zag 8) (zbl (zag 12) (zcv)))) (zai (zak (zbd (zco (zbj (zab (zaa 2) (zad)))) [none,some 6,some 8] (zag 0) (tE (eOp dEq (eOp zap (zaa 1) (zaa 0)) (zaa 2))) (zaa 0)) (zag 13)) (zb8 (zbi zb7 (zaa 11) (zab (zae zat (zab (eOp zap (zaa 13) (zae zb0 (zab (zaa 0) (zab (zae zcp (zab (zaa 13) (zad))) (zad))))) (zab (zaa 12) (zad)))) zad))))) (zb8 (zbi zb7 (zaa 9) (zab (zae zdp (zab (zaa 11) (zad))) zad)))))) (zbp (zae zat (zab (zaa 4) (zab (zae zdp (zab (zaa 9) (zad))) (zad)))))))))))))
noncomputable def zii:FM:=zby 14 zr4
noncomputable def zr5:SM:=zbp (zae zbf (zab (zaa 0) (zab (eC (.int 0)) (zab (eC (.int 0)) (zad)))))
noncomputable def zj0:FM:=zby 1 zr5
noncomputable def zr6:SM:=zai (zak (zae zj0 (zab (zaa 0) (zad))) (zag 1)) (zai (zd9 (zbj (zab (eC (.int 3)) (zad))) (zag 2) (zai (zak (zae zb0 (zab (zaa 1) (zab (eC (.int 3)) (zad)))) (zag 3)) (zai (zak (zae zb0 (zab (zaa 1) (zab (eC (.int 96)) (zad)))) (zag 4)) (zai (zak (zae zii (zab (zaa 1) (zab (eC (.int 24)) (zad)))) (zag 5)) (zai (zak (zae zih (zab (zaa 5) (zab (zaa 3) (zab (zaa 4) (zad))))) (zag 6)) (zai (zak (zae zdj (zab (zae zat (zab (zaa 5) (zab (zaa 6) (zad)))) (zad))) (zag 7)) (zai (zak (zae zig (zab (zaa 5) (zad))) (zag 8)) (zai (zd9 (zbj (zab (eC (.int 2)) (zad))) (zag 9) (zai (sIf (zdn (tE (eOp zea (zae zcf (zab (zaa 5) (zad))) (eC (.bl true)))) (zdn (tE (eOp zea (zae zcf (zab (zaa 6) (zad))) (eC (.bl false)))) (tE (eOp ze1 (zae zfw (zab (zaa 6) (zad))) (zae zbf (zab (eC (.str "full")) (zad))))))) (zbp (eC (.bl false))) (zcu)) (zai (zak (zae zdu (zab (zaa 5) (zad))) (zag 10)) (zai (sIf (tE (eOp dNe (zae zdj (zab (zaa 10) (zad))) (zae zdj (zab (zaa 8) (zad))))) (zbp (eC (.bl false))) (zcu)) (zai (zb8 (zbi zex (zaa 10) zad)) (zb8 (zbi zb7 (zaa 10) (zab (zae zat (zad)) zad)))))))) (sIf (tE (eOp dNe (zae zdj (zab (zae zat (zab (zaa 5) (zab (zaa 6) (zad)))) (zad))) (zaa 7))) (zbp (eC (.bl false))) (zcu)))))))))) (zbp (eC (.bl true))))
noncomputable def ze8:FM:=zby 11 zr6
theorem bl0 {C:List PySem.Value->Prop}(h:C []):∀us:List PySem.Value,us.length=0->C us:=by
 intro us hl
 rw [List.eq_nil_of_length_eq_zero hl];exact h
theorem blS {n:Nat}{C:List PySem.Value->Prop}(h:∀a (us:List PySem.Value),us.length=n->C (a :: us)):∀us:List PySem.Value,us.length=n+1->C us:=by
 intro us hl
 cases us with
 | nil=>cases hl
 | cons a us=>exact h a us (Nat.succ.inj hl)
theorem bl1 {C:List PySem.Value->Prop}(h:∀a0,C [a0]):∀us:List PySem.Value,us.length=1->C us:=blS λa0=>bl0 (C:=λus=>C (a0 :: us)) (h a0)
theorem bl2 {C:List PySem.Value->Prop}(h:∀a0 a1,C [a0,a1]):∀us:List PySem.Value,us.length=2->C us:=blS λa0=>blS λa1=>bl0 (C:=λus=>C (a0 :: a1 :: us)) (h a0 a1)
theorem bl3 {C:List PySem.Value->Prop}(h:∀a0 a1 a2,C [a0,a1,a2]):∀us:List PySem.Value,us.length=3->C us:=blS λa0=>blS λa1=>blS λa2=>bl0 (C:=λus=>C (a0 :: a1 :: a2 :: us)) (h a0 a1 a2)
inductive FI (K:QFg) (x:Str) (st:Stmt):Prop
 | mk {f:Addr} {oc kV dc pm cd ct:Value} {od an:Option Addr} {sl:Array (Option Value)} (a:PySem.W.nsIn K mainGlobals x=some (some (.ref f))) (l:K.lookup f=some ⟨oc,od,.func (PySem.W.fnOf x x (zfd st) (zdd st) (zaq st) .none kV dc pm an cd ct),sl⟩) (c:PySem.W.codeIn K cd x=true) (k:PySem.W.keepIn K (.ref f)=true)
inductive FJ (K:QFg) (mg:Str->Option Value) (x:Str) (st:Stmt):Prop
 | mk {f:Addr} {fd:FuncData} (F:Fun K x x st f fd) (m:mg x=some (.ref f)) (n:Fnc K mg x)
theorem FI.ok {K:QFg}{x:Str}{st:Stmt}{h:Heap}{mg:Str->Option Value}(i:FI K x st) (X:K.In h) (G:h.Ns mainGlobals mg):FJ K mg x st:=by
 obtain ⟨a,l,c,k⟩:=i
 exact ⟨zx4 l c k,PySem.W.mg_of X G a,_,_,a,l,PySem.W.mg_of X G a⟩
section
variable {P:Program}{w:World}{K:QFg}{mg:Str->Option Value}{base:Heap}{CA:Str->Addr}
theorem zcq {x:Str}{st:Stmt}{N ps:List Str}{n k:Nat}{b:SM}(F:FJ K mg x st) (S:FnScope N ps (zaq st)) (hn:ps.length=n)
  (hb:∀us:List Value,us.length=ps.length->∀(kV doc pm:Value) (an:Option Addr) (cdv ct:Value),bindArgs (PySem.W.fnOf x x (zfd st) (zdd st) (zaq st) .none kV doc pm an cdv ct) ⟨us,[]⟩=pure (ps.zip us))
  (hbody:∀(f:Addr) (cdv:Value),PySem.W.codeIn K cdv x=true->∀(A:Around) (outer:List Env) (s:Shared) (H:Hp) (E:XK),Room k (A.deeper (envOfC x (zaq st) s.heap.objs.size f cdv)) ->
   zcx (zb2 CX0 P w K mg base N x (zaq st) f cdv A outer s H E).nox (zdd st) b):Has P w K mg base x (k+1) n (zby N.length b):=by
 obtain ⟨F,m,_⟩:=F
 exact zzt F m S hn (F.binds λ_ _ _ _ _ _ us hl=>hb us hl _ _ _ _ _ _) (hbody _)
theorem yf0 {x:Str}{st:Stmt}{N ps:List Str}{n k:Nat}{r:ZM}(F:FJ K mg x st) (S:FnScope N ps (zaq st)) (hn:ps.length=n)
  (hb:∀us:List Value,us.length=ps.length->∀(kV doc pm:Value) (an:Option Addr) (cdv ct:Value),bindArgs (PySem.W.fnOf x x (zfd st) (zdd st) (zaq st) .none kV doc pm an cdv ct) ⟨us,[]⟩=pure (ps.zip us))
  (hbody:∀(f:Addr) (cdv:Value),PySem.W.codeIn K cdv x=true->∀(A:Around) (outer:List Env) (s:Shared) (H:Hp) (E:XK),Room k (A.deeper (envOfC x (zaq st) s.heap.objs.size f cdv)) ->
   zgq (zb2 (CX1 P w) P w K mg base N x (zaq st) f cdv A outer s H E) E CA (zdd st) r):ze3 P w K mg base CA x (k+1) n (zjj N.length r):=by
 obtain ⟨F,m,_⟩:=F
 exact ycc F m S hn (F.binds λ_ _ _ _ _ _ us hl=>hb us hl _ _ _ _ _ _) (hbody _)
theorem yf1:FnScope ["machine","many"] ["machine"] (zaq (top bd 18)):=⟨rfl,rfl,rfl,by decide +kernel,rfl,by decide +kernel,by decide +kernel⟩
theorem zr7:List.Nodup (["one","other","many"]:List Str):=by decide +kernel
noncomputable abbrev yf2:List Str:=["machine","many"]
theorem h_m_all_pairs (F:FJ K mg "all_pairs" (top bd 18)) (z_range:mg "range" = none) (z_len:mg "len" = none):Has P w K mg base "all_pairs" 1 1 zdt:=by
 have sc:=yf1
 refine zcq (k:=0) F sc rfl (bl1 λ_=>λ_ _ _ _ _ _=>rfl) λf cdv hcd A outer s H E hr=>?_
 exact zal (zav 1 sc.nd (zeo rfl z_len (zaf (za9 (zac 0) (zao)) (zah)))) (za0 (zb3 (ydo (N':=["one","other","many"]) (ixs:=[none,none,some 1]) rfl (zjb (scO:=zaq (top bd 18)) (NO:=yf2) rfl rfl (by decide +kernel)) (zge rfl z_range (zaf (zac 1) (zah))) (λ_ _ _ _ _=>zaz 0 zr7) (λ_ _ _ _ _=>zdg) (λ_ _ _ _ _=>ydm rfl z_range (zaf (zb5 (zac 0) (zao)) (zaf (zac 2) (zah)))) (λ_ _ _ _ _=>zaz 1 zr7) (λ_ _ _ _ _=>zdg) (λ_ _ _ _ _=>zbb (zaf (zac 0) (zaf (zac 1) (zah)))))))
theorem yf3:FnScope ["machine","asks","rooms","sources","one","other","ask","behind","pair"] ["machine"] (zaq (top bd 20)):=⟨rfl,rfl,rfl,by decide +kernel,rfl,by decide +kernel,by decide +kernel⟩
theorem h_m_pairs_ahead (F:FJ K mg "pairs_ahead" (top bd 20)) (z_max:mg "max" = none) (z_min:mg "min" = none) (z_range:mg "range" = none) (h_m_all_pairs:Has P w K mg base "all_pairs" 1 1 zdt):Has P w K mg base "pairs_ahead" 2 1 zic:=by
 have sc:=yf3
 refine zcq (k:=1) F sc rfl (bl1 λ_=>λ_ _ _ _ _ _=>rfl) λf cdv hcd A outer s H E hr=>?_
 exact zal (zey (zac 0) (zej rfl (zcc (zaz 1 sc.nd) (zcc (zaz 2 sc.nd) (zd8))))) (zal (zav 3 sc.nd (ycq)) (zal (zgc PassesOwn.never rfl (zbg h_m_all_pairs hr (by decide) rfl (zaf (zac 0) (zah)) (zau zbc)) (zej rfl (zcc (zaz 4 sc.nd) (zcc (zaz 5 sc.nd) (zd8)))) (za0 (zhk PassesOwn.never rfl rfl z_range (zaf (zac 1) (zah)) (zaz 6 sc.nd) (zal (zav 7 sc.nd (zbb (zaf (za9 (za9 (za9 (zac 2) (zac 4)) (zac 6)) (zao)) (zaf (za9 (za9 (za9 (zac 2) (zac 5)) (zac 6)) (zao)) (zah))))) (za0 (zd7 (yar (zd3) (zac 7)) (zal (zav 8 sc.nd (zbb (zaf (yc6 rfl rfl z_min (zaf (zac 7) (zah))) (zaf (yc7 rfl rfl z_max (zaf (zac 7) (zah))) (zah))))) (za0 (zei (zfl (ydb hr (zac 3) (zac 8) (zcb (zah))) (zbb (zaf (zac 4) (zaf (zac 5) (zah)))))))) (zeh))))))) (za0 (zb3 (zac 3)))))
theorem yf4:FnScope ["one","other"] ["one","other"] (zaq (top bd 15)):=⟨rfl,rfl,rfl,by decide +kernel,rfl,by decide +kernel,by decide +kernel⟩
theorem h_m_answers_unlike (F:FJ K mg "answers_unlike" (top bd 15)):Has P w K mg base "answers_unlike" 1 2 zg0:=by
 have sc:=yf4
 refine zcq (k:=0) F sc rfl (bl2 λ_ _=>λ_ _ _ _ _ _=>rfl) λf cdv hcd A outer s H E hr=>?_
 exact za0 (zb3 (zom (zou (zac 0) (zd3)) (zom (zou (zac 1) (zd3)) (zyn (zyt (zac 0) (zac 1))))))
theorem yf5:FnScope ["cell","beside"] ["cell","beside"] (zaq (top bd 16)):=⟨rfl,rfl,rfl,by decide +kernel,rfl,by decide +kernel,by decide +kernel⟩
theorem h_m_say_unlike (F:FJ K mg "say_unlike" (top bd 16)) (h_m_answers_unlike:Has P w K mg base "answers_unlike" 1 2 zg0):Has P w K mg base "say_unlike" 2 2 zfv:=by
 have sc:=yf5
 refine zcq (k:=1) F sc rfl (bl2 λ_ _=>λ_ _ _ _ _ _=>rfl) λf cdv hcd A outer s H E hr=>?_
 exact za0 (zb3 (zbg h_m_answers_unlike hr (by decide) rfl (zaf (za9 (zac 0) (zao)) (zaf (za9 (zac 1) (zao)) (zah))) (zau (zau zbc))))
theorem yf6:FnScope ["machine","asks","rooms"] ["machine"] (zaq (top bd 19)):=⟨rfl,rfl,rfl,by decide +kernel,rfl,by decide +kernel,by decide +kernel⟩
theorem zr8:List.Nodup (["one","other","asks","rooms"]:List Str):=by decide +kernel
theorem yf7:List.Nodup (["ask","rooms","one","other"]:List Str):=by decide +kernel
noncomputable abbrev yf8:List Str:=["machine","asks","rooms"]
theorem h_m_pairs_at_once (F:FJ K mg "pairs_at_once" (top bd 19)) (z_any:mg "any" = none) (z_range:mg "range" = none) (h_m_all_pairs:Has P w K mg base "all_pairs" 1 1 zdt) (h_m_say_unlike:Has P w K mg base "say_unlike" 2 2 zfv):Has P w K mg base "pairs_at_once" 3 1 zid:=by
 have sc:=yf6
 refine zcq (k:=2) F sc rfl (bl1 λ_=>λ_ _ _ _ _ _=>rfl) λf cdv hcd A outer s H E hr=>?_
 exact zal (zey (zac 0) (zej rfl (zcc (zaz 1 sc.nd) (zcc (zaz 2 sc.nd) (zd8))))) (za0 (zb3 (zec (N':=["one","other","asks","rooms"]) (ixs:=[none,none,some 1,some 2]) rfl (zed (scO:=zaq (top bd 19)) (NO:=yf8) rfl rfl (by decide +kernel)) (zez (zbg h_m_all_pairs hr (by decide) rfl (zaf (zac 0) (zah)) (zau zbc))) (λ_ _ _ _ _=>zej rfl (zcc (zaz 0 zr8) (zcc (zaz 1 zr8) (zd8)))) (λ_ _ _ _ _=>zhm (zi4 (ya3 rfl rfl z_any (zaf (zec (N':=["ask","rooms","one","other"]) (ixs:=[none,some 3,some 0,some 1]) rfl (CompSc.toSd (zqd (scO:=zaq (top bd 19)) rfl (by decide +kernel))) (zge rfl z_range (zaf (zac 2) (zah))) (λ_ _ _ _ _=>zaz 0 yf7) (λ_ _ _ _ _=>zdg) (λ_ _ _ _ _=>zbg h_m_say_unlike hr (by decide) rfl (zaf (za9 (za9 (zac 1) (zac 2)) (zac 0)) (zaf (za9 (za9 (zac 1) (zac 3)) (zac 0)) (zah))) (zau (zau zbc)))) (zah))))) (λ_ _ _ _ _=>zbb (zaf (zac 0) (zaf (zac 1) (zah)))))))
theorem yf9:FnScope ["machine","waiting","sources","found","pair","source"] ["machine"] (zaq (top bd 17)):=⟨rfl,rfl,rfl,by decide +kernel,rfl,by decide +kernel,by decide +kernel⟩
theorem yga:List.Nodup (["pair"]:List Str):=by decide +kernel
noncomputable abbrev ygb:List Str:=["machine","waiting","sources","found","pair","source"]
theorem h_m_parted_pairs (F:FJ K mg "parted_pairs" (top bd 17)) (h_m_pairs_ahead:Has P w K mg base "pairs_ahead" 2 1 zic) (h_m_pairs_at_once:Has P w K mg base "pairs_at_once" 3 1 zid):Has P w K mg base "parted_pairs" 4 1 zg1:=by
 have sc:=yf9
 refine zcq (k:=3) F sc rfl (bl1 λ_=>λ_ _ _ _ _ _=>rfl) λf cdv hcd A outer s H E hr=>?_
 exact zal (zav 1 sc.nd (zbg h_m_pairs_at_once hr (by decide) rfl (zaf (zac 0) (zah)) (zau zbc))) (zal (zav 2 sc.nd (zbg h_m_pairs_ahead hr (by decide) rfl (zaf (zac 0) (zah)) (zau zbc))) (zal (ycz 3 sc.nd hr (N':=["pair"]) (ixs:=[none]) rfl (zjb (scO:=zaq (top bd 17)) (NO:=ygb) rfl rfl (by decide +kernel)) (ycy (zez (zac 1))) (λ_ _ _ _ _=>zaz 0 yga) (λ_ _ _ _ _=>zdg) (λ_ _ _ _ _=>zac 0) (λ_ _ _ _ _=>zev)) (zal (yag zhr PassesOwn.never (zqg (zac 1)) (zal (zav 4 sc.nd (zy9 (zac 1))) (za0 (zgc PassesOwn.never rfl (ycp hr (zac 2) (zac 4) (zcb (zah))) (zaz 5 sc.nd) (za0 (zd7 (zp8 hr (zac 5) (zac 3)) (zal (zp9 hr (zac 3) (zac 5) (zev)) (za0 (zei (zfl (zac 1) (zac 5))))) (zeh))))))) (za0 (zb3 (zac 3))))))
theorem ygc:FnScope ["machine"] ["machine"] (zaq (top bd 22)):=⟨rfl,rfl,rfl,by decide +kernel,rfl,by decide +kernel,by decide +kernel⟩
theorem zr9:List.Nodup (["room","cell"]:List Str):=by decide +kernel
noncomputable abbrev ygd:List Str:=["machine"]
theorem h_m_is_full (F:FJ K mg "is_full" (top bd 22)) (z_all:mg "all" = none):Has P w K mg base "is_full" 1 1 zcf:=by
 have sc:=ygc
 refine zcq (k:=0) F sc rfl (bl1 λ_=>λ_ _ _ _ _ _=>rfl) λf cdv hcd A outer s H E hr=>?_
 exact za0 (zb3 (ya2 rfl rfl z_all (zaf (ydr (N':=["room","cell"]) (ixs:=[none,none]) rfl (zjb (scO:=zaq (top bd 22)) (NO:=ygd) rfl rfl (by decide +kernel)) (zez (za9 (zac 0) (zao))) (λ_ _ _ _ _=>zaz 0 zr9) (λ_ _ _ _ _=>zdg) (λ_ _ _ _ _=>ydp (zac 0)) (λ_ _ _ _ _=>zaz 1 zr9) (λ_ _ _ _ _=>zdg) (λ_ _ _ _ _=>yaq (zd3) (zac 1))) (zah))))
theorem zsa:FnScope ["machine","pairs","found","room","alike"] ["machine"] (zaq (top bd 23)):=⟨rfl,rfl,rfl,by decide +kernel,rfl,by decide +kernel,by decide +kernel⟩
theorem yge:List.Nodup (["first","room","pairs"]:List Str):=by decide +kernel
noncomputable abbrev ygf:List Str:=["machine","pairs","found","room","alike"]
theorem h_m_blocks (F:FJ K mg "blocks" (top bd 23)) (z_list:mg "list" = none) (z_range:mg "range" = none) (z_len:mg "len" = none) (h_m_parted_pairs:Has P w K mg base "parted_pairs" 4 1 zg1) (h_m_is_full:Has P w K mg base "is_full" 1 1 zcf) (q_NotFull:mg "NotFull" = some (.ref (CA "NotFull"))) (x_NotFull:PySem.W.excIn K (CA "NotFull") zc7 "ValueError.__new__" = true):Has P w K mg base "blocks" 5 1 zdu:=by
 have sc:=zsa
 refine zcq (k:=4) F sc rfl (bl1 λ_=>λ_ _ _ _ _ _=>rfl) λf cdv hcd A outer s H E hr=>?_
 exact zal (zd7 (zol (zi4 (zbg h_m_is_full hr (by decide) rfl (zaf (zac 0) (zah)) (zau zbc)))) (za0 (zzb)) (zeh)) (zal (zav 1 sc.nd (zbg h_m_parted_pairs hr (by decide) rfl (zaf (zac 0) (zah)) (zau zbc))) (zal (zav 2 sc.nd (ya6)) (zal (zhk PassesOwn.never rfl rfl z_range (zaf (zeo rfl z_len (zaf (za9 (zac 0) (zao)) (zah))) (zah)) (zaz 3 sc.nd) (zal (yfa 2 (zqb 4 sc.nd (N':=["first","room","pairs"]) (ixs:=[none,some 3,some 1]) rfl (zed (scO:=zaq (top bd 23)) (NO:=ygf) rfl rfl (by decide +kernel)) (ybz (zac 2)) (λ_ _ _ _ _=>zaz 0 yge) (λ_ _ _ _ _=>zhm (zp8 hr (zbb (zaf (zac 0) (zaf (zac 1) (zah)))) (zac 2))) (λ_ _ _ _ _=>zac 0))) (za0 (zd7 (zqg (zac 4)) (za0 (ye8 hr (zac 2) (za9 (zac 4) (zao)) (zbb (zaf (zac 3) (zah))))) (za0 (zp9 hr (zac 2) (zac 3) (zbb (zaf (zac 3) (zah))))))))) (za0 (zb3 (ye3 rfl rfl z_list (zac 2)))))))
theorem hz_blocks (F:FJ K mg "blocks" (top bd 23)) (z_list:mg "list" = none) (z_range:mg "range" = none) (z_len:mg "len" = none) (h_m_parted_pairs:Has P w K mg base "parted_pairs" 4 1 zg1) (h_m_is_full:Has P w K mg base "is_full" 1 1 zcf) (q_NotFull:mg "NotFull" = some (.ref (CA "NotFull"))) (x_NotFull:PySem.W.excIn K (CA "NotFull") zc7 "ValueError.__new__" = true):ze3 P w K mg base CA "blocks" 5 1 zg2:=by
 have sc:=zsa
 refine yf0 (k:=4) F sc rfl (bl1 λ_=>λ_ _ _ _ _ _=>rfl) λf cdv hcd A outer s H E hr=>?_
 exact zpz (yb6 (zol (zi4 (zbg h_m_is_full hr (by decide) rfl (zaf (zac 0) (zah)) (zau zbc)))) (zpz (yb7 rfl q_NotFull x_NotFull)) (yb4))
theorem ygg:FnScope ["_law_caught","_law_flags"] ["_law_caught"] (zaq (top bd 30)):=⟨rfl,rfl,rfl,by decide +kernel,rfl,by decide +kernel,by decide +kernel⟩
theorem zsb:List.Nodup (["_law_word","_law_flag"]:List Str):=by decide +kernel
noncomputable abbrev ygh:List Str:=["_law_caught","_law_flags"]
theorem h_m_law_words (F:FJ K mg "_law_words" (top bd 30)) (z_int:mg "int" = none) (z_isinstance:mg "isinstance" = none) (z_ValueError:mg "ValueError" = none) (q_NoLine:mg "NoLine" = some (.ref (CA "NoLine"))) (q_NoName:mg "NoName" = some (.ref (CA "NoName"))) (q_NoText:mg "NoText" = some (.ref (CA "NoText"))) (q_NoBack:mg "NoBack" = some (.ref (CA "NoBack"))) (q_NotOpen:mg "NotOpen" = some (.ref (CA "NotOpen"))) (q_NoWords:mg "NoWords" = some (.ref (CA "NoWords"))) (q_Clash:mg "Clash" = some (.ref (CA "Clash"))) (q_Unreached:mg "Unreached" = some (.ref (CA "Unreached"))) (q_NotFull:mg "NotFull" = some (.ref (CA "NotFull"))) (q_Unlike:mg "Unlike" = some (.ref (CA "Unlike"))) (q_NotClosed:mg "NotClosed" = some (.ref (CA "NotClosed"))) (q_TooMany:mg "TooMany" = some (.ref (CA "TooMany"))) (n_NotFull:PySem.W.nsIn K mainGlobals "NotFull" = some (some (.ref (CA "NotFull")))) (e_NotFull:ExcQ K (CA "NotFull")) (i_0:PySem.W.kitOne K (.ref (CA "NotFull")) (.type "ValueError")=some true) (i_1:PySem.W.kitOne K (.ref (CA "NotFull")) (.ref (CA "NoLine"))=some false) (i_2:PySem.W.kitOne K (.ref (CA "NotFull")) (.ref (CA "NoName"))=some false) (i_3:PySem.W.kitOne K (.ref (CA "NotFull")) (.ref (CA "NoText"))=some false) (i_4:PySem.W.kitOne K (.ref (CA "NotFull")) (.ref (CA "NoBack"))=some false) (i_5:PySem.W.kitOne K (.ref (CA "NotFull")) (.ref (CA "NotOpen"))=some false) (i_6:PySem.W.kitOne K (.ref (CA "NotFull")) (.ref (CA "NoWords"))=some false) (i_7:PySem.W.kitOne K (.ref (CA "NotFull")) (.ref (CA "Clash"))=some false) (i_8:PySem.W.kitOne K (.ref (CA "NotFull")) (.ref (CA "Unreached"))=some false) (i_9:PySem.W.kitOne K (.ref (CA "NotFull")) (.ref (CA "NotFull"))=some true) (i_10:PySem.W.kitOne K (.ref (CA "NotFull")) (.ref (CA "Unlike"))=some false) (i_11:PySem.W.kitOne K (.ref (CA "NotFull")) (.ref (CA "NotClosed"))=some false) (i_12:PySem.W.kitOne K (.ref (CA "NotFull")) (.ref (CA "TooMany"))=some false):Has P w K mg base "_law_words" 1 1 zie:=by
 have sc:=ygg
 refine zcq (k:=0) F sc rfl (bl1 λ_=>λ_ _ _ _ _ _=>rfl) λf cdv hcd A outer s H E hr=>?_
 exact zal (zav 1 sc.nd (zcb (zaf (zbb (zaf (zct) (zaf (zdi rfl z_isinstance (zac 0) rfl q_TooMany (zc8 (R:=λC b=>ExcQ _ C/\PySem.W.kitOne _ (.ref C) _=some b) n_NotFull ⟨e_NotFull,i_12⟩)) (zah)))) (zaf (zbb (zaf (zct) (zaf (zdi rfl z_isinstance (zac 0) rfl q_NotClosed (zc8 (R:=λC b=>ExcQ _ C/\PySem.W.kitOne _ (.ref C) _=some b) n_NotFull ⟨e_NotFull,i_11⟩)) (zah)))) (zah))))) (zal (zav 1 sc.nd (zb5 (zac 1) (zcb (zaf (zbb (zaf (zct) (zaf (zdi rfl z_isinstance (zac 0) rfl q_Unlike (zc8 (R:=λC b=>ExcQ _ C/\PySem.W.kitOne _ (.ref C) _=some b) n_NotFull ⟨e_NotFull,i_10⟩)) (zah)))) (zaf (zbb (zaf (zct) (zaf (zdi rfl z_isinstance (zac 0) rfl q_NotFull (zc8 (R:=λC b=>ExcQ _ C/\PySem.W.kitOne _ (.ref C) _=some b) n_NotFull ⟨e_NotFull,i_9⟩)) (zah)))) (zah)))))) (zal (zav 1 sc.nd (zb5 (zac 1) (zcb (zaf (zbb (zaf (zct) (zaf (zdi rfl z_isinstance (zac 0) rfl q_Unreached (zc8 (R:=λC b=>ExcQ _ C/\PySem.W.kitOne _ (.ref C) _=some b) n_NotFull ⟨e_NotFull,i_8⟩)) (zah)))) (zaf (zbb (zaf (zct) (zaf (zdi rfl z_isinstance (zac 0) rfl q_Clash (zc8 (R:=λC b=>ExcQ _ C/\PySem.W.kitOne _ (.ref C) _=some b) n_NotFull ⟨e_NotFull,i_7⟩)) (zah)))) (zah)))))) (zal (zav 1 sc.nd (zb5 (zac 1) (zcb (zaf (zbb (zaf (zct) (zaf (zdi rfl z_isinstance (zac 0) rfl q_NoWords (zc8 (R:=λC b=>ExcQ _ C/\PySem.W.kitOne _ (.ref C) _=some b) n_NotFull ⟨e_NotFull,i_6⟩)) (zah)))) (zaf (zbb (zaf (zct) (zaf (zdi rfl z_isinstance (zac 0) rfl q_NotOpen (zc8 (R:=λC b=>ExcQ _ C/\PySem.W.kitOne _ (.ref C) _=some b) n_NotFull ⟨e_NotFull,i_5⟩)) (zah)))) (zah)))))) (zal (zav 1 sc.nd (zb5 (zac 1) (zcb (zaf (zbb (zaf (zct) (zaf (zdi rfl z_isinstance (zac 0) rfl q_NoBack (zc8 (R:=λC b=>ExcQ _ C/\PySem.W.kitOne _ (.ref C) _=some b) n_NotFull ⟨e_NotFull,i_4⟩)) (zah)))) (zaf (zbb (zaf (zct) (zaf (zdi rfl z_isinstance (zac 0) rfl q_NoText (zc8 (R:=λC b=>ExcQ _ C/\PySem.W.kitOne _ (.ref C) _=some b) n_NotFull ⟨e_NotFull,i_3⟩)) (zah)))) (zah)))))) (zal (zav 1 sc.nd (zb5 (zac 1) (zcb (zaf (zbb (zaf (zct) (zaf (zdi rfl z_isinstance (zac 0) rfl q_NoName (zc8 (R:=λC b=>ExcQ _ C/\PySem.W.kitOne _ (.ref C) _=some b) n_NotFull ⟨e_NotFull,i_2⟩)) (zah)))) (zaf (zbb (zaf (zct) (zaf (zdi rfl z_isinstance (zac 0) rfl q_NoLine (zc8 (R:=λC b=>ExcQ _ C/\PySem.W.kitOne _ (.ref C) _=some b) n_NotFull ⟨e_NotFull,i_1⟩)) (zah)))) (zah)))))) (za0 (zb3 (zb5 (zec (N':=["_law_word","_law_flag"]) (ixs:=[none,none]) rfl (zed (scO:=zaq (top bd 30)) (NO:=ygh) rfl rfl (by decide +kernel)) (zez (zac 1)) (λ_ _ _ _ _=>zej rfl (zcc (zaz 0 zsb) (zcc (zaz 1 zsb) (zd8)))) (λ_ _ _ _ _=>zhm (zi4 (zac 1))) (λ_ _ _ _ _=>zac 0)) (yat (zcb (zaf (zct) (zah))) (ybp rfl z_int (zaf (zyo (ycm (U:="ValueError") rfl z_isinstance (zac 0) rfl z_ValueError (by decide +kernel) (zc8 (R:=λC b=>ExcQ _ C/\PySem.W.kitOne _ (.ref C) _=some b) n_NotFull ⟨e_NotFull,i_0⟩))) (zah))))))))))))
theorem ygi:FnScope ["_law_machine","_law_caught","e"] ["_law_machine"] (zaq (top bd 32)):=⟨rfl,rfl,rfl,by decide +kernel,rfl,by decide +kernel,by decide +kernel⟩
theorem h_m_law_refused (F:FJ K mg "_law_refused" (top bd 32)) (h_m_law_words:Has P w K mg base "_law_words" 1 1 zie) (h_m_blocks:Has P w K mg base "blocks" 5 1 zdu) (hz_blocks:ze3 P w K mg base CA "blocks" 5 1 zg2) (q_CellError:mg "CellError" = some (.ref (CA "CellError"))) (x_CellError:PySem.W.excIn K (CA "CellError") zc7 "ValueError.__new__" = true) (x_NotFull:PySem.W.excIn K (CA "NotFull") zc7 "ValueError.__new__" = true) (n_NotFull:PySem.W.nsIn K mainGlobals "NotFull" = some (some (.ref (CA "NotFull")))) (s_NotFull_CellError:(Value.ref (CA "NotFull") :: zeq K (CA "NotFull")).contains (.ref (CA "CellError"))=true):Has P w K mg base "_law_refused" 6 1 zfw:=by
 have sc:=ygi
 refine zcq (k:=5) F sc rfl (bl1 λ_=>λ_ _ _ _ _ _=>rfl) λf cdv hcd A outer s H E hr=>?_
 exact zal (zav 1 sc.nd (zd3)) (zal (ydu (CA:=CA) 2 sc.nd (λ_ _ h=>h) rfl rfl rfl q_CellError x_CellError (ycn ⟨n_NotFull,x_NotFull,s_NotFull_CellError⟩) (λ_=>za0 (zav 1 sc.nd (zac 2))) (λ_=>ye5 hz_blocks (λ_ _ h=>h) hr (by decide) (zaf (zac 0) (zah)) (zau zbc)) (za0 (zei (zbg h_m_blocks hr (by decide) rfl (zaf (zac 0) (zah)) (zau zbc))))) (za0 (zb3 (zon (zyu (zac 1) (zd3)) (zcb (zaf (zct) (zah))) (zbg h_m_law_words hr (by decide) rfl (zaf (zac 1) (zah)) (zau zbc))))))
theorem ygj:FnScope ["_law_rooms","_law_homes_here","_law_turn","_law_marks"] ["_law_rooms"] (zaq (top bd 29)):=⟨rfl,rfl,rfl,by decide +kernel,rfl,by decide +kernel,by decide +kernel⟩
theorem ygk:List.Nodup (["_law_cells"]:List Str):=by decide +kernel
theorem ygl:List.Nodup (["_law_cells","_law_homes_here"]:List Str):=by decide +kernel
theorem zsc:List.Nodup (["_law_goes","_law_answer","_law_homes_here"]:List Str):=by decide +kernel
theorem ygm:List.Nodup (["_law_mark","_law_marks"]:List Str):=by decide +kernel
noncomputable abbrev zma:List Str:=["_law_rooms","_law_homes_here","_law_turn","_law_marks"]
theorem h_m_law_homes (F:FJ K mg "_law_homes" (top bd 29)) (z_tuple:mg "tuple" = none):Has P w K mg base "_law_homes" 1 1 zif:=by
 have sc:=ygj
 refine zcq (k:=0) F sc rfl (bl1 λ_=>λ_ _ _ _ _ _=>rfl) λf cdv hcd A outer s H E hr=>?_
 exact zal (zav 1 sc.nd (zec (N':=["_law_cells"]) (ixs:=[none]) rfl (zed (scO:=zaq (top bd 29)) (NO:=zma) rfl rfl (by decide +kernel)) (zez (zac 0)) (λ_ _ _ _ _=>zaz 0 ygk) (λ_ _ _ _ _=>zdg) (λ_ _ _ _ _=>zao))) (zal (zgc PassesOwn.never rfl (zac 0) (zaz 2 sc.nd) (zal (zav 3 sc.nd (zec (N':=["_law_cells","_law_homes_here"]) (ixs:=[none,some 1]) rfl (zed (scO:=zaq (top bd 29)) (NO:=zma) rfl rfl (by decide +kernel)) (zez (zac 0)) (λ_ _ _ _ _=>zaz 0 ygl) (λ_ _ _ _ _=>zdg) (λ_ _ _ _ _=>zja rfl z_tuple (zaf (zec (N':=["_law_goes","_law_answer","_law_homes_here"]) (ixs:=[none,none,some 1]) rfl (CompSc.toSd (zqd (scO:=zaq (top bd 29)) rfl (by decide +kernel))) (zez (zac 0)) (λ_ _ _ _ _=>zej rfl (zcc (zaz 0 zsc) (zcc (zaz 1 zsc) (zd8)))) (λ_ _ _ _ _=>zdg) (λ_ _ _ _ _=>zbb (zaf (za9 (zac 2) (zac 0)) (zaf (zac 1) (zah))))) (zah))))) (za0 (zav 1 sc.nd (zec (N':=["_law_mark","_law_marks"]) (ixs:=[none,some 3]) rfl (zed (scO:=zaq (top bd 29)) (NO:=zma) rfl rfl (by decide +kernel)) (zez (zac 3)) (λ_ _ _ _ _=>zaz 0 ygm) (λ_ _ _ _ _=>zdg) (λ_ _ _ _ _=>ydf hr (zac 1) (zac 0))))))) (za0 (zb3 (zac 1))))
theorem ygn:FnScope ["_law_machine","_law_homes_here","_law_found","_law_first"] ["_law_machine"] (zaq (top bd 31)):=⟨rfl,rfl,rfl,by decide +kernel,rfl,by decide +kernel,by decide +kernel⟩
theorem ygo:List.Nodup (["_law_room","_law_homes_here","_law_first"]:List Str):=by decide +kernel
noncomputable abbrev ygp:List Str:=["_law_machine","_law_homes_here","_law_found","_law_first"]
theorem h_m_law_due (F:FJ K mg "_law_due" (top bd 31)) (z_tuple:mg "tuple" = none) (z_range:mg "range" = none) (z_len:mg "len" = none) (z_sorted:mg "sorted" = none) (z_set:mg "set" = none) (h_m_law_homes:Has P w K mg base "_law_homes" 1 1 zif):Has P w K mg base "_law_due" 2 1 zig:=by
 have sc:=ygn
 refine zcq (k:=1) F sc rfl (bl1 λ_=>λ_ _ _ _ _ _=>rfl) λf cdv hcd A outer s H E hr=>?_
 exact zal (zav 1 sc.nd (zbg h_m_law_homes hr (by decide) rfl (zaf (za9 (zac 0) (zao)) (zah)) (zau zbc))) (zal (zav 2 sc.nd (zcb (zah))) (zal (zgc PassesOwn.never rfl (yez rfl rfl z_sorted rfl z_set (zaf (zac 1) (zah))) (zaz 3 sc.nd) (za0 (zei (zfl (zac 2) (zja rfl z_tuple (zaf (zec (N':=["_law_room","_law_homes_here","_law_first"]) (ixs:=[none,some 1,some 3]) rfl (zed (scO:=zaq (top bd 31)) (NO:=ygp) rfl rfl (by decide +kernel)) (zge rfl z_range (zaf (zeo rfl z_len (zaf (zac 1) (zah))) (zah))) (λ_ _ _ _ _=>zaz 0 ygo) (λ_ _ _ _ _=>zhm (zov (za9 (zac 1) (zac 0)) (zac 2))) (λ_ _ _ _ _=>zac 0)) (zah))))))) (za0 (zb3 (zac 2)))))
theorem ygq:FnScope ["_law_machine","_law_way","_law_spot","_law_asks","_law_rooms","_law_room","_law_ask","_law_goes","_law_answer","_law_cell","_law_cells"] ["_law_machine","_law_way","_law_spot"] (zaq (top bd 28)):=⟨rfl,rfl,rfl,by decide +kernel,rfl,by decide +kernel,by decide +kernel⟩
theorem h_m_law_opened (F:FJ K mg "_law_opened" (top bd 28)) (z_len:mg "len" = none):Has P w K mg base "_law_opened" 1 3 zih:=by
 have sc:=ygq
 refine zcq (k:=0) F sc rfl (bl3 λ_ _ _=>λ_ _ _ _ _ _=>rfl) λf cdv hcd A outer s H E hr=>?_
 exact zal (zey (zac 0) (zej rfl (zcc (zaz 3 sc.nd) (zcc (zaz 4 sc.nd) (zd8))))) (zal (zav 5 sc.nd (zd5 (zac 2) (zeo rfl z_len (zaf (zac 4) (zah))))) (zal (zav 6 sc.nd (zd5 (zi6 (zac 2) (zeo rfl z_len (zaf (zac 4) (zah)))) (zac 3))) (zal (zey (za9 (za9 (zac 4) (zac 5)) (zac 6)) (zej rfl (zcc (zaz 7 sc.nd) (zcc (zaz 8 sc.nd) (zd8))))) (zal (zav 9 sc.nd (za9 (zcb (zaf (zbb (zaf (zd3) (zaf (zac 8) (zah)))) (zaf (zbb (zaf (zac 7) (zaf (zd3) (zah)))) (zaf (zbb (zaf (zd3) (zaf (zd3) (zah)))) (zah))))) (zac 1))) (zal (zav 10 sc.nd (zb5 (zb5 (zhw (za9 (zac 4) (zac 5)) (zhh) (zhi (zac 6))) (zbb (zaf (zac 9) (zah)))) (zhw (za9 (zac 4) (zac 5)) (zhi (zb5 (zac 6) (zao))) (zhh)))) (za0 (zb3 (zbb (zaf (zac 3) (zaf (zb5 (zb5 (zhw (zac 4) (zhh) (zhi (zac 5))) (zbb (zaf (zac 10) (zah)))) (zhw (zac 4) (zhi (zb5 (zac 5) (zao))) (zhh))) (zah)))))))))))
theorem ygr:FnScope ["_law_pen_here","_law_many","_law_digit","_law_script","_law_at","_law_cell","_law_prime","_law_number"] ["_law_pen_here","_law_many"] (zaq (top bd 26)):=⟨rfl,rfl,rfl,by decide +kernel,rfl,by decide +kernel,by decide +kernel⟩
theorem h_m_law_draw (F:FJ K mg "_law_draw" (top bd 26)) (z_len:mg "len" = none) (z_abs:mg "abs" = none):Has P w K mg base "_law_draw" 1 2 zb0:=by
 have sc:=ygr
 refine zcq (k:=0) F sc rfl (bl2 λ_ _=>λ_ _ _ _ _ _=>rfl) λf cdv hcd A outer s H E hr=>?_
 exact zal (zd7 (zoq (za9 (zac 0) (zao)) (zao)) (zal (zav 2 sc.nd (zd5 (za9 (zac 0) (zao)) (zac 1))) (zal (zey (zi6 (za9 (zac 0) (zao)) (zac 1)) (zk4 (zac 0) (zao))) (za0 (zb3 (zac 2))))) (zeh)) (zal (zey (zhw (zac 0) (zhh) (zhi (zao))) (ybf rfl (zcc (zaz 3 sc.nd) (zcc (zaz 4 sc.nd) (zd8))))) (zal (zey (zb5 (zac 4) (zao)) (zk4 (zac 0) (zao))) (zal (zav 5 sc.nd (zb5 (zle (zao) (zac 4)) (zao))) (zal (zd7 (zoq (zeo rfl z_len (zaf (zac 3) (zah))) (zao)) (zal (zav 5 sc.nd (za9 (zac 3) (zd5 (zac 4) (zeo rfl z_len (zaf (zac 3) (zah)))))) (za0 (zd7 (zok (zym (zop (zac 4) (zeo rfl z_len (zaf (zac 3) (zah)))) (zyk (zyp (zk7 rfl z_abs (zaf (zac 5) (zah))) (zkz (zao) (zao)))))) (zal (zey (zi6 (zk7 rfl z_abs (zaf (zac 5) (zah))) (zac 1)) (zk4 (zac 0) (zao))) (za0 (zb3 (zd5 (zk7 rfl z_abs (zaf (zac 5) (zah))) (zac 1))))) (zeh)))) (zeh)) (zal (zav 6 sc.nd (za9 (zcb (zaf (zao) (zaf (zao) (zaf (zao) (zaf (zao) (zaf (zao) (zah))))))) (zd5 (zac 4) (zao)))) (zal (zav 7 sc.nd (zd5 (zkz (zb5 (zb5 (zd5 (zac 5) (zac 6)) (zle (zao) (zac 4))) (zao)) (zao)) (zac 6))) (zal (zav 7 sc.nd (zd5 (zkz (zb5 (zle (zac 7) (zb5 (zac 4) (zao))) (zao)) (zao)) (zao))) (za0 (zb3 (zd5 (zi6 (zac 7) (zao)) (zac 1)))))))))))
theorem ygs:FnScope ["_law_pen_here","_law_most","_law_many","_law_kinds","_law_asks","_law_answers","_law_sorts","_law_plain","_law_kind","_law_found","_law_sort","_law_cells","_law_answer","_law_some"] ["_law_pen_here","_law_most"] (zaq (top bd 27)):=⟨rfl,rfl,rfl,by decide +kernel,rfl,by decide +kernel,by decide +kernel⟩
theorem ygt:List.Nodup (["_law_room","_law_kinds","_law_pen_here"]:List Str):=by decide +kernel
theorem ygu:List.Nodup (["_law_ask","_law_pen_here","_law_kinds","_law_answers"]:List Str):=by decide +kernel
theorem ygv:List.Nodup (["_law_room","_law_sorts","_law_kind"]:List Str):=by decide +kernel
noncomputable abbrev zmb:List Str:=["_law_pen_here","_law_most","_law_many","_law_kinds","_law_asks","_law_answers","_law_sorts","_law_plain","_law_kind","_law_found","_law_sort","_law_cells","_law_answer","_law_some"]
theorem h_m_law_full (F:FJ K mg "_law_full" (top bd 27)) (z_tuple:mg "tuple" = none) (z_len:mg "len" = none) (z_range:mg "range" = none) (h_m_law_draw:Has P w K mg base "_law_draw" 1 2 zb0):Has P w K mg base "_law_full" 2 2 zii:=by
 have sc:=ygs
 refine zcq (k:=1) F sc rfl (bl2 λ_ _=>λ_ _ _ _ _ _=>rfl) λf cdv hcd A outer s H E hr=>?_
 exact zal (zav 2 sc.nd (zb5 (zao) (zbg h_m_law_draw hr (by decide) rfl (zaf (zac 0) (zaf (za9 (zcb (zaf (zao) (zaf (zac 1) (zaf (zac 1) (zah))))) (zbg h_m_law_draw hr (by decide) rfl (zaf (zac 0) (zaf (zao) (zah))) (zau (zau zbc)))) (zah))) (zau (zau zbc))))) (zal (zav 3 sc.nd (zb5 (zao) (zbg h_m_law_draw hr (by decide) rfl (zaf (zac 0) (zaf (zac 2) (zah))) (zau (zau zbc))))) (zal (zav 4 sc.nd (zb5 (zao) (zbg h_m_law_draw hr (by decide) rfl (zaf (zac 0) (zaf (zao) (zah))) (zau (zau zbc))))) (zal (zav 5 sc.nd (za9 (zcb (zaf (zao) (zaf (zao) (zaf (zao) (zaf (zao) (zah)))))) (zbg h_m_law_draw hr (by decide) rfl (zaf (zac 0) (zaf (zao) (zah))) (zau (zau zbc))))) (zal (zav 6 sc.nd (zec (N':=["_law_room","_law_kinds","_law_pen_here"]) (ixs:=[none,some 3,some 0]) rfl (zed (scO:=zaq (top bd 27)) (NO:=zmb) rfl rfl (by decide +kernel)) (zge rfl z_range (zaf (zac 2) (zah))) (λ_ _ _ _ _=>zaz 0 ygt) (λ_ _ _ _ _=>zdg) (λ_ _ _ _ _=>zon (zop (zac 0) (zac 1)) (zac 0) (zbg h_m_law_draw hr (by decide) rfl (zaf (zac 2) (zaf (zac 1) (zah))) (zau (zau zbc)))))) (zal (zav 7 sc.nd (zcb (zah))) (zal (zhk PassesOwn.never rfl rfl z_range (zaf (zac 3) (zah)) (zaz 8 sc.nd) (za0 (zei (zfl (zac 7) (zec (N':=["_law_ask","_law_pen_here","_law_kinds","_law_answers"]) (ixs:=[none,some 0,some 3,some 5]) rfl (zed (scO:=zaq (top bd 27)) (NO:=zmb) rfl rfl (by decide +kernel)) (zge rfl z_range (zaf (zac 4) (zah))) (λ_ _ _ _ _=>zaz 0 ygu) (λ_ _ _ _ _=>zdg) (λ_ _ _ _ _=>zbb (zaf (zbg h_m_law_draw hr (by decide) rfl (zaf (zac 1) (zaf (zac 2) (zah))) (zau (zau zbc))) (zaf (zbg h_m_law_draw hr (by decide) rfl (zaf (zac 1) (zaf (zac 3) (zah))) (zau (zau zbc))) (zah))))))))) (zal (zav 9 sc.nd (zcb (zah))) (zal (zgc PassesOwn.never rfl (zac 6) (zaz 10 sc.nd) (zal (zav 11 sc.nd (zcb (zah))) (zal (zgc PassesOwn.never rfl (za9 (zac 7) (zac 10)) (zej rfl (zcc (zaz 8 sc.nd) (zcc (zaz 12 sc.nd) (zd8)))) (zal (zqb 13 sc.nd (N':=["_law_room","_law_sorts","_law_kind"]) (ixs:=[none,some 6,some 8]) rfl (zed (scO:=zaq (top bd 27)) (NO:=zmb) rfl rfl (by decide +kernel)) (zge rfl z_range (zaf (zac 2) (zah))) (λ_ _ _ _ _=>zaz 0 ygv) (λ_ _ _ _ _=>zhm (zov (za9 (zac 1) (zac 0)) (zac 2))) (λ_ _ _ _ _=>zac 0)) (za0 (zei (zfl (zac 11) (zbb (zaf (za9 (zac 13) (zbg h_m_law_draw hr (by decide) rfl (zaf (zac 0) (zaf (zeo rfl z_len (zaf (zac 13) (zah))) (zah))) (zau (zau zbc)))) (zaf (zac 12) (zah))))))))) (za0 (zei (zfl (zac 9) (zja rfl z_tuple (zaf (zac 11) (zah))))))))) (za0 (zb3 (zbb (zaf (zac 4) (zaf (zja rfl z_tuple (zaf (zac 9) (zah))) (zah))))))))))))))
theorem ygw:FnScope ["_law_script"] ["_law_script"] (zaq (top bd 25)):=⟨rfl,rfl,rfl,by decide +kernel,rfl,by decide +kernel,by decide +kernel⟩
theorem h_m_law_pen (F:FJ K mg "_law_pen" (top bd 25)):Has P w K mg base "_law_pen" 1 1 zj0:=by
 have sc:=ygw
 refine zcq (k:=0) F sc rfl (bl1 λ_=>λ_ _ _ _ _ _=>rfl) λf cdv hcd A outer s H E hr=>?_
 exact za0 (zb3 (zcb (zaf (zac 0) (zaf (zao) (zaf (zao) (zah))))))
theorem ygx:FnScope ["_law_script","_law_pen_here","_law_turn","_law_way","_law_spot","_law_machine","_law_bare","_law_kept","_law_due_here","_law_again","_law_found"] ["_law_script"] (zaq (top bd 33)):=⟨rfl,rfl,rfl,by decide +kernel,rfl,by decide +kernel,by decide +kernel⟩
theorem ygy {f:Addr}{fd:FuncData}(F:Fun K "law" "law" (top bd 33) f fd) (z_repr:mg "repr" = none) (z_range:mg "range" = none) (h_m_blocks:Has P w K mg base "blocks" 5 1 zdu) (h_m_is_full:Has P w K mg base "is_full" 1 1 zcf) (h_m_law_refused:Has P w K mg base "_law_refused" 6 1 zfw) (h_m_law_due:Has P w K mg base "_law_due" 2 1 zig) (h_m_law_opened:Has P w K mg base "_law_opened" 1 3 zih) (h_m_law_full:Has P w K mg base "_law_full" 2 2 zii) (h_m_law_draw:Has P w K mg base "_law_draw" 1 2 zb0) (h_m_law_pen:Has P w K mg base "_law_pen" 1 1 zj0):FnOk P w K mg base CX0 7 f fd ["_law_script"] (sp3 K 1 ze8):=by
 have sc:=ygx
 refine zo3 (k:=6) F sc rfl λcdv hcd A outer s H E hr=>?_
 refine zal (zav 1 sc.nd (zbg h_m_law_pen hr (by decide) rfl (zaf (zac 0) (zah)) (zau zbc))) ?_
 refine zal (zhk PassesOwn.never rfl rfl z_range (zaf (zao) (zah)) (zaz 2 sc.nd) ?_) ?_
 ·refine zal (zav 3 sc.nd (zbg h_m_law_draw hr (by decide) rfl (zaf (zac 1) (zaf (zao) (zah))) (zau (zau zbc)))) ?_
  refine zal (zav 4 sc.nd (zbg h_m_law_draw hr (by decide) rfl (zaf (zac 1) (zaf (zao) (zah))) (zau (zau zbc)))) ?_
  refine zal (zav 5 sc.nd (zbg h_m_law_full hr (by decide) rfl (zaf (zac 1) (zaf (zao) (zah))) (zau (zau zbc)))) ?_
  refine zal (zav 6 sc.nd (zbg h_m_law_opened hr (by decide) rfl (zaf (zac 5) (zaf (zac 3) (zaf (zac 4) (zah)))) (zau (zau (zau zbc))))) ?_
  refine zal (zav 7 sc.nd (zjo hr rfl z_repr (zaf (zbb (zaf (zac 5) (zaf (zac 6) (zah)))) (zah)))) ?_
  refine zal (zav 8 sc.nd (zbg h_m_law_due hr (by decide) rfl (zaf (zac 5) (zah)) (zau zbc))) ?_
  refine zal (zhk PassesOwn.never rfl rfl z_range (zaf (zao) (zah)) (zaz 9 sc.nd) ?_) ?_
  ·refine zal (zd7 (zok (zoj (zpg (zbg h_m_is_full hr (by decide) rfl (zaf (zac 5) (zah)) (zau zbc)) (zev)) (zoj (zpg (zbg h_m_is_full hr (by decide) rfl (zaf (zac 6) (zah)) (zau zbc)) (zev)) (zyl (yan hr (zbg h_m_law_refused hr (by decide) rfl (zaf (zac 6) (zah)) (zau zbc)) (zcb (zaf (zct) (zah)))))))) (za0 (zb3 (zev))) (zeh)) ?_
   refine zal (zav 10 sc.nd (zbg h_m_blocks hr (by decide) rfl (zaf (zac 5) (zah)) (zau zbc))) ?_
   refine zal (zd7 (zow (zjo hr rfl z_repr (zaf (zac 10) (zah))) (zjo hr rfl z_repr (zaf (zac 8) (zah)))) (za0 (zb3 (zev))) (zeh)) ?_
   refine zal (zei (zy8 (zac 10))) ?_
   exact za0 (zei (zfl (zac 10) (zbb (zah))))
  exact za0 (zd7 (zow (zjo hr rfl z_repr (zaf (zbb (zaf (zac 5) (zaf (zac 6) (zah)))) (zah))) (zac 7)) (za0 (zb3 (zev))) (zeh))
 exact za0 (zb3 (zev))
end
theorem all_mk {l:PySem.W.OpenLaw}{w:World}{K:QFg}{h:Heap}{mg:Str->Option Value}{fa:Addr}(X:K.In h) (G:h.Ns mainGlobals mg) (hfa:mg "law" = some (.ref fa)) {g_NotFull g_NoLine g_NoName g_NoText g_NoBack g_NotOpen g_NoWords g_Clash g_Unreached g_Unlike g_NotClosed g_TooMany g_CellError:Addr}
  (a0:FI K "all_pairs" (top bd 18))
  (a1:FI K "pairs_ahead" (top bd 20))
  (a2:FI K "answers_unlike" (top bd 15))
  (a3:FI K "say_unlike" (top bd 16))
  (a4:FI K "pairs_at_once" (top bd 19))
  (a5:FI K "parted_pairs" (top bd 17))
  (a6:FI K "is_full" (top bd 22))
  (a7:FI K "blocks" (top bd 23))
  (a8:FI K "_law_words" (top bd 30))
  (a9:FI K "_law_refused" (top bd 32))
  (a10:FI K "_law_homes" (top bd 29))
  (a11:FI K "_law_due" (top bd 31))
  (a12:FI K "_law_opened" (top bd 28))
  (a13:FI K "_law_draw" (top bd 26))
  (a14:FI K "_law_full" (top bd 27))
  (a15:FI K "_law_pen" (top bd 25))
  (a16:FI K "law" (top bd 33))
  (z_range:PySem.W.nsIn K mainGlobals "range" = some none)
  (z_len:PySem.W.nsIn K mainGlobals "len" = some none)
  (z_max:PySem.W.nsIn K mainGlobals "max" = some none)
  (z_min:PySem.W.nsIn K mainGlobals "min" = some none)
  (z_any:PySem.W.nsIn K mainGlobals "any" = some none)
  (z_all:PySem.W.nsIn K mainGlobals "all" = some none)
  (z_list:PySem.W.nsIn K mainGlobals "list" = some none)
  (z_int:PySem.W.nsIn K mainGlobals "int" = some none)
  (z_isinstance:PySem.W.nsIn K mainGlobals "isinstance" = some none)
  (z_ValueError:PySem.W.nsIn K mainGlobals "ValueError" = some none)
  (z_tuple:PySem.W.nsIn K mainGlobals "tuple" = some none)
  (z_sorted:PySem.W.nsIn K mainGlobals "sorted" = some none)
  (z_set:PySem.W.nsIn K mainGlobals "set" = some none)
  (z_abs:PySem.W.nsIn K mainGlobals "abs" = some none)
  (z_repr:PySem.W.nsIn K mainGlobals "repr" = some none)
  (a_NotFull:PySem.W.nsIn K mainGlobals "NotFull" = some (some (.ref g_NotFull)))
  (a_NoLine:PySem.W.nsIn K mainGlobals "NoLine" = some (some (.ref g_NoLine)))
  (a_NoName:PySem.W.nsIn K mainGlobals "NoName" = some (some (.ref g_NoName)))
  (a_NoText:PySem.W.nsIn K mainGlobals "NoText" = some (some (.ref g_NoText)))
  (a_NoBack:PySem.W.nsIn K mainGlobals "NoBack" = some (some (.ref g_NoBack)))
  (a_NotOpen:PySem.W.nsIn K mainGlobals "NotOpen" = some (some (.ref g_NotOpen)))
  (a_NoWords:PySem.W.nsIn K mainGlobals "NoWords" = some (some (.ref g_NoWords)))
  (a_Clash:PySem.W.nsIn K mainGlobals "Clash" = some (some (.ref g_Clash)))
  (a_Unreached:PySem.W.nsIn K mainGlobals "Unreached" = some (some (.ref g_Unreached)))
  (a_Unlike:PySem.W.nsIn K mainGlobals "Unlike" = some (some (.ref g_Unlike)))
  (a_NotClosed:PySem.W.nsIn K mainGlobals "NotClosed" = some (some (.ref g_NotClosed)))
  (a_TooMany:PySem.W.nsIn K mainGlobals "TooMany" = some (some (.ref g_TooMany)))
  (a_CellError:PySem.W.nsIn K mainGlobals "CellError" = some (some (.ref g_CellError)))
  (x_NotFull:PySem.W.excIn K g_NotFull zc7 "ValueError.__new__" = true)
  (x_CellError:PySem.W.excIn K g_CellError zc7 "ValueError.__new__" = true)
  (s_NotFull_CellError:(Value.ref g_NotFull :: zeq K g_NotFull).contains (.ref g_CellError)=true)
  (o_NotFull:PySem.W.mroIn K g_NotFull (.type "object")=some true) (d_NotFull:PySem.W.findIn K (.ref g_NotFull) "__class__" = some (some (.builtin "object.__class__"))) (ga_NotFull:PySem.W.findIn K (.ref g_NotFull) "__getattribute__" = some (some (.builtin "BaseException.__getattribute__"))) (gr_NotFull:PySem.W.findIn K (.ref g_NotFull) "__getattr__" = some none) (is_NotFull:(PySem.W.clsIn K g_NotFull).isSome=true)
  (i_0:PySem.W.kitOne K (.ref g_NotFull) (.type "ValueError")=some true)
  (i_1:PySem.W.kitOne K (.ref g_NotFull) (.ref g_NoLine)=some false)
  (i_2:PySem.W.kitOne K (.ref g_NotFull) (.ref g_NoName)=some false)
  (i_3:PySem.W.kitOne K (.ref g_NotFull) (.ref g_NoText)=some false)
  (i_4:PySem.W.kitOne K (.ref g_NotFull) (.ref g_NoBack)=some false)
  (i_5:PySem.W.kitOne K (.ref g_NotFull) (.ref g_NotOpen)=some false)
  (i_6:PySem.W.kitOne K (.ref g_NotFull) (.ref g_NoWords)=some false)
  (i_7:PySem.W.kitOne K (.ref g_NotFull) (.ref g_Clash)=some false)
  (i_8:PySem.W.kitOne K (.ref g_NotFull) (.ref g_Unreached)=some false)
  (i_9:PySem.W.kitOne K (.ref g_NotFull) (.ref g_NotFull)=some true)
  (i_10:PySem.W.kitOne K (.ref g_NotFull) (.ref g_Unlike)=some false)
  (i_11:PySem.W.kitOne K (.ref g_NotFull) (.ref g_NotClosed)=some false)
  (i_12:PySem.W.kitOne K (.ref g_NotFull) (.ref g_TooMany)=some false) :
  ∃fd:FuncData,(∀(s:Shared) (v:Value),BindsTo s fd ⟨[v],[]⟩ [("_law_script",v)])/\∀base:Heap,K.In base->base.Ns mainGlobals mg->FnOk l.prog w K mg base CX0 7 fa fd ["_law_script"] (sp3 K 1 ze8):=by
 have y_range:=PySem.W.mg_none_of X G z_range
 have y_len:=PySem.W.mg_none_of X G z_len
 have y_max:=PySem.W.mg_none_of X G z_max
 have y_min:=PySem.W.mg_none_of X G z_min
 have y_any:=PySem.W.mg_none_of X G z_any
 have y_all:=PySem.W.mg_none_of X G z_all
 have y_list:=PySem.W.mg_none_of X G z_list
 have y_int:=PySem.W.mg_none_of X G z_int
 have y_isinstance:=PySem.W.mg_none_of X G z_isinstance
 have y_ValueError:=PySem.W.mg_none_of X G z_ValueError
 have y_tuple:=PySem.W.mg_none_of X G z_tuple
 have y_sorted:=PySem.W.mg_none_of X G z_sorted
 have y_set:=PySem.W.mg_none_of X G z_set
 have y_abs:=PySem.W.mg_none_of X G z_abs
 have y_repr:=PySem.W.mg_none_of X G z_repr
 obtain ⟨CA,ca_NotFull,ca_NoLine,ca_NoName,ca_NoText,ca_NoBack,ca_NotOpen,ca_NoWords,ca_Clash,ca_Unreached,ca_Unlike,ca_NotClosed,ca_TooMany,ca_CellError⟩:∃CA:Str->Addr,CA "NotFull" = g_NotFull/\CA "NoLine" = g_NoLine/\CA "NoName" = g_NoName/\CA "NoText" = g_NoText/\CA "NoBack" = g_NoBack/\CA "NotOpen" = g_NotOpen/\CA "NoWords" = g_NoWords/\CA "Clash" = g_Clash/\CA "Unreached" = g_Unreached/\CA "Unlike" = g_Unlike/\CA "NotClosed" = g_NotClosed/\CA "TooMany" = g_TooMany/\CA "CellError" = g_CellError:=⟨λy=>if y = "NotFull" then g_NotFull else if y = "NoLine" then g_NoLine else if y = "NoName" then g_NoName else if y = "NoText" then g_NoText else if y = "NoBack" then g_NoBack else if y = "NotOpen" then g_NotOpen else if y = "NoWords" then g_NoWords else if y = "Clash" then g_Clash else if y = "Unreached" then g_Unreached else if y = "Unlike" then g_Unlike else if y = "NotClosed" then g_NotClosed else if y = "TooMany" then g_TooMany else if y = "CellError" then g_CellError else 0,by dsimp only;rw [if_pos rfl],by dsimp only;rw [if_neg (by decide +kernel),if_pos rfl],by dsimp only;rw [if_neg (by decide +kernel),if_neg (by decide +kernel),if_pos rfl],by dsimp only;(repeat rw [if_neg (by decide +kernel)]);rw [if_pos rfl],by dsimp only;(repeat rw [if_neg (by decide +kernel)]);rw [if_pos rfl],by dsimp only;(repeat rw [if_neg (by decide +kernel)]);rw [if_pos rfl],by dsimp only;(repeat rw [if_neg (by decide +kernel)]);rw [if_pos rfl],by dsimp only;(repeat rw [if_neg (by decide +kernel)]);rw [if_pos rfl],by dsimp only;(repeat rw [if_neg (by decide +kernel)]);rw [if_pos rfl],by dsimp only;(repeat rw [if_neg (by decide +kernel)]);rw [if_pos rfl],by dsimp only;(repeat rw [if_neg (by decide +kernel)]);rw [if_pos rfl],by dsimp only;(repeat rw [if_neg (by decide +kernel)]);rw [if_pos rfl],by dsimp only;(repeat rw [if_neg (by decide +kernel)]);rw [if_pos rfl]⟩
 subst ca_NotFull
 subst ca_NoLine
 subst ca_NoName
 subst ca_NoText
 subst ca_NoBack
 subst ca_NotOpen
 subst ca_NoWords
 subst ca_Clash
 subst ca_Unreached
 subst ca_Unlike
 subst ca_NotClosed
 subst ca_TooMany
 subst ca_CellError
 have q_NotFull:=PySem.W.mg_of X G a_NotFull
 have q_NoLine:=PySem.W.mg_of X G a_NoLine
 have q_NoName:=PySem.W.mg_of X G a_NoName
 have q_NoText:=PySem.W.mg_of X G a_NoText
 have q_NoBack:=PySem.W.mg_of X G a_NoBack
 have q_NotOpen:=PySem.W.mg_of X G a_NotOpen
 have q_NoWords:=PySem.W.mg_of X G a_NoWords
 have q_Clash:=PySem.W.mg_of X G a_Clash
 have q_Unreached:=PySem.W.mg_of X G a_Unreached
 have q_Unlike:=PySem.W.mg_of X G a_Unlike
 have q_NotClosed:=PySem.W.mg_of X G a_NotClosed
 have q_TooMany:=PySem.W.mg_of X G a_TooMany
 have q_CellError:=PySem.W.mg_of X G a_CellError
 have n_NotFull:=a_NotFull
 have n_NoLine:=a_NoLine
 have n_NoName:=a_NoName
 have n_NoText:=a_NoText
 have n_NoBack:=a_NoBack
 have n_NotOpen:=a_NotOpen
 have n_NoWords:=a_NoWords
 have n_Clash:=a_Clash
 have n_Unreached:=a_Unreached
 have n_Unlike:=a_Unlike
 have n_NotClosed:=a_NotClosed
 have n_TooMany:=a_TooMany
 have n_CellError:=a_CellError
 have e_NotFull:ExcQ K (CA "NotFull"):=⟨x_NotFull,o_NotFull,d_NotFull,ga_NotFull,gr_NotFull,is_NotFull⟩
 have F0:=a0.ok X G
 have F1:=a1.ok X G
 have F2:=a2.ok X G
 have F3:=a3.ok X G
 have F4:=a4.ok X G
 have F5:=a5.ok X G
 have F6:=a6.ok X G
 have F7:=a7.ok X G
 have F8:=a8.ok X G
 have F9:=a9.ok X G
 have F10:=a10.ok X G
 have F11:=a11.ok X G
 have F12:=a12.ok X G
 have F13:=a13.ok X G
 have F14:=a14.ok X G
 have F15:=a15.ok X G
 have F16:=a16.ok X G
 obtain @⟨fL,fdL,FL,mL,_⟩:=F16
 have e:=hfa.symm.trans mL
 cases e
 refine ⟨fdL,λs v=>by obtain ⟨_,_,_,_,_,_,_,_,_,rfl,_⟩:=FL.ex;exact .of_eq rfl,λbase _ _=>?_⟩
 have t:∀{x k n m},Has l.prog w K mg base x k n m->Has l.prog w K mg base x k n m:=id
 have tz:∀{x k n m},ze3 l.prog w K mg base CA x k n m->ze3 l.prog w K mg base CA x k n m:=id
 have g0:=t (h_m_all_pairs F0 y_range y_len)
 have g1:=t (h_m_pairs_ahead F1 y_max y_min y_range g0)
 have g2:=t (h_m_answers_unlike F2 )
 have g3:=t (h_m_say_unlike F3 g2)
 have g4:=t (h_m_pairs_at_once F4 y_any y_range g0 g3)
 have g5:=t (h_m_parted_pairs F5 g1 g4)
 have g6:=t (h_m_is_full F6 y_all)
 have g7:=t (h_m_blocks F7 y_list y_range y_len g5 g6 q_NotFull x_NotFull)
 have gz7:=tz (hz_blocks F7 y_list y_range y_len g5 g6 q_NotFull x_NotFull)
 have g8:=t (h_m_law_words F8 y_int y_isinstance y_ValueError q_NoLine q_NoName q_NoText q_NoBack q_NotOpen q_NoWords q_Clash q_Unreached q_NotFull q_Unlike q_NotClosed q_TooMany n_NotFull e_NotFull i_0 i_1 i_2 i_3 i_4 i_5 i_6 i_7 i_8 i_9 i_10 i_11 i_12)
 have g9:=t (h_m_law_refused F9 g8 g7 gz7 q_CellError x_CellError x_NotFull n_NotFull s_NotFull_CellError)
 have g10:=t (h_m_law_homes F10 y_tuple)
 have g11:=t (h_m_law_due F11 y_tuple y_range y_len y_sorted y_set g10)
 have g12:=t (h_m_law_opened F12 y_len)
 have g13:=t (h_m_law_draw F13 y_len y_abs)
 have g14:=t (h_m_law_full F14 y_tuple y_len y_range g13)
 have g15:=t (h_m_law_pen F15 )
 exact ygy FL y_repr y_range g7 g6 g9 g11 g12 g14 g13 g15
theorem walk {l:PySem.W.OpenLaw}{q:Program}{loose:List Str}{XP:(Str->Option Value)->Heap->Prop}{YP:World->Heap->Prop}{d:DefRec}{K:Params->QFg}(hn:l.most=some 63) (hdf:d.params.defaults=[])
  (hY:∀(w:World) (h:Heap),YP w h->(K w.params).In h)
  (F:∀(w:World) (mg:Str->Option Value) (fa:Addr) (h:Heap),(K w.params).In h->h.Ns mainGlobals mg->mg d.name=some (.ref fa) ->
   ∃fd:FuncData,(∀(s:Shared) (u:Value),BindsTo s fd ⟨[u],[]⟩ [("_law_script",u)])/\∀base:Heap,(K w.params).In base->base.Ns mainGlobals mg->FnOk l.prog w (K w.params) mg base CX0 7 fa fd ["_law_script"] (sp3 (K w.params) 1 ze8))
  (hlaw:∀ns:List Int,ns.length<=63->∃S',ze8 [.ref 0] [.flst (ns.map D.int)]=some (.bl true,S')) :
  PySem.W.WalkO q loose XP YP l.row.toRowW d [] (λf vs=>PySem.call f vs) :=
 L2.walk_of (n:=63) (k:=7) (x:="_law_script") (CX:=λ_=>CX0) (sp:=λw=>sp3 (K w.params) 1 ze8) hn (by decide) hdf ⟨rfl,by decide,by decide,rfl⟩ hY F (λ_ _ a ns hl hO hS=>zzu hO hS (hlaw ns hl)) λ_ _ _ _ _ z=>z
end G
end
theorem qg0 {α:Type}{a:α}{l:List α}:(a :: l)[0]? = some a:=rfl
theorem qg1 {α:Type}{a:α}{i:Nat}{l:List α}:(a :: l)[i+1]? = l[i]?:=rfl
theorem qs0 {α:Type}{a b:α}{l:List α}:(a :: l).set 0 b=b :: l:=rfl
theorem qs1 {α:Type}{a b:α}{n:Nat}{l:List α}:(a :: l).set (n+1) b=a :: l.set n b:=rfl
theorem qlt {α:Type}{l:List α}{i:Nat}{a:α}(h:l[i]? = some a):i<l.length:=(List.getElem?_eq_some_iff.mp h).1
namespace M
open PySem L3 G
local macro_rules
 | `(term| nofun)=>`(by first|rfl|trivial)
local macro_rules
 | `(term| ‹$x›)=>`(some (.int ($x : Int)))
local macro_rules
 | `(term| ~~~$x)=>`(some (.ref $x))
local macro_rules
 | `(tactic| dsimp! only [$xs,*])=>`(tactic| simp only [$xs,*,List.map_cons,List.map_nil,List.length_cons,List.length_nil,Nat.reduceAdd,Nat.reduceSub,List.replicate,List.cons_append,List.nil_append])
theorem zg3 (h:S[n]? = some (.lst xs)):lstOf S n=some xs:=by unfold lstOf;rw [h]
def PQ (ns:List Int) (c:Nat) (S:Sto):Prop:=∃at' r:Int,S[1]? = some (.lst [.ref 0,.int at',.int r])/\lstOf S 0=some (ns.map D.int)/\0<=at'/\at'<=c/\0<=r
def Fn (S S':Sto):Prop:=∀(j:Nat) (o:Ob),j≠1->S[j]? = some o->S'[j]? = some o
theorem Fn.refl (S:Sto):Fn S S:=λ_ _ _ h=>h
theorem Fn.trans (h:Fn A B) (g:Fn B C):Fn A C:=λj o hj e=>g j o hj (h j o hj e)
theorem Fn.gr (h:Gr A B):Fn A B:=λ_ _ _ e=>h.get e
theorem Fn.set:Fn A (A.set 1 o):=λj o' hj e=>by rw [List.getElem?_set_ne (Ne.symm hj)];exact e
theorem Fn.lst (h:Fn A B) (hm:m≠1) (e:lstOf A m=some xs):lstOf B m=some xs:=by
 unfold lstOf at e ⊢
 cases q:A[m]? with
 | none=>rw [q] at e;cases e
 | some o=>rw [h m o hm q];rw [q] at e;exact e
theorem PQ.gr (h:PQ ns c A) (g:Gr A B):PQ ns c B:=let ⟨x,y,e,f,r⟩:=h;⟨x,y,g.get e,g.lst f,r⟩
theorem PQ.mono (h:PQ ns c A) (g:c<=d):PQ ns d A:=let ⟨x,y,e,f,r1,r2,r3⟩:=h;⟨x,y,e,f,r1,by lia,r3⟩
theorem set_1 (h:S[1]? = some (.lst [a,b,c])):zeg (.ref 1) (.int 1) v S=some (S.set 1 (.lst [a,v,c])):=by
 unfold zeg;simp only [h];rfl
theorem zsd (h:S[1]? = some (.lst [a,b,c])):zeg (.ref 1) (.int 2) v S=some (S.set 1 (.lst [a,b,v])):=by
 unfold zeg;simp only [h];rfl
theorem zmc {S:Sto}{n:Nat}{o o':Ob}(h:S[n]? = some o'):(S.set n o)[n]? = some o:=List.getElem?_set_self (qme h).1
theorem ygz (i:Int) (h0:0<=i) (h1:i<5):∃p,L2.atI [D.int 2147483647,.int 2147483629,.int 2147483587,.int 2147483579,.int 2147483563] i=some (.int p)/\0<p/\p<2147483648:=by
 have:i=0\/i=1\/i=2\/i=3\/i=4:=by lia
 rcases this with rfl|rfl|rfl|rfl|rfl <;> exact ⟨_,rfl,by decide,by decide⟩
theorem yg0 (h:lstOf S j=some xs) (hl:xs.length=k) (q:Wg (gs xs l S) Q):Wg (zht k gs (.ref j) l S) Q:=by
 have:zht k gs (.ref j) l S=gs xs l S:=by unfold zht;dsimp only;rw [h];show (if _ then _ else _)=_;rw [if_pos hl]
 rw [this];exact q
local macro_rules
 | `(tactic| simp! only [$xs,*])=>`(tactic| simp only [zcj,zjc,zk8,zc4,zbz,zo6,zam,zcw,zb4,zfn,zel,zfm,zay,zzx,zgf,zgg,zgh,za8,zdq,za3,za2,zzv,zo7,zzw,zo8,zo9,zk9,zzy,zjy,yfp,zri,zrf,zrg,zrh,yfq,zre,yfh,zpa,zpb,zjs,zet,zpc,zpd,yfi,zjt,zzz,zc5,zho,zhp,zla,zlb,yfj,zz0,zz1,List.map_cons,List.map_nil,List.length_cons,List.length_nil,Nat.reduceAdd,Nat.reduceSub,List.replicate,List.cons_append,List.nil_append,qg0,qg1,qs0,qs1,zaw,zcl,zfu,yfd,yfe,yff,yfb,yfc,zdk,decide_eq_true_eq,yfx,zl5,$xs,*])
theorem zdv {ns:List Int}{c:Nat}{m:Int}{S:Sto}(h:PQ ns c S) (hc:c<100000000) (h1:0<m) (h2:m<1073741824):Wo (zb0 [.ref 1,.int m] S) λv S'=>(∃d:Nat,v=.int d/\(d:Int)<m)/\PQ ns (c+1) S'/\Fn S S':=by
 obtain ⟨a,r,hS,hs,a0,a1,r0⟩:=h
 have sz5:5<=sizeLine:=by decide
 unfold zb0 zr3
 by_cases hr:0<r
 ·dsimp! only [zcj]
  refine zl8 (λ_ _=>False) (λv S'=>(∃d:Nat,v=.int d/\(d:Int)<m)/\PQ ns (c+1) S'/\Fn S S') ?_ (λ_ _ z=>z.elim) (λd _ _ o=>o)
  simp! only [zg3 hS,zsd hS,decide_eq_true_eq,hr,h1,h2,if_true,true_and,and_self]
  have d0:=Int.emod_nonneg r (show m≠0 by lia)
  have d1:=Int.emod_lt_of_pos r h1
  refine .inr ⟨_,rfl,⟨(r % m).toNat,by rw [Int.toNat_of_nonneg d0],by rw [Int.toNat_of_nonneg d0];exact d1⟩,⟨a,r / m,zmc hS,Fn.set.lst (by decide) hs,a0,by lia,Int.ediv_nonneg r0 (by lia)⟩,Fn.set⟩
 dsimp! only [zcj]
 refine zbv (l':=[~~~1,some (.int m),none,none,none,none,none,none]) (S':=S) (by simp! only [zg3 hS,decide_eq_true_eq,hr,if_false,and_self]) ?_
 refine zax (λl S'=>l=[~~~1,some (.int m),none,~~~0,some (.int a),none,none,none]/\Gr S S') ?_ ?_
 ·simp only [zb4,zri,zrf,zrg,zam,zcw,qg0,zaw,zrh,yfr (zg3 hS)]
  refine yg0 (xs:=[.ref 0,.int a]) zdk rfl ?_
  simp! only [zam]
  exact ⟨nofun,nofun,⟨_,rfl⟩⟩
 rintro l S1 ⟨rfl,g1⟩
 have hS1:=g1.get hS
 have hs1:=g1.lst hs
 have f01:Fn S S1:=Fn.gr g1
 clear g1 hS hs
 refine zbv (l':=[~~~1,some (.int m),none,~~~0,some (.int a),none,none,none]) (S':=S1.set 1 (.lst [.ref 0,.int (a+1),.int r])) (by simp! only [set_1 hS1,and_self]) ?_
 have hS2:(S1.set 1 (.lst [.ref 0,.int (a+1),.int r]))[1]? = some (.lst [.ref 0,.int (a+1),.int r]):=zmc hS1
 have hs2:lstOf (S1.set 1 (.lst [.ref 0,.int (a+1),.int r])) 0=some (ns.map D.int):=Fn.set.lst (by decide) hs1
 have f02:Fn S (S1.set 1 (.lst [.ref 0,.int (a+1),.int r])):=f01.trans Fn.set
 generalize S1.set 1 (.lst [.ref 0,.int (a+1),.int r])=S2 at hS2 hs2 f02
 have f1:(-(2 ^ 64):Int)<1201/\(1201:Int)<2 ^ 64:=by decide
 have f2:(-(2 ^ 64):Int)<40009/\(40009:Int)<2 ^ 64:=by decide
 have f5:(0:Int)<=18/\(18:Int)<=1000000/\Int.natAbs 10<2 ^ 64:=by decide
 have f7:(0:Int)<5:=by decide
 refine zbv (l':=[~~~1,some (.int m),none,~~~0,some (.int a),some (.int (1201*a+17)),none,none]) (S':=S2) (by simp! only [f1,true_or,and_self,true_and]) ?_
 refine zl8 (λl S'=>∃k:Int,l=[~~~1,some (.int m),none,~~~0,some (.int a),some (.int k),none,none]/\S' = S2) (λv S'=>(∃d:Nat,v=.int d/\(d:Int)<m)/\PQ ns (c+1) S'/\Fn S S') ?_ ?_ (λd _ _ o=>o)
 ·by_cases hl:0<(ns.length:Int)
  ·obtain ⟨x,e1,e2⟩:=yfg (ns.map D.int) (a % (ns.length:Int)) (Int.emod_nonneg _ (by lia)) (by rw [qlm];exact Int.emod_lt_of_pos _ hl)
   obtain ⟨k,_,rfl⟩:=List.mem_map.mp e2
   rw [zk8]
   simp only [zc4,zbz,za8,za3,za2,zam,zcw,qg0,qg1,zaw,zjt,hs2,zcl,qlm,zk9,zfu,hl,decide_true,if_true]
   refine zbv (l':=[~~~1,some (.int m),none,~~~0,some (.int a),some (.int k),none,none]) (S':=S2) (by simp! only [hs2,e1,hl,qlm,decide_true,true_and,and_self]) ?_
   by_cases hb1:a<(ns.length:Int)
   ·by_cases hb2:10 ^ Int.toNat 18<=(if k<0 then -k else k)
    ·simp! only [hs2,hb1,hb2,qlm,zsd hS2,h1,h2,f5,if_true,true_and,and_self,decide_true]
     have d0:=Int.emod_nonneg (if k<0 then -k else k) (show m≠0 by lia)
     have d1:=Int.emod_lt_of_pos (if k<0 then -k else k) h1
     refine .inr ⟨_,rfl,⟨((if k<0 then -k else k) % m).toNat,by rw [Int.toNat_of_nonneg d0],by rw [Int.toNat_of_nonneg d0];exact d1⟩,⟨a+1,(if k<0 then -k else k) / m,zmc hS2,Fn.set.lst (by decide) hs2,by lia,by lia,Int.ediv_nonneg (by split <;> lia) (by lia)⟩,f02.trans Fn.set⟩
    ·simp! only [hs2,hb1,hb2,qlm,f5,if_true,if_false,true_and,and_self,decide_true,decide_false,qbf]
     exact .inl ⟨k,rfl,nofun⟩
   ·simp! only [hs2,hb1,qlm,f5,if_true,if_false,true_and,and_self,decide_true,decide_false,qbf]
    exact .inl ⟨k,rfl,nofun⟩
  ·simp! only [hs2,hl,qlm,if_false,decide_false,qbf]
   exact .inl ⟨nofun,_,rfl,nofun⟩
 rintro l S4 ⟨k,rfl,rfl⟩
 obtain ⟨p1,hp1,p1a,p1b⟩:=ygz (a % 5) (by lia) (by lia)
 refine zax (λl S'=>l=[~~~1,some (.int m),none,~~~0,some (.int a),some (.int k),some (.int p1),none]/\Gr S4 S') ?_ ?_
 ·simp! only [hp1,f7,sz5,decide_true,true_and,and_self]
  exact ⟨_,rfl⟩
 rintro l S5 ⟨rfl,g5⟩
 have q1:0<=k % p1:=Int.emod_nonneg _ (by lia)
 have q2:k % p1<p1:=Int.emod_lt_of_pos _ p1a
 refine zax (λl S'=>∃n1:Int,0<=n1/\n1<p1/\l=[~~~1,some (.int m),none,~~~0,some (.int a),some (.int k),some (.int p1),some (.int n1)]/\S' = S5) ?_ ?_
 ·obtain ⟨n0,e0⟩:∃n0,k % p1+40009*a+17=n0:=⟨_,rfl⟩
  have q3:(0:Int)<=3/\(3:Int)<=1000000/\n0.natAbs<2 ^ 64:=⟨by decide,by decide,by lia⟩
  simp! only [f2,p1a,e0,q3,decide_true,true_or,true_and,and_true]
  exact ⟨_,Int.emod_nonneg _ (by lia),Int.emod_lt_of_pos _ p1a,rfl⟩
 rintro l S6 ⟨n1,n0,n2,rfl,rfl⟩
 refine zax (λl S'=>∃n1:Int,l=[~~~1,some (.int m),none,~~~0,some (.int a),some (.int k),some (.int p1),some (.int n1)]/\S' = S6) ?_ ?_
 ·have f3:(-(2 ^ 64):Int)<n1/\n1<2 ^ 64:=by lia
  have q6:n1*(a+31)<=2147483648*1000000061:=Int.mul_le_mul (by lia) (by lia) (by lia) (by lia)
  have q7:0<=n1*(a+31):=Int.mul_nonneg (by lia) (by lia)
  have q8:(0:Int)<=3/\(3:Int)<=1000000/\(n1*(a+31)+1201).natAbs<2 ^ 64:=⟨by decide,by decide,by lia⟩
  have f8:(0:Int)<2147483549:=by decide
  simp! only [f3,f8,q8,decide_true,true_or,true_and,and_true]
  exact ⟨_,rfl⟩
 rintro l S7 ⟨n3,rfl,rfl⟩
 have f6:(0:Int)<64/\(64:Int)<1073741824:=by decide
 simp! only [f6,h1,h2,decide_true,true_and,and_self]
 have d0:=Int.emod_nonneg (n3 / 64) (show m≠0 by lia)
 have d1:=Int.emod_lt_of_pos (n3 / 64) h1
 exact ⟨⟨(n3 / 64 % m).toNat,by rw [Int.toNat_of_nonneg d0],by rw [Int.toNat_of_nonneg d0];exact d1⟩,⟨a+1,r,g5.get hS2,g5.lst hs2,by lia,by lia,r0⟩,f02.trans (Fn.gr g5)⟩
theorem ze9 (R:Bool->Sto->Prop) (h:Wt t l S R) (h1:∀S1,R true S1->Ws m l S1 Q) (h2:∀S1,R false S1->Ws n l S1 Q):Ws (sIf t m n) l S Q:=by
 rw [zk8]
 obtain ⟨k,S1,e,r⟩:=h
 refine ⟨k,S1,e,?_⟩
 cases k with
 | true=>exact h1 S1 r
 | false=>exact h2 S1 r
theorem zbn:16000000<=sizeLine:=by decide
abbrev Cl:=Option Nat × Option Nat
noncomputable def oD:Option Nat->D
 | none=>.non
 | some n=>.int n
noncomputable def cD (c:Cl):D:=.tup [oD c.1,oD c.2]
noncomputable def rD (cs:List Cl):D:=.tup (cs.map cD)
noncomputable def mD (asks:Nat) (rs:List (List Cl)):D:=.tup [.int (asks:Int),.tup (rs.map rD)]
structure OkM (asks:Nat) (rs:List (List Cl)):Prop where
 a1:1<=asks
 a4:asks<=4
 r1:1<=rs.length
 r24:rs.length<=24
 len:∀cs∈rs,cs.length=asks
 go:∀cs∈rs,∀c∈cs,∀g,c.1=some g->g<rs.length
noncomputable def cell (rs:List (List Cl)) (r a:Nat):Cl:=((rs[r]?).bind λcs=>cs[a]?).getD (none,none)
noncomputable def both (x y:Option Nat):Option BF.P:=x.bind λi=>y.bind λj=>some (i,j)
noncomputable def unl (x y:Option Nat):Bool:=match x,y with
 | some i,some j=>decide (i≠j)
 | _,_=>false
noncomputable def nxt (rs:List (List Cl)) (p:BF.P) (a:Nat):Option BF.P:=both (cell rs p.1 a).1 (cell rs p.2 a).1
noncomputable def fl (rs:List (List Cl)) (p:BF.P) (a:Nat):Bool:=unl (cell rs p.1 a).2 (cell rs p.2 a).2
section
variable {asks:Nat}{rs:List (List Cl)}{r a:Nat}
theorem zij (h:OkM asks rs) (hr:r<rs.length) (ha:a<asks):∃cs,rs[r]? = some cs/\cs[a]? = some (cell rs r a)/\cs∈rs/\cell rs r a∈cs:=by
 have h1:rs[r]? = some rs[r]:=qge hr
 have h2:rs[r]∈rs:=qem hr
 have h3:a<rs[r].length:=by rw [h.len _ h2];exact ha
 have h4:rs[r][a]? = some rs[r][a]:=qge h3
 have h5:cell rs r a=rs[r][a]:=by unfold cell;rw [h1];show (rs[r][a]?).getD _=_;rw [h4];rfl
 exact ⟨_,h1,by rw [h5];exact h4,h2,by rw [h5];exact qem h3⟩
theorem zdw (h:OkM asks rs) (hr:r<rs.length) (ha:a<asks) (hg:(cell rs r a).1=some g):g<rs.length:=by
 obtain ⟨cs,_,_,h1,h2⟩:=zij h hr ha
 exact h.go cs h1 _ h2 g hg
theorem yg1 (h:OkM asks rs) (hp:p.1<rs.length/\p.2<rs.length) (ha:a<asks) (e:nxt rs p a=some q):q.1<rs.length/\q.2<rs.length:=by
 unfold nxt both at e
 obtain ⟨i,h1,e⟩:=bnd e
 obtain ⟨j,h2,e⟩:=bnd e
 cases e
 exact ⟨zdw h hp.1 ha h1,zdw h hp.2 ha h2⟩
theorem yg2 {cs:List Cl}{c:Cl}(h:cs[a]? = some c):L2.atI (cs.map cD) (a:Int)=some (cD c):=atI_get (by rw [qgm,h];rfl)
theorem zse (h:OkM asks rs) (hr:r<rs.length) (ha:a<asks):Wo (zap (.tup (rs.map rD)) (.int (r:Int)) S) (λx S1=>Wo (zap x (.int (a:Int)) S1) Q)=Q (cD (cell rs r a)) S:=by
 obtain ⟨cs,h1,h2,_⟩:=zij h hr ha
 have e1:L2.atI (rs.map rD) (r:Int)=some (rD cs):=atI_get (by rw [qgm,h1];rfl)
 have e2:=yg2 h2
 rw [zjs,e1]
 simp only [zcl]
 unfold rD
 rw [zjs,e2]
 simp only [zcl]
end
theorem zmd (o:Option Nat):zd6 (oD o)=o.isNone:=by cases o <;> rfl
theorem yg3 {asks:Nat}{rs:List (List Cl)}:L2.atI [D.int (asks:Int),.tup (rs.map rD)] 1=some (.tup (rs.map rD)):=rfl
theorem yg4 (x y:Option Nat) (S:Sto):zg0 [oD x,oD y] S=some (.bl (unl x y),S):=by
 have:Wo (zg0 [oD x,oD y] S) λv S'=>v=.bl (unl x y)/\S' = S:=by
  unfold zg0 zrs
  dsimp! only [zcj]
  cases x with
  | none =>
   simp! only [zmd,Option.isNone_none,Bool.not_true,qbf,if_false]
   exact ⟨nofun,nofun⟩
  | some i =>
   cases y with
   | none =>
    simp! only [zmd,Option.isNone_none,Option.isNone_some,Bool.not_true,Bool.not_false,qbf,if_false,if_true]
    exact ⟨nofun,nofun⟩
   | some j =>
    simp! only [zmd,Option.isNone_some,Bool.not_false,if_true,oD]
    refine ⟨?_,nofun⟩
    unfold unl
    by_cases e:i=j
    ·subst e;simp
    ·simp [e];lia
 obtain ⟨v,S',e,rfl,rfl⟩:=this
 exact e
theorem yg5 (c d:Cl) (S:Sto):zfv [cD c,cD d] S=some (.bl (unl c.2 d.2),S):=by
 have:Wo (zfv [cD c,cD d] S) λv S'=>v=.bl (unl c.2 d.2)/\S' = S:=by
  unfold zfv zrt
  dsimp! only [zcj]
  simp! only [cD]
  refine ⟨_,_,yg4 _ _ _,?_⟩
  exact ⟨nofun,nofun⟩
 obtain ⟨v,S',e,rfl,rfl⟩:=this
 exact e
noncomputable def pD (p:BF.P):D:=.tup [.int (p.1:Int),.int (p.2:Int)]
noncomputable def qD:Option BF.P->D
 | none=>.non
 | some p=>pD p
theorem zsf (h:OkM asks rs) (hr:r<rs.length) (ha:a<asks):∃cs:List Cl,L2.atI (rs.map rD) (r:Int)=some (.tup (cs.map cD))/\L2.atI (cs.map cD) (a:Int)=some (.tup [oD (cell rs r a).1,oD (cell rs r a).2]):=by
 obtain ⟨cs,h1,h2,_⟩:=zij h hr ha
 exact ⟨cs,atI_get (by rw [qgm,h1];rfl),atI_get (by rw [qgm,h2];rfl)⟩
theorem zsg:Wo (dIn neg .non (.tup [oD x,oD y]) S) Q=Q (.bl (if neg then (both x y).isSome else !(both x y).isSome)) S:=by
 have:dIn neg .non (.tup [oD x,oD y]) S=some (.bl (if neg then (both x y).isSome else !(both x y).isSome),S):=by
  cases x <;> cases y <;> cases neg <;> rfl
 rw [this];exact zbq
theorem yg6 (h:both x y=some p):D.tup [oD x,oD y]=pD p:=by
 unfold both at h
 obtain ⟨i,h1,h⟩:=bnd h
 obtain ⟨j,h2,h⟩:=bnd h
 cases h;subst h1 h2;rfl
abbrev Tb:=List (List L2.Key × D)
noncomputable def pK (p:BF.P):List L2.Key:=[Sum.inl (p.1:Int),Sum.inl (p.2:Int)]
theorem zj1 (h:pK p=pK q):p=q:=by
 unfold pK at h
 simp at h
 exact Prod.ext (by lia) (by lia)
theorem zfx (p:BF.P):zc9 (pD p)=some (pK p):=rfl
theorem zme (kvs:Tb) (k j:List L2.Key) (v:D):za6 (zce kvs k v) j=if j=k then some v else za6 kvs j:=by
 unfold zce
 by_cases e:(kvs.any λkv=>decide (kv.1=k))=true
 ·rw [if_pos e]
  by_cases hj:j=k
  ·subst hj
   rw [if_pos rfl]
   obtain ⟨kv,h1,h2⟩:=List.any_eq_true.mp e
   clear e
   induction kvs with
   | nil=>cases h1
   | cons x kvs ih =>
    obtain ⟨xk,xv⟩:=x
    by_cases hx:xk=j
    ·subst hx;simp [za6]
    ·rcases List.mem_cons.mp h1 with rfl|h1
     ·exact absurd (of_decide_eq_true h2) hx
     ·have:=ih h1
      simp only [za6,List.map_cons,if_neg hx,List.find?_cons,decide_eq_false hx] at this ⊢
      exact this
  ·rw [if_neg hj]
   clear e
   induction kvs with
   | nil=>rfl
   | cons x kvs ih =>
    obtain ⟨xk,xv⟩:=x
    by_cases hx:xk=k
    ·subst hx
     have hx':¬xk=j:=λz=>hj z.symm
     simp only [za6,List.map_cons,if_true,List.find?_cons,decide_eq_false hx'] at ih ⊢
     exact ih
    ·by_cases hxj:xk=j
     ·subst hxj
      simp [za6,hx]
     ·simp only [za6,List.map_cons,if_neg hx,List.find?_cons,decide_eq_false hxj] at ih ⊢
      exact ih
 ·rw [if_neg e]
  have none:za6 kvs k=none:=by
   unfold za6
   rw [Option.map_eq_none_iff,List.find?_eq_none]
   intro x hx hk
   exact e (List.any_eq_true.mpr ⟨x,hx,hk⟩)
  by_cases hj:j=k
  ·subst hj
   rw [if_pos rfl]
   unfold za6 at none ⊢
   rw [List.find?_append,Option.map_eq_none_iff.mp none]
   simp
  ·rw [if_neg hj]
   unfold za6
   rw [List.find?_append]
   cases kvs.find? (λkv=>decide (kv.1=j)) with
   | some x=>rfl
   | none =>
    have hk:¬k=j:=λz=>hj z.symm
    simp [hk]
abbrev Di (asks:Nat) (rs:List (List Cl)) (p:BF.P) (n:Nat):Prop:=BF.Ds asks (nxt rs) (fl rs) p n
theorem zmf (F:D->D):(zas 0 n).map F=(List.range n).map λ(a:Nat)=>F (.int (a:Int)):=by
 unfold zas
 rw [List.map_map]
 apply List.map_congr_left
 intro a _
 show F (.int (0+(a:Int)))=_
 rw [Int.zero_add]
theorem zmg (h:x∈zas 0 n):∃a:Nat,a<n/\x=.int (a:Int):=by
 unfold zas at h
 obtain ⟨a,ha,rfl⟩:=List.mem_map.mp h
 exact ⟨a,List.mem_range.mp ha,by rw [Int.zero_add]⟩
noncomputable def flF (rs:List (List Cl)) (p:BF.P):D->D
 | .int a=>.bl (fl rs p a.toNat)
 | _=>.non
noncomputable def f1 (asks:Nat) (rs:List (List Cl)) (p:BF.P):Bool:=(List.range asks).any λa=>fl rs p a
theorem f1_iff:f1 asks rs p=true↔Di asks rs p 1:=by
 unfold f1 Di
 rw [List.any_eq_true,BF.Ds.one]
 constructor
 ·rintro ⟨a,h1,h2⟩;exact ⟨a,List.mem_range.mp h1,h2⟩
 ·rintro ⟨a,h1,h2⟩;exact ⟨a,List.mem_range.mpr h1,h2⟩
def Pt (asks:Nat) (rs:List (List Cl)) (p:BF.P):Prop:=∃w,BF.Fails asks (nxt rs) (fl rs) p w
theorem pt_iff:Pt asks rs p↔∃n,Di asks rs p n:=by
 constructor
 ·rintro ⟨w,h⟩
  obtain ⟨m,_,d⟩:=BF.Ds.of ⟨w,h,rfl⟩
  exact ⟨m,d⟩
 ·rintro ⟨n,⟨w,h,_⟩,_⟩
  exact ⟨w,h⟩
noncomputable def swp (p:BF.P):BF.P:=(p.2,p.1)
theorem yg7 (x y:Option Nat):unl x y=unl y x:=by
 cases x <;> cases y <;> simp [unl]
 rename_i a b
 by_cases e:a=b
 ·subst e;simp
 ·have:¬b=a:=λz=>e z.symm
  simp [e,this]
theorem yg8 (rs:List (List Cl)) (p:BF.P) (a:Nat):fl rs (swp p) a=fl rs p a:=yg7 _ _
theorem yg9 (rs:List (List Cl)) (p:BF.P) (a:Nat):nxt rs (swp p) a=(nxt rs p a).map swp:=by
 unfold nxt both swp
 cases (cell rs p.1 a).1 <;> cases (cell rs p.2 a).1 <;> rfl
theorem zmh:∀{w:List Nat}{p:BF.P},BF.Fails asks (nxt rs) (fl rs) p w->BF.Fails asks (nxt rs) (fl rs) (swp p) w
 | [],p,h=>absurd h BF.fails_ne
 | a :: w,p,h=>by
  rcases BF.fails_inv h with ⟨e,ha,hf⟩|⟨q,ha,hs,hq⟩
  ·subst e
   exact ⟨[],a,swp p,rfl,ha,(λb hb=>by cases hb),rfl,by rw [yg8];exact hf⟩
  ·exact BF.fails_cons ha (by rw [yg9,hs];rfl) (zmh hq)
theorem zsh:∀{w:List Nat}{i:Nat},¬BF.Fails asks (nxt rs) (fl rs) (i,i) w
 | [],i,h=>BF.fails_ne h
 | a :: w,i,h=>by
  rcases BF.fails_inv h with ⟨e,ha,hf⟩|⟨q,ha,hs,hq⟩
  ·have:fl rs (i,i) a=false:=by
    unfold fl unl
    cases (cell rs (i,i).1 a).2 <;> simp
   rw [this] at hf;cases hf
  ·unfold nxt both at hs
   cases e:(cell rs i a).1 with
   | none=>simp only [e] at hs;cases hs
   | some g=>simp only [e] at hs;cases hs;exact zsh hq
noncomputable def srt (p:BF.P):BF.P:=if p.2<p.1 then (p.2,p.1) else p
def InP (rs:List (List Cl)) (p:BF.P):Prop:=p.1<p.2/\p.2<rs.length
theorem InP.both (h:InP rs p):p.1<rs.length/\p.2<rs.length:=⟨Nat.lt_trans h.1 h.2,h.2⟩
theorem yha (h:BF.Fails asks (nxt rs) (fl rs) p w):BF.Fails asks (nxt rs) (fl rs) (srt p) w:=by
 unfold srt;split
 ·exact zmh h
 ·exact h
theorem yhb (h:BF.Fails asks (nxt rs) (fl rs) (srt p) w):BF.Fails asks (nxt rs) (fl rs) p w:=by
 unfold srt at h;split at h
 ·exact zmh h
 ·exact h
theorem yhc (h:BF.Fails asks (nxt rs) (fl rs) p w) (hp:p.1<rs.length/\p.2<rs.length):InP rs (srt p):=by
 have hne:p.1≠p.2:=λe=>by
  have:p=(p.1,p.1):=Prod.ext rfl e.symm
  rw [this] at h
  exact zsh h
 unfold srt InP;split
 ·exact ⟨by assumption,hp.1⟩
 ·exact ⟨by lia,hp.2⟩
theorem zsi (ok:OkM asks rs) (F:BF.P->Prop) (h1:∀p,InP rs p->f1 asks rs p=true->F p) (h2:∀p q a,InP rs p->a<asks->nxt rs p a=some q->F (srt q)->F p) :
  ∀(w:List Nat) (p:BF.P),InP rs p->BF.Fails asks (nxt rs) (fl rs) p w->F p
 | [],p,_,h=>absurd h BF.fails_ne
 | a :: w,p,hp,h=>by
  rcases BF.fails_inv h with ⟨e,ha,hf⟩|⟨q,ha,hs,hq⟩
  ·exact h1 p hp (f1_iff.mpr (BF.Ds.one.mpr ⟨a,ha,hf⟩))
  ·have hin:=yg1 ok hp.both ha hs
   exact h2 p q a hp ha hs (zsi ok F h1 h2 w (srt q) (yhc hq hin) (yha hq))
theorem yhd (h:f1 asks rs p=true):Pt asks rs p:=pt_iff.mpr ⟨1,f1_iff.mp h⟩
theorem yhe (ha:a<asks) (hs:nxt rs p a=some q) (h:Pt asks rs (srt q)):Pt asks rs p:=by
 obtain ⟨w,h⟩:=h
 exact ⟨a :: w,BF.fails_cons ha hs (yhb h)⟩
theorem zmi (F:D->D) (L:Lo->Prop) (S:Sto) (step:∀x l,x∈xs->L l->Wg (g x l S) λl1 S2=>S2=S/\L l1/\We e l1 S λv S3=>v=F x/\S3=S) :
  ∀(n i:Nat) (l:Lo),n+i=xs.length->L l->∃l',zb6 xs g zar e (n+1) i l S=some ((xs.drop i).map F,l',S)/\L l'
 | 0,i,l,hn,h=>by
  refine ⟨l,?_,h⟩
  unfold zb6
  rw [List.getElem?_eq_none_iff.mpr (by lia),List.drop_of_length_le (by lia)];rfl
 | n+1,i,l,hn,h=>by
  have hi:i<xs.length:=by lia
  obtain ⟨l1,S2,e1,rfl,h1,v,S3,e2,rfl,rfl⟩:=step xs[i] l (qem hi) h
  obtain ⟨l',e3,h3⟩:=zmi F L S3 step n (i+1) l1 (by lia) h1
  refine ⟨l',?_,h3⟩
  unfold zb6
  rw [qge hi]
  show (g xs[i] l S3).bind _=_
  rw [e1]
  show (e l1 S3).bind _=_
  rw [e2]
  show (zb6 xs g zar e (n+1) (i+1) l1 S3).bind _=_
  rw [e3,List.drop_eq_getElem_cons hi];rfl
noncomputable def apR (N i:Nat):List BF.P:=(List.range (N-(i+1))).map λk=>(i,i+1+k)
noncomputable def apL (N:Nat):List BF.P:=(List.range N).flatMap (apR N)
theorem mem_ap:p∈apL N↔p.1<p.2/\p.2<N:=by
 unfold apL apR
 rw [List.mem_flatMap]
 constructor
 ·rintro ⟨i,hi,h⟩
  obtain ⟨k,hk,rfl⟩:=List.mem_map.mp h
  have:=List.mem_range.mp hi
  have:=List.mem_range.mp hk
  exact ⟨by show i<i+1+k;lia,by show i+1+k<N;lia⟩
 ·rintro ⟨h1,h2⟩
  exact ⟨p.1,List.mem_range.mpr (by lia),List.mem_map.mpr ⟨p.2-(p.1+1),List.mem_range.mpr (by lia),Prod.ext rfl (by show p.1+1+(p.2-(p.1+1))=p.2;lia)⟩⟩
theorem zj2 (N:Nat):(apL N).length<=N*N:=by
 unfold apL
 rw [List.length_flatMap]
 have:∀l:List Nat,(l.map λi=>(apR N i).length).sum<=l.length*N:=by
  intro l
  induction l with
  | nil=>simp
  | cons i l ih =>
   rw [List.map_cons,List.sum_cons,List.length_cons,Nat.succ_mul]
   have:(apR N i).length<=N:=by unfold apR;simp
   lia
 have:=this (List.range N)
 rwa [List.length_range] at this
noncomputable def yhf (i:Nat):D->D
 | .int k=>.tup [.int (i:Int),.int k]
 | _=>.non
theorem yhg (h:as l S=some ([.int a,.int b],S1)) (ha:0<=a/\a<1000) (hb:0<=b/\b<1000):zgb as l S=some ((a,(b-a).toNat),S1):=by
 unfold zgb;rw [h];show (if _ then _ else _)=_;rw [if_pos (by lia)]
theorem yhh {N i:Nat}(hi:i<N) (hN:N<=24) (x0 x1:Option D):∃l',zb6 (zas ((i:Int)+1) (((N:Int)-((i:Int)+1)).toNat)) (zag 1) zar (zae zat (zab (zaa 0) (zab (zaa 1) (zad)))) (((N:Int)-((i:Int)+1)).toNat+1) 0 [‹i›,x1,‹N›] S=some ((apR N i).map pD,l',S)/\∃x1,l' = [‹i›,x1,‹N›]:=by
 have sz:=zbn
 have hn:((N:Int)-((i:Int)+1)).toNat=N-(i+1):=by lia
 rw [hn]
 have hl:(zas ((i:Int)+1) (N-(i+1))).length=N-(i+1):=zdh ..
 obtain ⟨l',e,h⟩:=zmi (xs:=zas ((i:Int)+1) (N-(i+1))) (g:=zag 1) (e:=zae zat (zab (zaa 0) (zab (zaa 1) (zad)))) (yhf i) (λl=>∃x1,l=[‹i›,x1,‹N›]) S (by
  rintro x l hx ⟨x1,rfl⟩
  obtain ⟨j,hj⟩:=List.mem_iff_getElem?.mp hx
  obtain ⟨hj2,rfl⟩:=zlc hj
  simp only [zay,qs0,qs1]
  refine ⟨by first|rfl|trivial,⟨_,rfl⟩,?_⟩
  simp only [za8,za3,za2,zam,qg0,qg1,zaw,zc5,List.length_cons,List.length_nil]
  exact ⟨by lia,by first|rfl|trivial,by first|rfl|trivial⟩) (N-(i+1)) 0 [‹i›,x1,‹N›] (by rw [hl];rfl) ⟨_,rfl⟩
 refine ⟨l',?_,h⟩
 rw [e,List.drop_zero]
 congr 2
 unfold zas apR
 rw [List.map_map,List.map_map]
 refine List.map_congr_left λk _=>?_
 show D.tup [.int (i:Int),.int ((i:Int)+1+(k:Int))]=pD (i,i+1+k)
 unfold pD
 congr 4
theorem step2 {it:ItM}{g:GM}{r:RM}{g2:GM}{e:EM}{n i:Nat}{l l1 l2:Lo}{S S1 S2 S3 S4:Sto}{x:D}{lo:Int}{m:Nat}{us zs:List D}(h1:it i S=some (some x)) (h2:g x l S=some (l1,S1)) (h3:r l1 S1=some ((lo,m),S2)) (h4:zb6 (zas lo m) g2 zar e (m+1) 0 l1 S2=some (us,l2,S3)) (h5:zda it g zar r g2 zar e n (i+1) l2 S3=some (zs,S4)):zda it g zar r g2 zar e (n+1) i l S=some (us++zs,S4):=by
 rw [zda,h1]
 show (g x l S).bind _=_
 rw [h2]
 show (r l1 S1).bind _=_
 rw [h3]
 show (zb6 (zas lo m) g2 zar e (m+1) 0 l1 S2).bind _=_
 rw [h4]
 show (zda it g zar r g2 zar e n (i+1) l2 S3).bind _=_
 rw [h5];rfl
theorem zsj {N:Nat}(hN:N<=24):∀(n i:Nat) (l:Lo),n+i=N->(∃x0 x1,l=[x0,x1,‹N›]) ->
  zda (itX (zas 0 N)) (zag 0) zar (zgb (zab (eOp zbm (zaa 0) (eC (.int 1))) (zab (zaa 2) (zad)))) (zag 1) zar (zae zat (zab (zaa 0) (zab (zaa 1) (zad)))) (n+1) i l S=some ((((List.range N).drop i).flatMap (apR N)).map pD,S)
 | 0,i,l,hn,h=>by
  unfold zda
  have:(zas 0 N)[i]? = none:=List.getElem?_eq_none_iff.mpr (by rw [zdh];lia)
  show (some ((zas 0 N)[i]?)).bind _=_
  rw [this,List.drop_of_length_le (by rw [List.length_range];lia)];rfl
 | n+1,i,l,hn,h=>by
  obtain ⟨x0,x1,rfl⟩:=h
  have hi:i<N:=by lia
  have e0:(zas 0 N)[i]? = some (.int (i:Int)):=by
   unfold zas;rw [qgm,List.getElem?_range hi];show some (D.int (0+(i:Int)))=_;rw [Int.zero_add]
  obtain ⟨l',e1,y1,rfl⟩:=yhh (S:=S) hi hN x0 x1
  have ih:=zsj hN (S:=S) n (i+1) [‹i›,y1,‹N›] (by lia) ⟨_,_,rfl⟩
  have er:zgb (zab (eOp zbm (zaa 0) (eC (.int 1))) (zab (zaa 2) (zad))) [‹i›,x1,‹N›] S=some (((i:Int)+1,((N:Int)-((i:Int)+1)).toNat),S):=yhg (S1:=S) (a:=(i:Int)+1) (b:=(N:Int)) rfl (by lia) (by lia)
  have hd:(List.range N).drop i=i :: (List.range N).drop (i+1):=by
   rw [List.drop_eq_getElem_cons (by rw [List.length_range];exact hi)];simp
  rw [hd,List.flatMap_cons,List.map_append]
  exact step2 (x:=.int (i:Int)) (by show some ((zas 0 N)[i]?)=_;rw [e0]) rfl er e1 ih
theorem zsk (h:OkM asks rs):zdt [mD asks rs] S=some (.ref S.length,S++[.lst ((apL rs.length).map pD)]):=by
 have sz:=zbn
 have r24:=h.r24
 suffices Wo (zdt [mD asks rs] S) λv S'=>v=.ref S.length/\S' = S++[.lst ((apL rs.length).map pD)] by
  obtain ⟨v,S',e,rfl,rfl⟩:=this
  exact e
 unfold zdt zrq
 dsimp! only [zcj]
 refine zbv (l':=[some (mD asks rs),some (.int (rs.length:Int))]) (S':=S) ?_ ?_
 ·unfold mD
  simp! only [qlm,and_self]
 rw [zfn]
 refine ⟨_,_,?_,rfl,rfl⟩
 have him:zco (zbj (zab (zaa 1) (zad))) [some (mD asks rs),some (.int (rs.length:Int))] S=some (itX (zas 0 rs.length),(zas 0 rs.length).length+1,S):=zgx rfl (by lia)
 unfold zjn
 rw [him,zdh]
 show (zda _ _ _ _ _ _ _ (rs.length+1) 0 [none,none,some (.int (rs.length:Int))] S).bind _=_
 rw [zsj r24 rs.length 0 [none,none,some (.int (rs.length:Int))] rfl ⟨_,_,rfl⟩,List.drop_zero]
 show (if ((apL rs.length).map pD).length<=sizeLine then _ else _)=_
 have:=zj2 rs.length
 have h2:rs.length*rs.length<=24*24:=Nat.mul_le_mul r24 r24
 rw [if_pos (by rw [qlm];lia)]
 rfl
noncomputable def onF (asks:Nat) (rs:List (List Cl)):D->Option D
 | .tup [.int a,.int b]=>if f1 asks rs (a.toNat,b.toNat)=true then some (.tup [.int a,.int b]) else none
 | _=>none
theorem zj3 (p:BF.P):onF asks rs (pD p)=if f1 asks rs p=true then some (pD p) else none:=rfl
theorem yhi (ps:List BF.P):(ps.map pD).filterMap (onF asks rs)=(ps.filter (f1 asks rs)).map pD:=by
 induction ps with
 | nil=>rfl
 | cons p ps ih =>
  rw [List.map_cons]
  by_cases c:f1 asks rs p=true
  ·rw [List.filterMap_cons_some (by rw [zj3,if_pos c]),List.filter_cons_of_pos c,List.map_cons,ih]
  ·rw [List.filterMap_cons_none (by rw [zj3,if_neg c]),List.filter_cons_of_neg c,ih]
theorem yhj (h:OkM asks rs) (hp:p.1<rs.length/\p.2<rs.length) (q:∀S2,Gr S S2->QB (f1 asks rs p) S2) :
  Wt (tE (zae zgk (zab (zbd (zco (zbj (zab (zaa 2) (zad)))) [none,some 3,some 0,some 1] (zag 0) (zar) (zae zfv (zab (eOp zap (eOp zap (zaa 1) (zaa 2)) (zaa 0)) (zab (eOp zap (eOp zap (zaa 1) (zaa 3)) (zaa 0)) (zad))))) (zad)))) [some (.int (p.1:Int)),some (.int (p.2:Int)),‹asks›,some (.tup (rs.map rD))] S QB:=by
 have sz:=zbn
 have ha4:=h.a4
 simp only [zc4,za8,za3,za2]
 refine yfm (zas 0 asks) (flF rs p) (λT=>Gr S T) (λl=>∃x0,l=[x0,some (.tup (rs.map rD)),some (.int (p.1:Int)),some (.int (p.2:Int))]) (zgx (n:=asks) rfl (by lia)) (Gr.refl S) ⟨none,rfl⟩ (λi T _=>rfl) (by rw [zdh];lia) ?_ ?_
 ·rintro x l T hx ⟨x0,rfl⟩ hT
  obtain ⟨a,ha,rfl⟩:=zmg hx
  simp only [zay,qs0]
  refine ⟨hT,⟨_,rfl⟩,?_⟩
  simp only [za8,za3,za2,zbz,zam,qg0,qg1,zaw]
  rw [zse h hp.1 ha,zse h hp.2 ha]
  exact ⟨_,_,yg5 _ _ _,rfl,hT⟩
 ·intro T hT
  rw [yfl]
  refine ⟨_,zdk,?_,?_⟩
  ·rw [zmf,List.all_map,List.all_eq_true]
   intro a _;rfl
  ·refine ⟨f1 asks rs p,?_,q _ (hT.push _)⟩
   rw [zmf,List.any_map]
   rfl
theorem zj4 (h:l[i]? = some (some x)) (hf:f [x] S=some r):zae f (zab (zaa i) (zad)) l S=some r:=by
 unfold zae zab zaa;rw [h];exact hf
theorem yhk (h:OkM asks rs):Wo (zid [mD asks rs] S) λv S'=>∃m,v=.ref m/\S'[m]? = some (.lst (((apL rs.length).filter (f1 asks rs)).map pD))/\Gr S S'/\S.length<=m:=by
 have sz:=zbn
 have r24:=h.r24
 unfold zid zru
 dsimp! only [zcj]
 refine zbv (l':=[some (mD asks rs),‹asks›,some (.tup (rs.map rD))]) (S':=S) ?_ ?_
 ·unfold mD
  simp! only [and_self]
 rw [zfn]
 have him:zcd (zae zdt (zab (zaa 0) (zad))) [some (mD asks rs),‹asks›,some (.tup (rs.map rD))] S=some (itL S.length,((apL rs.length).map pD).length+1,S++[.lst ((apL rs.length).map pD)]):=zjw (zj4 rfl (zsk h)) zdk
 have hlen:=zj2 rs.length
 have h2:rs.length*rs.length<=24*24:=Nat.mul_le_mul r24 r24
 refine zh9 ((apL rs.length).map pD) (onF asks rs) (λT=>Gr (S++[.lst ((apL rs.length).map pD)]) T) (λl=>∃x0 x1,l=[x0,x1,‹asks›,some (.tup (rs.map rD))]) him (Gr.refl _) ⟨none,none,rfl⟩ (λi T g=>zjx (g.lst zdk)) (by rw [qlm];lia) ?_ ?_
 ·rintro x l T hx ⟨x0,x1,rfl⟩ hT
  obtain ⟨p,hp,rfl⟩:=List.mem_map.mp hx
  have hp':=mem_ap.mp hp
  unfold pD
  simp only [zgf,zgh,zgg,zay,List.length_cons,List.length_nil,qs0,qs1]
  refine ⟨by first|rfl|trivial,⟨_,_,rfl⟩,?_⟩
  refine yhj h ⟨by lia,hp'.2⟩ λS2 g2=>⟨hT.trans g2,λhb=>?_,λhb=>?_⟩
  ·rw [show D.tup [.int (p.1:Int),.int (p.2:Int)]=pD p from rfl,zj3,hb];rfl
  ·simp only [za8,za3,za2,zam,qg0,qg1,zaw,zc5,List.length_cons,List.length_nil]
   refine ⟨by lia,?_,hT.trans g2⟩
   rw [show D.tup [.int (p.1:Int),.int (p.2:Int)]=pD p from rfl,zj3,hb];rfl
 ·intro T hT
  rw [yhi]
  have:=hT.len
  exact ⟨_,rfl,za4,Gr.trans (B:=S++[.lst ((apL rs.length).map pD)]) ⟨_,rfl⟩ (hT.trans ⟨_,rfl⟩),by simp at this;lia⟩
theorem yhl:Wo (zh2 [.tup [.int i,.int j]] S) Q=Q (.int (if j<i then j else i)) S:=zbq
theorem yhm:Wo (zh3 [.tup [.int i,.int j]] S) Q=Q (.int (if j > i then j else i)) S:=zbq
theorem yhn (q:BF.P):D.tup [.int (if (q.2:Int)<(q.1:Int) then (q.2:Int) else (q.1:Int)),.int (if (q.2:Int) > (q.1:Int) then (q.2:Int) else (q.1:Int))]=pD (srt q):=by
 unfold srt
 by_cases c:q.2<q.1
 ·rw [if_pos (by lia),if_neg (by lia),if_pos c];rfl
 ·rw [if_neg (by lia),if_neg c]
  by_cases c2:q.2 > q.1
  ·rw [if_pos (by lia)];rfl
  ·rw [if_neg (by lia)]
   have:q.1=q.2:=by lia
   unfold pD;rw [<-this]
theorem yho (h1:o l S=some (.ref n,S1)) (hd:isDc S1 (.ref n)=some ()) (h2:e l S1=some (y,S2)) (h3:f l S2=some (z,S3)) (hn:S3[n]? = some (.tdct kvs)) (hk:zc9 y=some k) (hz:kvs.length<sizeLine) (hg:za6 kvs k=some v) (q:Q v S3):We (zfs o e f) l S Q:=by
 refine ⟨_,_,?_,q⟩
 unfold zfs
 rw [h1]
 show (isDc S1 (.ref n)).bind _=_
 rw [hd]
 show (e l S1).bind _=_
 rw [h2]
 show (f l S2).bind _=_
 rw [h3]
 dsimp only [Option.bind_some]
 rw [hn]
 dsimp only
 rw [hk]
 show (if _ then _ else _)=_
 rw [if_pos hz,hg]
theorem yhp (h1:o l S=some (.ref n,S1)) (hd:isDc S1 (.ref n)=some ()) (h2:e l S1=some (y,S2)) (h3:f l S2=some (z,S3)) (hn:S3[n]? = some (.tdct kvs)) (hk:zc9 y=some k) (hz:kvs.length<sizeLine) (hg:za6 kvs k=none) (q:Q z (S3.set n (.tdct (zce kvs k z)))):We (zfs o e f) l S Q:=by
 refine ⟨_,_,?_,q⟩
 unfold zfs
 rw [h1]
 show (isDc S1 (.ref n)).bind _=_
 rw [hd]
 show (e l S1).bind _=_
 rw [h2]
 show (f l S2).bind _=_
 rw [h3]
 dsimp only [Option.bind_some]
 rw [hn]
 dsimp only
 rw [hk]
 show (if _ then _ else _)=_
 rw [if_pos hz,hg]
structure Sr (Q:BF.P->BF.P->Prop) (nd np b c:Nat) (kvs:Tb) (S:Sto):Prop where
 no:∀k,za6 kvs (pK k)=none->∀p,¬Q p k
 yes:∀k v,za6 kvs (pK k)=some v->∃(m:Nat) (ps:List BF.P),v=.ref m/\S[m]? = some (.lst (ps.map pD))/\(∀p,p∈ps↔Q p k)/\ps.length<=c/\m≠nd/\m≠np/\b<=m
 inj:∀k k' m,za6 kvs (pK k)=some (.ref m)->za6 kvs (pK k')=some (.ref m)->k=k'
theorem Sr.congr (h:Sr Q nd np b c kvs S) (e:∀p k,Q p k↔Q' p k):Sr Q' nd np b c kvs S :=
 ⟨λk hk p hq=>h.no k hk p ((e p k).mpr hq),λk v hk=>by
  obtain ⟨m,ps,h1,h2,h3,h4⟩:=h.yes k v hk
  exact ⟨m,ps,h1,h2,λp=>(h3 p).trans (e p k),h4⟩,h.inj⟩
theorem Sr.mono (h:Sr Q nd np b c kvs S) (e:c<=d):Sr Q nd np b d kvs S :=
 ⟨h.no,λk v hk=>by
  obtain ⟨m,ps,h1,h2,h3,h4,h5⟩:=h.yes k v hk
  exact ⟨m,ps,h1,h2,h3,by lia,h5⟩,h.inj⟩
theorem yhq (h:Sr Q nd np b c kvs S) (h3:l[3]? = some (some (.ref nd))) (h8:l[8]? = some (some (pD k))) (h4:l[4]? = some (some (.int (p.1:Int)))) (h5:l[5]? = some (some (.int (p.2:Int)))) (hnd:S[nd]? = some (.tdct kvs)) (hkl:kvs.length<100000) (hc:c<100000) (g:Gr S0 S) (hb:b=S0.length) (hbd:b<=nd) (hnp:np<S.length) (hnn:nd≠np)
  (q:∀v kvs' S',S'[nd]? = some (.tdct kvs')->kvs'.length<=kvs.length+1->(∀o,S[np]? = some o->S'[np]? = some o)->Gr S0 S'->Sr (λp' k'=>Q p' k'\/(p' = p/\k' = k)) nd np b (c+1) kvs' S'->QS v S') :
  We (zbi zb7 (zfs (zaa 3) (zaa 8) (zae zbf (zad))) (zab (zae zat (zab (zaa 4) (zab (zaa 5) (zad)))) zad)) l S QS:=by
 have sz:=zbn
 have v3:zaa 3 l S=some (.ref nd,S):=by unfold zaa;rw [h3]
 have v8:zaa 8 l S=some (pD k,S):=by unfold zaa;rw [h8]
 have vl:zae zbf zad l S=some (.ref S.length,S++[.lst []]):=rfl
 have hdl:nd<S.length:=(qme hnd).1
 have hnd2:(S++[.lst []])[nd]? = some (.tdct kvs):=zbe hnd
 have tup:∀(T:Sto) (R:List D->Sto->Prop),R [pD p] T->Wa (zab (zae zat (zab (zaa 4) (zab (zaa 5) (zad)))) zad) l T R:=λT R hR=>by
  simp only [za3,za2,za8,zam,h4,h5,zaw,zc5,List.length_cons,List.length_nil]
  exact ⟨by lia,hR⟩
 rw [zdq]
 cases hg:za6 kvs (pK k) with
 | some v =>
  obtain ⟨m,ps,rfl,hm,hps,hpl,m1,m2,m3⟩:=h.yes k v hg
  have hml:m<S.length:=(qme hm).1
  have hm2:(S++[.lst []])[m]? = some (.lst (ps.map pD)):=zbe hm
  refine yho v3 (zl7 hnd) v8 vl hnd2 (zfx k) (by lia) hg ⟨⟨_,zds hm2⟩,tup _ _ ?_⟩
  rw [ze7 hm2 (by rw [qlm];lia)]
  refine q _ kvs _ (zbw hnd2 m1) (by lia) (λo ho=>zbw (zbe ho) m2) ((g.trans ⟨_,rfl⟩).set (by lia) _) ⟨λk' hk' p'=>?_,λk' v hk'=>?_,h.inj⟩
  ·rintro (z|⟨_,z⟩)
   ·exact h.no k' hk' p' z
   ·rw [z,hg] at hk';cases hk'
  ·by_cases e:k' = k
   ·subst e
    rw [hg] at hk';cases hk'
    refine ⟨m,ps++[p],rfl,by rw [zc0 hm2];simp,λp'=>?_,by simp;lia,m1,m2,m3⟩
    rw [List.mem_append,hps]
    simp
   ·obtain ⟨m',ps',e1,e2,e3,e4,e5⟩:=h.yes k' v hk'
    subst e1
    have:m≠m':=λz=>e (h.inj k' k m' hk' (by rw [hg,z]))
    refine ⟨m',ps',rfl,zbw (zbe e2) this,λp'=>?_,by lia,e5⟩
    rw [e3]
    exact ⟨.inl,λz=>z.elim id λz=>absurd z.2 e⟩
 | none =>
  have hpl:=zqe kvs (pK k) (.ref S.length)
  have hnS:S.length≠nd:=by lia
  have hS:((S++[Ob.lst []]).set nd (.tdct (zce kvs (pK k) (.ref S.length))))[S.length]? = some (.lst []):=zbw za4 (Ne.symm hnS)
  refine yhp v3 (zl7 hnd) v8 vl hnd2 (zfx k) (by lia) hg ⟨⟨_,zds hS⟩,tup _ _ ?_⟩
  rw [ze7 hS (by simp;lia)]
  have gl:=g.len
  refine q _ (zce kvs (pK k) (.ref S.length)) _ (zbw (zc0 hnd2) hnS) hpl (λo ho=>zbw (zbw (zbe ho) hnn) (by lia)) (((g.trans ⟨_,rfl⟩).set (by lia) _).set (by lia) _) ⟨λk' hk' p'=>?_,λk' v hk'=>?_,λk1 k2 m e1 e2=>?_⟩
  ·rw [zme] at hk'
   by_cases e:pK k' = pK k
   ·rw [if_pos e] at hk';cases hk'
   ·rw [if_neg e] at hk'
    rintro (z|⟨_,z⟩)
    ·exact h.no k' hk' p' z
    ·exact e (by rw [z])
  ·rw [zme] at hk'
   by_cases e:pK k' = pK k
   ·rw [if_pos e] at hk';cases hk'
    have ek:=zj1 e
    subst ek
    refine ⟨S.length,[p],rfl,by rw [zc0 hS];rfl,λp'=>?_,by simp,hnS,by lia,by lia⟩
    have:=h.no k' hg p'
    simp [this]
   ·rw [if_neg e] at hk'
    obtain ⟨m',ps',e1,e2,e3,e4,e5,e6,e7⟩:=h.yes k' v hk'
    have hml:m' < S.length:=(qme e2).1
    refine ⟨m',ps',e1,zbw (zbw (zbe e2) (Ne.symm e5)) (by lia),λp'=>?_,by lia,e5,e6,e7⟩
    rw [e3]
    exact ⟨.inl,λz=>z.elim id λz=>absurd (by rw [z.2]) e⟩
  ·have fresh:∀k',za6 kvs (pK k')≠some (.ref S.length):=λk' z=>by
    obtain ⟨m',ps',e1,e2,_⟩:=h.yes k' _ z
    cases e1
    have:=(qme e2).1
    lia
   rw [zme] at e1 e2
   by_cases c1:pK k1=pK k
   ·by_cases c2:pK k2=pK k
    ·rw [zj1 c1,zj1 c2]
    ·rw [if_pos c1] at e1;cases e1
     rw [if_neg c2] at e2
     exact absurd e2 (fresh k2)
   ·rw [if_neg c1] at e1
    by_cases c2:pK k2=pK k
    ·rw [if_pos c2] at e2;cases e2
     exact absurd e1 (fresh k1)
    ·rw [if_neg c2] at e2
     exact h.inj k1 k2 m e1 e2
def Ld (rs:List (List Cl)) (j:Nat) (p k:BF.P):Prop:=∃a q,a<j/\nxt rs p a=some q/\srt q=k
theorem Ld.succ_some (h:nxt rs p j=some q):Ld rs (j+1) p k↔(Ld rs j p k\/srt q=k):=by
 constructor
 ·rintro ⟨a,q',h1,h2,h3⟩
  by_cases e:a=j
  ·subst e;rw [h] at h2;cases h2;exact .inr h3
  ·exact .inl ⟨a,q',by lia,h2,h3⟩
 ·rintro (⟨a,q',h1,h2,h3⟩|h3)
  ·exact ⟨a,q',by lia,h2,h3⟩
  ·exact ⟨j,q,by lia,h,h3⟩
theorem Ld.succ_none (h:nxt rs p j=none):Ld rs (j+1) p k↔Ld rs j p k:=by
 constructor
 ·rintro ⟨a,q',h1,h2,h3⟩
  by_cases e:a=j
  ·subst e;rw [h] at h2;cases h2
  ·exact ⟨a,q',by lia,h2,h3⟩
 ·rintro ⟨a,q',h1,h2,h3⟩
  exact ⟨a,q',by lia,h2,h3⟩
theorem yhr (h:OkM asks rs):Wo (zic [mD asks rs] S) λv S'=>∃nd np c kvs,v=.ref nd/\S'[nd]? = some (.tdct kvs)/\Gr S S'/\S.length<=nd/\Sr (λp k=>InP rs p/\Ld rs asks p k) nd np S.length c kvs S':=by
 have sz:=zbn
 have r24:=h.r24
 have a4:=h.a4
 have hlen:=zj2 rs.length
 have h2:rs.length*rs.length<=24*24:=Nat.mul_le_mul r24 r24
 unfold zic zrr
 dsimp! only [zcj]
 refine zbv (l':=[some (mD asks rs),‹asks›,some (.tup (rs.map rD)),none,none,none,none,none,none]) (S':=S) ?_ ?_
 ·unfold mD
  simp! only [and_self]
 refine zbv (l':=[some (mD asks rs),‹asks›,some (.tup (rs.map rD)),some (.ref S.length),none,none,none,none,none]) (S':=S++[.tdct []]) (by simp! only [and_self]) ?_
 obtain ⟨nd,hnd⟩:∃nd,nd=S.length:=⟨_,rfl⟩
 obtain ⟨np,hnp⟩:∃np,np=S.length+1:=⟨_,rfl⟩
 have hcall:zae zdt (zab (zaa 0) (zad)) [some (mD asks rs),‹asks›,some (.tup (rs.map rD)),some (.ref S.length),none,none,none,none,none] (S++[.tdct []])=some (.ref np,S++[.tdct []]++[.lst ((apL rs.length).map pD)]):=by
  have:=zj4 (f:=zdt) (i:=0) (l:=[some (mD asks rs),‹asks›,some (.tup (rs.map rD)),some (.ref S.length),none,none,none,none,none]) rfl (zsk (S:=S++[.tdct []]) h)
  rw [this];simp [hnp]
 have e0:(S++[.tdct []]++[.lst ((apL rs.length).map pD)])[nd]? = some (.tdct []):=by rw [hnd];exact zbe za4
 have e1:(S++[.tdct []]++[.lst ((apL rs.length).map pD)])[np]? = some (.lst ((apL rs.length).map pD)):=by
  have:(S++[Ob.tdct []]).length=np:=by simp [hnp]
  rw [<-this];exact za4
 rw [<-hnd] at hcall ⊢
 refine zax (λl S'=>∃x4 x5 x6 x7 x8 kvs c,l=[some (mD asks rs),‹asks›,some (.tup (rs.map rD)),~~~nd,x4,x5,x6,x7,x8]/\S'[nd]? = some (.tdct kvs)/\Gr S S'/\Sr (λp k=>InP rs p/\Ld rs asks p k) nd np S.length c kvs S') ?_ ?_
 ·refine zib (n:=np) ((apL rs.length).map pD) (λi l S'=>∃x4 x5 x6 x7 x8 kvs,l=[some (mD asks rs),‹asks›,some (.tup (rs.map rD)),~~~nd,x4,x5,x6,x7,x8]/\S'[nd]? = some (.tdct kvs)/\S'[np]? = some (.lst ((apL rs.length).map pD))/\Gr S S'/\kvs.length<=4*i/\Sr (λp k=>p∈(apL rs.length).take i/\Ld rs asks p k) nd np S.length (4*i) kvs S') (λ_ _=>False) hcall
   ⟨_,_,_,_,_,[],rfl,e0,e1,⟨[.tdct [],.lst ((apL rs.length).map pD)],by simp⟩,Nat.zero_le _,⟨λk _ p hq=>(by simp at hq),λk v hk=>(by cases hk),λk k' m hk=>(by cases hk)⟩⟩ (λi l S' ⟨_,_,_,_,_,_,_,_,hp,_⟩=>zca hp) ?_ ?_ (λd l' S' z=>z.elim)
  ·rintro i x l S3 hx ⟨x4,x5,x6,x7,x8,kvs,rfl,hd3,hp3,g3,hk3,sr⟩
   rw [qgm] at hx
   obtain ⟨p,hp,rfl⟩:=Option.map_eq_some_iff.mp hx
   have hpm:=mem_ap.mp (qmg hp)
   have hpi:p.1<rs.length/\p.2<rs.length:=⟨by lia,hpm.2⟩
   have hi:i<(apL rs.length).length:=(qme hp).1
   unfold pD
   simp only [zgf,zgh,zgg,zay,List.length_cons,List.length_nil,qs0,qs1]
   refine ⟨by first|rfl|trivial,?_⟩
   refine zia (λj l S'=>∃x6 x7 x8 kvs,l=[some (mD asks rs),‹asks›,some (.tup (rs.map rD)),~~~nd,some (.int (p.1:Int)),some (.int (p.2:Int)),x6,x7,x8]/\S'[nd]? = some (.tdct kvs)/\S'[np]? = some (.lst ((apL rs.length).map pD))/\Gr S S'/\kvs.length<=4*i+j/\Sr (λp' k=>(p'∈(apL rs.length).take i/\Ld rs asks p' k)\/(p' = p/\Ld rs j p' k)) nd np S.length (4*i+j) kvs S') (λ_ _=>False) (n:=asks) rfl (by lia)
    ⟨_,_,_,kvs,rfl,hd3,hp3,g3,by lia,sr.congr λp' k=>⟨.inl,λz=>z.elim id λz=>(by obtain ⟨_,a,q,h1,_⟩:=z;lia)⟩⟩ ?_ ?_ (λd l' S' z=>z.elim)
   ·rintro j l S4 hj ⟨x6,x7,x8,kvs,rfl,hd4,hp4,g4,hk4,sr⟩
    simp only [zay,qs0,qs1]
    obtain ⟨cs1,c1,c2⟩:=zsf h hpi.1 hj
    obtain ⟨cs2,c3,c4⟩:=zsf h hpi.2 hj
    refine zbv (l':=[some (mD asks rs),‹asks›,some (.tup (rs.map rD)),~~~nd,some (.int (p.1:Int)),some (.int (p.2:Int)),‹j›,some (.tup [oD (cell rs p.1 j).1,oD (cell rs p.2 j).1]),x8]) (S':=S4) ?_ ?_
    ·simp! only [c1,c2,c3,c4]
     exact ⟨by lia,nofun,nofun⟩
    refine ze9 (λb S'=>b=(both (cell rs p.1 j).1 (cell rs p.2 j).1).isSome/\S' = S4) ?_ ?_ ?_
    ·simp only [zc4,zbz,zcw,zam,qg0,qg1,zaw,zsg,if_true,zfu]
     exact ⟨nofun,nofun⟩
    ·rintro S' ⟨hb,rfl⟩
     obtain ⟨q,hq⟩:=Option.isSome_iff_exists.mp hb.symm
     have hn:nxt rs p j=some q:=hq
     rw [yg6 hq]
     refine zbv (l':=[some (mD asks rs),‹asks›,some (.tup (rs.map rD)),~~~nd,some (.int (p.1:Int)),some (.int (p.2:Int)),‹j›,some (pD q),some (pD (srt q))]) (S':=S') ?_ ?_
     ·simp only [zb4,za8,za3,za2,zam,qg0,qg1,zaw]
      unfold pD
      simp only [yhl,yhm,zc5,List.length_cons,List.length_nil,zay,qs0,qs1]
      refine ⟨by lia,nofun,?_,nofun⟩
      rw [yhn];rfl
     rw [zel]
     refine yhq (p:=p) (k:=srt q) (S0:=S) sr rfl rfl rfl rfl hd4 (by lia) (by lia) g4 rfl (by lia) (qme hp4).1 (by lia) λv kvs' S7 h7 hk7 hp7 g7 sr7=>?_
     refine .inl ⟨(by first|exact .inl rfl|exact .inl trivial|trivial),_,_,_,kvs',rfl,h7,hp7 _ hp4,g7,by lia,(sr7.congr λp' k=>?_).mono (by lia)⟩
     constructor
     ·rintro ((z|⟨z1,z2⟩)|⟨z1,z2⟩)
      ·exact .inl z
      ·exact .inr ⟨z1,by rw [z1] at z2 ⊢;exact (Ld.succ_some hn).mpr (.inl z2)⟩
      ·exact .inr ⟨z1,by rw [z1];exact (Ld.succ_some hn).mpr (.inr z2.symm)⟩
     ·rintro (z|⟨z1,z2⟩)
      ·exact .inl (.inl z)
      ·rw [z1] at z2
       rcases (Ld.succ_some hn).mp z2 with z|z
       ·exact .inl (.inr ⟨z1,by rw [z1];exact z⟩)
       ·exact .inr ⟨z1,z.symm⟩
    ·rintro S' ⟨hb,rfl⟩
     have hn:nxt rs p j=none:=by
      cases e:both (cell rs p.1 j).1 (cell rs p.2 j).1 with
      | none=>exact e
      | some q=>rw [e] at hb;cases hb
     rw [zfm]
     refine .inl ⟨.inl rfl,_,_,_,kvs,rfl,hd4,hp4,g4,by lia,(sr.congr λp' k=>?_).mono (by lia)⟩
     constructor
     ·rintro (z|⟨z1,z2⟩)
      ·exact .inl z
      ·exact .inr ⟨z1,by rw [z1] at z2 ⊢;exact (Ld.succ_none hn).mpr z2⟩
     ·rintro (z|⟨z1,z2⟩)
      ·exact .inl z
      ·exact .inr ⟨z1,by rw [z1] at z2 ⊢;exact (Ld.succ_none hn).mp z2⟩
   ·rintro l' S' ⟨x6,x7,x8,kvs,rfl,hd4,hp4,g4,hk4,sr⟩
    refine .inl ⟨.inl rfl,_,_,_,_,_,kvs,rfl,hd4,hp4,g4,by lia,(sr.congr λp' k=>?_).mono (by lia)⟩
    rw [List.take_add_one,hp,List.mem_append]
    constructor
    ·rintro (⟨z1,z2⟩|⟨z1,z2⟩)
     ·exact ⟨.inl z1,z2⟩
     ·exact ⟨.inr (by simp [z1]),z2⟩
    ·rintro ⟨z1|z1,z2⟩
     ·exact .inl ⟨z1,z2⟩
     ·exact .inr ⟨by simpa using z1,z2⟩
  ·rintro l' S' ⟨x4,x5,x6,x7,x8,kvs,rfl,hd4,hp4,g4,hk4,sr⟩
   refine ⟨rfl,_,_,_,_,_,kvs,_,rfl,hd4,g4,sr.congr λp k=>?_⟩
   rw [qlm,List.take_length]
   exact ⟨λz=>⟨mem_ap.mp z.1,z.2⟩,λz=>⟨mem_ap.mpr z.1,z.2⟩⟩
 rintro l S3 ⟨x4,x5,x6,x7,x8,kvs,c,rfl,hd3,g3,sr⟩
 simp! only [zam]
 subst hnd
 exact ⟨_,_,c,kvs,rfl,hd3,g3,qlr _,sr⟩
noncomputable def fT (F:List BF.P):Tb:=F.map λp=>(pK p,D.bl true)
theorem zsl (F:List BF.P) (p:BF.P):((fT F).any λkv=>decide (kv.1=pK p))=decide (p∈F):=by
 rw [Bool.eq_iff_iff,List.any_eq_true,decide_eq_true_eq]
 constructor
 ·rintro ⟨kv,h1,h2⟩
  obtain ⟨q,hq,rfl⟩:=List.mem_map.mp h1
  rw [<-zj1 (of_decide_eq_true h2)];exact hq
 ·exact λh=>⟨_,List.mem_map.mpr ⟨p,h,rfl⟩,decide_eq_true rfl⟩
theorem zmj (F:List BF.P) (p:BF.P):(za6 (fT F) (pK p)).isSome=decide (p∈F):=by
 rw [<-zsl]
 unfold za6
 rw [Option.isSome_map,Bool.eq_iff_iff,List.find?_isSome,List.any_eq_true]
theorem zsm (h:p ∉ F):zce (fT F) (pK p) (.bl true)=fT (F++[p]):=by
 unfold zce
 rw [zsl,if_neg (by simpa using h)]
 unfold fT;rw [List.map_append];rfl
theorem yhs (F:List BF.P):(fT F).length=F.length:=qlm _
noncomputable def prT (p:BF.P):D:=.tup [pD p,.bl true]
theorem zsn:∀(W F:List BF.P),(F++W).Nodup->zgt (W.map prT) (fT F)=some (fT (F++W))
 | [],F,_=>by rw [List.append_nil];rfl
 | p :: W,F,nd=>by
  have hn:p ∉ F:=λh=>by
   have:=(List.nodup_append.mp nd).2.2 p h p (List.mem_cons_self ..)
   exact this rfl
  show (zc9 (pD p)).bind _=_
  rw [zfx]
  show zgt (W.map prT) (zce (fT F) (pK p) (.bl true))=_
  rw [zsm hn,zsn W (F++[p]) (by simpa using nd)]
  simp
theorem yht (h:l[1]? = some (some (.ref n))) (hn:S[n]? = some (.lst (W.map pD))) (nd:W.Nodup) (hl:W.length<=1000) (q:Q (.ref S.length) (S++[.tdct (fT W)])) :
  We (zh1 (zcd (zaa 1)) [none] (zag 0) (zar) (zaa 0) (eC (.bl true))) l S Q:=by
 have sz:=zbn
 have hv:zaa 1 l S=some (.ref n,S):=by unfold zaa;rw [h]
 have hls:=zca hn
 obtain ⟨ys,S',e,q1,q2⟩:∃ys S',zci (itL n) (zag 0) zar (zfq (zaa 0) (eC (.bl true))) ((W.map pD).length+1) 0 [none] S=some (ys,S')/\ys=W.map prT/\S' = S:=by
  obtain ⟨ys,S',l',e,h1,h2,_⟩:=zju (it:=itL n) (g:=zag 0) (t:=zar) (e:=zfq (zaa 0) (eC (.bl true))) (W.map pD) (λi acc l S'=>acc=(W.map prT).take i/\S' = S/\∃x,l=[x]) (λi acc l S' hx3_=>by obtain ⟨_,h,_⟩:=hx3_;subst h;exact zjx hls) (by
   rintro i x acc l S' hx ⟨rfl,rfl,u,rfl⟩
   rw [qgm] at hx
   obtain ⟨p,hp,rfl⟩:=Option.map_eq_some_iff.mp hx
   simp only [zay,qs0]
   rw [zhn,if_pos rfl]
   refine ⟨prT p,S',rfl,?_,rfl,_,rfl⟩
   rw [List.take_add_one,qgm,hp];rfl) (W.map pD).length 0 [] [none] S rfl ⟨rfl,rfl,_,rfl⟩
  rw [List.nil_append] at h1
  have:(W.map prT).take (W.map pD).length=W.map prT:=List.take_of_length_le (by simp)
  rw [this] at h1
  exact ⟨ys,S',e,h1,h2⟩
 subst q1 q2
 refine ⟨_,_,?_,q⟩
 unfold zh1
 rw [zjw hv hls]
 show (zci (itL n) _ zar (zfq (zaa 0) (eC (.bl true))) ((W.map pD).length+1) 0 [none] S').bind _=_
 rw [e]
 show (if (W.map prT).length<=sizeLine then _ else _)=_
 have hf:=zsn W [] (by simpa using nd)
 rw [List.nil_append] at hf
 rw [if_pos (by rw [qlm];lia),show ([]:Tb)=fT [] from rfl,hf]
 rfl
theorem zmk (h:l[i]? = some (some (.ref n))) (hn:S[n]? = some (.lst xs)) (q:QB (!xs.isEmpty) S):Wt (tL (zaa i)) l S QB:=by
 refine ⟨_,_,?_,q⟩
 unfold tL zaa
 rw [h]
 show (lstOf S n).bind _=_
 rw [zca hn];rfl
theorem yhu (hn:S[n]? = some (.lst (xs++[x]))) (q:Q x (S.set n (.lst xs))):Wo (zfk (.ref n) [] S) Q:=by
 refine ⟨_,_,?_,q⟩
 unfold zfk
 dsimp only
 rw [hn]
 simp
theorem zso (N:Nat):(apL N).Nodup:=by
 unfold apL
 have:∀(l:List Nat),l.Nodup->(l.flatMap (apR N)).Nodup:=by
  intro l
  induction l with
  | nil=>intro _;exact List.nodup_nil
  | cons i l ih =>
   intro nd
   have nd':=List.nodup_cons.mp nd
   rw [List.flatMap_cons,List.nodup_append]
   refine ⟨?_,ih nd'.2,?_⟩
   ·unfold apR
    refine List.Pairwise.map _ ?_ (List.nodup_range (n:=N-(i+1)))
    intro a b hab e
    exact hab (by have:=congrArg Prod.snd e;simp at this;lia)
   ·intro a ha b hb e
    subst e
    obtain ⟨j,hj,h2⟩:=List.mem_flatMap.mp hb
    have e1:a.1=i:=by obtain ⟨k,_,rfl⟩:=List.mem_map.mp ha;rfl
    have e2:a.1=j:=by obtain ⟨k,_,rfl⟩:=List.mem_map.mp h2;rfl
    exact nd'.1 (by rw [<-e1,e2];exact hj)
 exact this _ List.nodup_range
structure Pd (asks:Nat) (rs:List (List Cl)) (E:BF.P->Prop) (W F:List BF.P):Prop where
 nd:F.Nodup
 pt:∀p∈F,InP rs p/\Pt asks rs p
 once:∀p,InP rs p->f1 asks rs p=true->p∈F
 w:∀p∈W,p∈F
 cl:∀k∈F,k ∉ W->E k\/∀p,InP rs p->Ld rs asks p k->p∈F
theorem Pd.add (h:Pd asks rs E W F) (hn:p ∉ F) (h1:InP rs p) (h2:Pt asks rs p):Pd asks rs E (W++[p]) (F++[p]):=by
 refine ⟨?_,?_,λq a b=>List.mem_append_left _ (h.once q a b),?_,?_⟩
 ·rw [List.nodup_append]
  refine ⟨h.nd,by simp,λa ha b hb e=>?_⟩
  rw [List.mem_singleton] at hb
  subst hb;subst e;exact hn ha
 ·intro q hq
  rcases List.mem_append.mp hq with z|z
  ·exact h.pt q z
  ·rw [List.mem_singleton.mp z];exact ⟨h1,h2⟩
 ·intro q hq
  rcases List.mem_append.mp hq with z|z
  ·exact List.mem_append_left _ (h.w q z)
  ·exact List.mem_append_right _ z
 ·intro k hk hw
  rcases List.mem_append.mp hk with z|z
  ·rcases h.cl k z (λz=>hw (List.mem_append_left _ z)) with e|e
   ·exact .inl e
   ·exact .inr λp a b=>List.mem_append_left _ (e p a b)
  ·exact absurd (List.mem_append_right _ z) hw
theorem Pd.pop (h:Pd asks rs (λ_=>False) (W++[k]) F):Pd asks rs (λj=>j=k) W F :=
 ⟨h.nd,h.pt,h.once,λp hp=>h.w p (List.mem_append_left _ hp),λj hj hw=>by
  by_cases e:j=k
  ·exact .inl e
  ·rcases h.cl j hj (λz=>by
    rcases List.mem_append.mp z with z|z
    ·exact hw z
    ·exact e (List.mem_singleton.mp z)) with z|z
   ·exact z.elim
   ·exact .inr z⟩
theorem Pd.done (h:Pd asks rs (λj=>j=k) W F) (hk:∀p,InP rs p->Ld rs asks p k->p∈F):Pd asks rs (λ_=>False) W F :=
 ⟨h.nd,h.pt,h.once,h.w,λj hj hw=>.inr (by
  rcases h.cl j hj hw with z|z
  ·rw [z];exact hk
  ·exact z)⟩
theorem Pd.len (h:Pd asks rs E W F) (ok:OkM asks rs):F.length<=576 :=
 Nat.le_trans (BF.few2 F h.nd λp hp=>(h.pt p hp).1.both) (Nat.mul_le_mul ok.r24 ok.r24)
theorem Pd.all (h:Pd asks rs (λ_=>False) [] F) (ok:OkM asks rs) (p:BF.P):p∈F↔InP rs p/\Pt asks rs p:=by
 refine ⟨h.pt p,λ⟨h1,w,h2⟩=>zsi ok (λp=>p∈F) h.once (λp q a hp ha hs hq=>?_) w p h1 h2⟩
 rcases h.cl (srt q) hq (by simp) with z|z
 ·exact z.elim
 ·exact z p hp ⟨a,q,ha,hs,rfl⟩
def Kp (m1 m3:Nat) (A T:Sto):Prop:=∀n o,n≠m1->n≠m3->A[n]? = some o->T[n]? = some o
theorem Kp.push (h:Kp m1 m3 A T) (o:Ob):Kp m1 m3 A (T++[o]):=λn x h1 h3 hx=>zbe (h n x h1 h3 hx)
theorem Kp.set1 (h:Kp m1 m3 A T) (o:Ob):Kp m1 m3 A (T.set m1 o):=λn x h1 h3 hx=>zbw (h n x h1 h3 hx) (Ne.symm h1)
theorem Kp.set3 (h:Kp m1 m3 A T) (o:Ob):Kp m1 m3 A (T.set m3 o):=λn x h1 h3 hx=>zbw (h n x h1 h3 hx) (Ne.symm h3)
theorem yhv (sr:Sr (λp k=>InP rs p/\Ld rs asks p k) nd np b c kvs A) (hnd:A[nd]? = some (.tdct kvs)) (hb:m1<b) (d1:nd≠m1) (hA:A.length=m3) (h1:m1<T.length) (h3:m3<T.length) (kp:Kp m1 m3 A T) (l2:l[2]? = some (some (.ref nd))) (l4:l[4]? = some (some (pD k))) :
  ∃(m:Nat) (ps:List BF.P),zgr (zaa 2) (zaa 4) (zae zbf (zad)) l T=some (.ref m,T++[.lst []])/\(T++[.lst []])[m]? = some (.lst (ps.map pD))/\(∀p,p∈ps↔InP rs p/\Ld rs asks p k)/\m≠m1/\m≠m3:=by
 have ndl:nd<A.length:=(qme hnd).1
 have hT:T[nd]? = some (.tdct kvs):=kp nd _ d1 (by lia) hnd
 have v2:zaa 2 l T=some (.ref nd,T):=by unfold zaa;rw [l2]
 have v4:zaa 4 l T=some (pD k,T):=by unfold zaa;rw [l4]
 have vl:zae zbf zad l T=some (.ref T.length,T++[.lst []]):=rfl
 have e:zgr (zaa 2) (zaa 4) (zae zbf (zad)) l T=some ((za6 kvs (pK k)).getD (.ref T.length),T++[.lst []]):=by
  unfold zgr
  rw [v2]
  dsimp only [Option.bind_some]
  rw [zl7 hT]
  dsimp only [Option.bind_some]
  rw [v4]
  dsimp only [Option.bind_some]
  rw [vl]
  dsimp only [Option.bind_some]
  rw [zl6 (zbe hT) (zfx k)];rfl
 cases hg:za6 kvs (pK k) with
 | none =>
  rw [hg] at e
  exact ⟨_,[],e,za4,λp=>⟨λz=>(by cases z),λz=>absurd z (sr.no k hg p)⟩,by lia,by lia⟩
 | some v =>
  rw [hg] at e
  obtain ⟨m,ps,rfl,s1,s2,_,s4,s5,s6⟩:=sr.yes k v hg
  have ml:m<A.length:=(qme s1).1
  exact ⟨m,ps,e,zbe (kp m _ (by lia) (by lia) s1),s2,by lia,by lia⟩
theorem yhw (ok:OkM asks rs) (sr:Sr (λp k=>InP rs p/\Ld rs asks p k) nd np b c kvs A) (hnd:A[nd]? = some (.tdct kvs)) (hb:m1<b) (d1:nd≠m1) (hA:A.length=m3) (d13:m1<m3) (hS:S.length<=m1)
  (h1:T[m1]? = some (.lst (W.map pD))) (h3:T[m3]? = some (.tdct (fT F))) (kp:Kp m1 m3 A T) (g:Gr S T) (pd:Pd asks rs (λ_=>False) W F) (hW:W.length<=1000)
  (q:∀x4 x5 F T',T'[m3]? = some (.tdct (fT F))->Gr S T'->Pd asks rs (λ_=>False) [] F->QS .nx [some (mD asks rs),~~~m1,~~~nd,~~~m3,x4,x5] T') :
  Ws (whl (tL (zaa 1)) (zai (zak (zbi zfk (zaa 1) zad) (zag 4)) (zc3 (zgr (zaa 2) (zaa 4) (zae zbf (zad))) (zag 5) (sIf (tE (eOp (zer true) (zaa 5) (zaa 3))) (zai (zak (eC (.bl true)) (zgs (zaa 3) (zaa 5))) (zb8 (zbi zb7 (zaa 1) (zab (zaa 5) zad)))) (zcu)))) zhr) [some (mD asks rs),~~~m1,~~~nd,~~~m3,x4,x5] T QS:=by
 have sz:=zbn
 refine yfz (λn l T=>∃x4 x5 W F,l=[some (mD asks rs),~~~m1,~~~nd,~~~m3,x4,x5]/\T[m1]? = some (.lst (W.map pD))/\T[m3]? = some (.tdct (fT F))/\Kp m1 m3 A T/\Gr S T/\Pd asks rs (λ_=>False) W F/\2*(1000-F.length)+W.length<=n/\n<=3000) (λ_ _=>False) (λl T=>∃x4 x5 F,l=[some (mD asks rs),~~~m1,~~~nd,~~~m3,x4,x5]/\T[m3]? = some (.tdct (fT F))/\Gr S T/\Pd asks rs (λ_=>False) [] F) 3000 (by lia)
  ⟨x4,x5,W,F,rfl,h1,h3,kp,g,pd,by lia,by lia⟩ ?_ ?_ (λd l' S' z=>z.elim)
 ·rintro n l T ⟨x4,x5,W,F,rfl,h1,h3,kp,g,pd,hm,hn⟩
  refine zmk rfl h1 ?_
  have hWc:=List.eq_nil_or_concat W
  simp only [List.concat_eq_append] at hWc
  rcases hWc with rfl|⟨W',k,rfl⟩
  ·exact ⟨_,_,F,rfl,h3,g,pd⟩
  ·have hlen:=pd.len ok
   rw [qla] at hm
   have hm':2*(1000-F.length)+(W'.length+1)<=n:=hm
   rw [if_pos (by simp)]
   have h1l:m1<T.length:=(qme h1).1
   have h3l:m3<T.length:=(qme h3).1
   refine zbv (l':=[some (mD asks rs),~~~m1,~~~nd,~~~m3,some (pD k),x5]) (S':=T.set m1 (.lst (W'.map pD))) ?_ ?_
   ·simp only [zb4,zdq,za2,zam,qg0,qg1,zaw]
    refine ⟨⟨_,zds h1⟩,yhu (x:=pD k) (by rw [h1,List.map_append];rfl) ?_⟩
    simp only [zay,qs0,qs1]
    exact ⟨nofun,nofun,nofun⟩
   obtain ⟨m,ps,he,hms,hps,hm1,hm3⟩:=yhv (l:=[some (mD asks rs),~~~m1,~~~nd,~~~m3,some (pD k),x5]) (T:=T.set m1 (.lst (W'.map pD))) sr hnd hb d1 hA (by rw [List.length_set];exact h1l) (by rw [List.length_set];exact h3l) (kp.set1 _) rfl rfl
   refine zib (n:=m) (ps.map pD) (λi l T'=>∃x5 W2 F2,l=[some (mD asks rs),~~~m1,~~~nd,~~~m3,some (pD k),x5]/\T'[m1]? = some (.lst (W2.map pD))/\T'[m3]? = some (.tdct (fT F2))/\T'[m]? = some (.lst (ps.map pD))/\Kp m1 m3 A T'/\Gr S T'/\Pd asks rs (λj=>j=k) W2 F2/\(∀p∈ps.take i,p∈F2)/\(∀p∈F,p∈F2)/\2*(1000-F2.length)+W2.length<=2*(1000-F.length)+W'.length) (λ_ _=>False) he
    ⟨_,W',F,rfl,zbe (zc0 h1),zbe (zbw h3 (by lia)),hms,(kp.set1 _).push _,(g.set hS _).trans ⟨_,rfl⟩,pd.pop,(λp hp=>by simp at hp),(λp hp=>hp),qlr _⟩ (λi l S' ⟨_,_,_,_,_,_,hp,_⟩=>zca hp) ?_ ?_ (λd l' S' z=>z.elim)
   ·rintro i x l T2 hx ⟨x5,W2,F2,rfl,g1,g3,gm,kp2,gr2,pd2,ht,hF,hm2⟩
    rw [qgm] at hx
    obtain ⟨p,hp,rfl⟩:=Option.map_eq_some_iff.mp hx
    obtain ⟨hpi,hld⟩:=(hps p).mp (qmg hp)
    have hkF:k∈F:=pd.w k (by simp)
    have hptp:Pt asks rs p:=by
     obtain ⟨a,r,ha,hs,hr⟩:=hld
     exact yhe ha hs (by rw [hr];exact (pd.pt k hkF).2)
    have hlen2:=pd2.len ok
    simp only [zay,qs0,qs1]
    try refine ⟨by first|rfl|trivial,?_⟩
    refine ze9 (λb S'=>b = !decide (p∈F2)/\S' = T2) ?_ ?_ ?_
    ·simp only [zc4,zbz,zam,qg0,qg1,zaw,zro]
     exact ⟨_,zl6 g3 (zfx p),_,rfl,by rw [zmj];rfl,nofun⟩
    ·rintro S' ⟨hc,rfl⟩
     have hpF:p ∉ F2:=λz=>by rw [decide_eq_true z] at hc;cases hc
     refine zbv (l':=[some (mD asks rs),~~~m1,~~~nd,~~~m3,some (pD k),some (pD p)]) (S':=S'.set m3 (.tdct (fT (F2++[p])))) ?_ ?_
     ·simp only [zb4,zcw,zl5,zam,qg0,qg1,zaw]
      exact ⟨_,yfy g3 (zfx p) (by rw [yhs];lia),nofun,nofun,by rw [zsm hpF]⟩
     have g1':(S'.set m3 (.tdct (fT (F2++[p]))))[m1]? = some (.lst (W2.map pD)):=zbw g1 (by lia)
     simp only [zel,zdq,za3,za2,zam,qg0,qg1,zaw]
     refine ⟨⟨_,zds g1'⟩,?_⟩
     rw [ze7 g1' (by rw [qlm];lia)]
     refine .inl ⟨(by first|exact .inl rfl|exact .inl trivial|trivial),_,W2++[p],F2++[p],rfl,?_,zbw (zc0 g3) (by lia),zbw (zbw gm (Ne.symm hm3)) (Ne.symm hm1),(kp2.set3 _).set1 _,(gr2.set (by lia) _).set hS _,pd2.add hpF hpi hptp,?_,λp hp=>List.mem_append_left _ (hF p hp),?_⟩
     ·rw [zc0 g1',List.map_append];rfl
     ·intro r hr
      rw [List.take_add_one,hp] at hr
      rcases List.mem_append.mp hr with z|z
      ·exact List.mem_append_left _ (ht r z)
      ·exact List.mem_append_right _ (by simpa using z)
     ·rw [qla,qla]
      show 2*(1000-(F2.length+1))+(W2.length+1)<=_
      lia
    ·rintro S' ⟨hc,rfl⟩
     have hpF:p∈F2:=by
      by_cases z:p∈F2
      ·exact z
      ·rw [decide_eq_false z] at hc;cases hc
     rw [zfm]
     refine .inl ⟨.inl rfl,_,W2,F2,rfl,g1,g3,gm,kp2,gr2,pd2,?_,hF,hm2⟩
     intro r hr
     rw [List.take_add_one,hp] at hr
     rcases List.mem_append.mp hr with z|z
     ·exact ht r z
     ·have:r=p:=by simpa using z
      rw [this];exact hpF
   ·rintro l' T2 ⟨x5,W2,F2,rfl,g1,g3,gm,kp2,gr2,pd2,ht,hF,hm2⟩
    refine .inl ⟨.inl rfl,_,by lia,_,_,W2,F2,rfl,g1,g3,kp2,gr2,pd2.done λp a b=>ht p ?_,qlr _,by lia⟩
    rw [qlm,List.take_length]
    exact (hps p).mpr ⟨a,b⟩
 ·rintro l' T' ⟨x4,x5,F,rfl,a,b,d⟩
  exact q x4 x5 F T' a b d
theorem yhx (h:OkM asks rs):Wo (zg1 [mD asks rs] S) λv S'=>∃m F,v=.ref m/\S'[m]? = some (.tdct (fT F))/\Gr S S'/\S.length<=m/\F.Nodup/\∀p,p∈F↔InP rs p/\Pt asks rs p:=by
 have sz:=zbn
 have hlen:=zj2 rs.length
 have h2:rs.length*rs.length<=24*24:=Nat.mul_le_mul h.r24 h.r24
 have hfl:((apL rs.length).filter (f1 asks rs)).length<=(apL rs.length).length:=List.length_filter_le _ _
 unfold zg1 zrv
 dsimp! only [zcj]
 refine zax (λl S'=>∃m1,l=[some (mD asks rs),~~~m1,none,none,none,none]/\S'[m1]? = some (.lst (((apL rs.length).filter (f1 asks rs)).map pD))/\Gr S S'/\S.length<=m1) ?_ ?_
 ·simp only [zb4,za8,za3,za2,zam,qg0,qg1,zaw]
  refine Wo.mono (yhk h) ?_
  rintro v S' ⟨m,rfl,a,b,c⟩
  simp only [zay,qs0,qs1]
  exact ⟨nofun,m,rfl,a,b,c⟩
 rintro l S1 ⟨m1,rfl,s1,g1,b1⟩
 have m1l:m1<S1.length:=(qme s1).1
 refine zax (λl S'=>∃nd np c kvs,l=[some (mD asks rs),~~~m1,~~~nd,none,none,none]/\S'[nd]? = some (.tdct kvs)/\Gr S1 S'/\S1.length<=nd/\Sr (λp k=>InP rs p/\Ld rs asks p k) nd np S1.length c kvs S') ?_ ?_
 ·simp only [zb4,za8,za3,za2,zam,qg0,qg1,zaw]
  refine Wo.mono (yhr h) ?_
  rintro v S' ⟨nd,np,c,kvs,rfl,a,b,d,e⟩
  simp only [zay,qs0,qs1]
  exact ⟨nofun,nd,np,c,kvs,rfl,a,b,d,e⟩
 rintro l S2 ⟨nd,np,c,kvs,rfl,s2,g2,b2,sr⟩
 have s1':=g2.get s1
 have m1l2:m1<S2.length:=(qme s1').1
 refine zbv (l':=[some (mD asks rs),~~~m1,~~~nd,some (.ref S2.length),none,none]) (S':=S2++[.tdct (fT ((apL rs.length).filter (f1 asks rs)))]) ?_ ?_
 ·rw [zb4]
  refine yht rfl s1' ((zso _).filter _) (by lia) ?_
  simp only [zay,qs0,qs1]
  exact ⟨nofun,nofun,nofun⟩
 refine zax (λl S'=>∃x4 x5 F,l=[some (mD asks rs),~~~m1,~~~nd,some (.ref S2.length),x4,x5]/\S'[S2.length]? = some (.tdct (fT F))/\Gr S S'/\Pd asks rs (λ_=>False) [] F) ?_ ?_
 ·refine yhw (S:=S) (W:=(apL rs.length).filter (f1 asks rs)) (F:=(apL rs.length).filter (f1 asks rs)) h sr s2 m1l (by lia) rfl m1l2 b1 (zbe s1') za4 (λn o _ _ z=>zbe z) ((g1.trans g2).trans ⟨_,rfl⟩) ⟨(zso _).filter _,?_,?_,λp hp=>hp,λk hk hw=>absurd hk hw⟩ (by lia) λx4 x5 F T' a b d=>⟨rfl,x4,x5,F,rfl,a,b,d⟩
  ·intro p hp
   have:=List.mem_filter.mp hp
   exact ⟨mem_ap.mp this.1,yhd this.2⟩
  ·exact λp hp hf=>List.mem_filter.mpr ⟨mem_ap.mpr hp,hf⟩
 rintro l S4 ⟨x4,x5,F,rfl,a,b,d⟩
 simp! only [zam]
 have:=g2.len
 have:=g1.len
 exact ⟨S2.length,F,rfl,a,b,by lia,d.nd,d.all h⟩
noncomputable def hm (asks:Nat) (rs:List (List Cl)):Nat->Nat->Nat
 | 0,_=>0
 | k+1,i=>((List.range rs.length).find? λj=>decide ((List.range asks).map (λa=>((cell rs j a).1.map (hm asks rs k),(cell rs j a).2))=(List.range asks).map (λa=>((cell rs i a).1.map (hm asks rs k),(cell rs i a).2)))).getD 0
def Fu (asks:Nat) (rs:List (List Cl)):Prop:=∀r a,r<rs.length->a<asks->(cell rs r a).1.isSome=true/\(cell rs r a).2.isSome=true
def Eqk (asks:Nat) (rs:List (List Cl)):Nat->Nat->Nat->Prop
 | 0,_,_=>True
 | k+1,i,j=>∀a,a<asks->(cell rs i a).2=(cell rs j a).2/\∀x y,(cell rs i a).1=some x->(cell rs j a).1=some y->Eqk asks rs k x y
theorem Eqk.refl:∀(k i:Nat),Eqk asks rs k i i
 | 0,_=>trivial
 | k+1,i=>λa ha=>⟨rfl,λx y h1 h2=>by rw [h1] at h2;cases h2;exact Eqk.refl k x⟩
theorem Eqk.symm:∀(k i j:Nat),Eqk asks rs k i j->Eqk asks rs k j i
 | 0,_,_,_=>trivial
 | k+1,i,j,h=>λa ha=>⟨(h a ha).1.symm,λx y h1 h2=>Eqk.symm k y x ((h a ha).2 y x h2 h1)⟩
theorem Eqk.trans (ok:OkM asks rs) (fu:Fu asks rs):∀(k i j l:Nat),j<rs.length->Eqk asks rs k i j->Eqk asks rs k j l->Eqk asks rs k i l
 | 0,_,_,_,_,_,_=>trivial
 | k+1,i,j,l,hj,h1,h2=>λa ha=>⟨(h1 a ha).1.trans (h2 a ha).1,λx y e1 e2=>by
   obtain ⟨m,hm⟩:=Option.isSome_iff_exists.mp (fu j a hj ha).1
   exact Eqk.trans ok fu k x m y (zdw ok hj ha hm) ((h1 a ha).2 x m e1 hm) ((h2 a ha).2 m y hm e2)⟩
noncomputable def mk' (asks:Nat) (rs:List (List Cl)) (k i:Nat):List (Option Nat × Option Nat):=(List.range asks).map λa=>((cell rs i a).1.map (hm asks rs k),(cell rs i a).2)
theorem zik (asks:Nat) (rs:List (List Cl)) (k i:Nat):hm asks rs (k+1) i=((List.range rs.length).find? λj=>decide (mk' asks rs k j=mk' asks rs k i)).getD 0:=rfl
theorem zml (hi:i<N) (h:f i=true):∃j,(List.range N).find? f=some j/\j<N/\f j=true:=by
 cases e:(List.range N).find? f with
 | none=>rw [List.find?_eq_none] at e;exact absurd h (e i (List.mem_range.mpr hi))
 | some j=>exact ⟨j,rfl,List.mem_range.mp (List.mem_of_find?_eq_some e),List.find?_some e⟩
theorem zj5 (hi:i<rs.length):hm asks rs (k+1) i<rs.length/\mk' asks rs k (hm asks rs (k+1) i)=mk' asks rs k i:=by
 obtain ⟨j,e,hj,h⟩:=zml (f:=λj=>decide (mk' asks rs k j=mk' asks rs k i)) hi (by simp)
 rw [zik,e]
 exact ⟨hj,by simpa using h⟩
theorem zsp (hi:i<rs.length) (hj:j<rs.length):hm asks rs (k+1) i=hm asks rs (k+1) j↔mk' asks rs k i=mk' asks rs k j:=by
 constructor
 ·intro h
  rw [<-(zj5 (asks:=asks) (k:=k) hi).2,<-(zj5 (asks:=asks) (k:=k) hj).2,h]
 ·intro h
  rw [zik,zik,h]
theorem yhy:mk' asks rs k i=mk' asks rs k j↔∀a,a<asks->(cell rs i a).1.map (hm asks rs k)=(cell rs j a).1.map (hm asks rs k)/\(cell rs i a).2=(cell rs j a).2:=by
 unfold mk'
 rw [List.map_inj_left]
 constructor
 ·intro h a ha
  have:=h a (List.mem_range.mpr ha)
  rw [Prod.mk.injEq] at this
  exact this
 ·intro h a ha
  obtain ⟨h1,h2⟩:=h a (List.mem_range.mp ha)
  rw [h1,h2]
theorem zsq (ok:OkM asks rs) (fu:Fu asks rs):∀(k i j:Nat),i<rs.length->j<rs.length->(hm asks rs k i=hm asks rs k j↔Eqk asks rs k i j)
 | 0,_,_,_,_=>⟨λ_=>trivial,λ_=>rfl⟩
 | k+1,i,j,hi,hj=>by
  rw [zsp hi hj,yhy]
  refine forall_congr' λa=>forall_congr' λha=>?_
  obtain ⟨x,hx⟩:=Option.isSome_iff_exists.mp (fu i a hi ha).1
  obtain ⟨y,hy⟩:=Option.isSome_iff_exists.mp (fu j a hj ha).1
  have ih:=zsq ok fu k x y (zdw ok hi ha hx) (zdw ok hj ha hy)
  rw [hx,hy]
  simp only [Option.map_some,Option.some.injEq]
  constructor
  ·rintro ⟨h1,h2⟩
   exact ⟨h2,λu v e1 e2=>by rw [<-e1,<-e2];exact ih.mp h1⟩
  ·rintro ⟨h1,h2⟩
   exact ⟨ih.mpr (h2 x y rfl rfl),h1⟩
theorem zsr (x y:Nat):unl (some x) (some y)=decide (x≠y):=by
 unfold unl
 simp
theorem zss (ok:OkM asks rs) (fu:Fu asks rs):∀(w:List Nat) (k i j:Nat),i<rs.length->j<rs.length->w.length<=k->BF.Fails asks (nxt rs) (fl rs) (i,j) w->¬Eqk asks rs k i j
 | [],k,i,j,hi,hj,hk,h=>absurd h BF.fails_ne
 | a :: w,0,i,j,hi,hj,hk,h=>by simp at hk
 | a :: w,k+1,i,j,hi,hj,hk,h=>λe=>by
  rcases BF.fails_inv h with ⟨_,ha,hf⟩|⟨q,ha,hs,h2⟩
  ·obtain ⟨x,hx⟩:=Option.isSome_iff_exists.mp (fu i a hi ha).2
   have h1:=(e a ha).1
   have hf:unl (cell rs i a).2 (cell rs j a).2=true:=hf
   rw [<-h1,hx,zsr] at hf
   simp at hf
  ·obtain ⟨x,hx⟩:=Option.isSome_iff_exists.mp (fu i a hi ha).1
   obtain ⟨y,hy⟩:=Option.isSome_iff_exists.mp (fu j a hj ha).1
   have hs:both (cell rs i a).1 (cell rs j a).1=some q:=hs
   rw [hx,hy] at hs
   cases (show some (x,y)=some q from hs)
   exact zss ok fu w k x y (zdw ok hi ha hx) (zdw ok hj ha hy) (by simp at hk;lia) h2 ((e a ha).2 x y hx hy)
theorem zst (ok:OkM asks rs) (fu:Fu asks rs):∀(k i j:Nat),i<rs.length->j<rs.length->¬Eqk asks rs k i j->∃w,BF.Fails asks (nxt rs) (fl rs) (i,j) w
 | 0,i,j,hi,hj,h=>absurd trivial h
 | k+1,i,j,hi,hj,h=>by
  refine Classical.byContradiction λc=>h λa ha=>?_
  obtain ⟨x,hx⟩:=Option.isSome_iff_exists.mp (fu i a hi ha).2
  obtain ⟨y,hy⟩:=Option.isSome_iff_exists.mp (fu j a hj ha).2
  refine ⟨?_,λu v e1 e2=>?_⟩
  ·refine Classical.byContradiction λn=>c ⟨[a],[],a,(i,j),rfl,ha,by simp,rfl,?_⟩
   show unl (cell rs i a).2 (cell rs j a).2=true
   rw [hx,hy,zsr]
   rw [hx,hy] at n
   simpa using n
  ·refine Classical.byContradiction λn=>?_
   obtain ⟨w,hw⟩:=zst ok fu k u v (zdw ok hi ha e1) (zdw ok hj ha e2) n
   exact c ⟨a :: w,BF.fails_cons ha (show both (cell rs i a).1 (cell rs j a).1=some (u,v) by rw [e1,e2];rfl) hw⟩
theorem zsu (ok:OkM asks rs) (fu:Fu asks rs) (hi:i<rs.length) (hj:j<rs.length):(∃w,BF.Fails asks (nxt rs) (fl rs) (i,j) w)↔∃k,¬Eqk asks rs k i j :=
 ⟨λ⟨w,h⟩=>⟨w.length,zss ok fu w _ i j hi hj (qlr _) h⟩,λ⟨k,h⟩=>zst ok fu k i j hi hj h⟩
theorem Eqk.down:∀(k i j:Nat),Eqk asks rs (k+1) i j->Eqk asks rs k i j
 | 0,_,_,_=>trivial
 | k+1,i,j,h=>λa ha=>⟨(h a ha).1,λx y e1 e2=>Eqk.down k x y ((h a ha).2 x y e1 e2)⟩
theorem Eqk.downs:∀(m:Nat),Eqk asks rs (k+m) i j->Eqk asks rs k i j
 | 0,h=>h
 | m+1,h=>Eqk.downs m (Eqk.down (k+m) i j h)
theorem Eqk.still (ok:OkM asks rs) (h:∀i j,i<rs.length->j<rs.length->Eqk asks rs k i j->Eqk asks rs (k+1) i j):∀(m i j:Nat),i<rs.length->j<rs.length->Eqk asks rs k i j->Eqk asks rs (k+m) i j
 | 0,i,j,hi,hj,e=>e
 | m+1,i,j,hi,hj,e=>λa ha=>by
  have e1:=h i j hi hj e
  refine ⟨(e1 a ha).1,λx y hx hy=>Eqk.still ok h m x y (zdw ok hi ha hx) (zdw ok hj ha hy) ((e1 a ha).2 x y hx hy)⟩
def Apt (asks:Nat) (rs:List (List Cl)) (k:Nat) (L:List Nat):Prop:=(∀i∈L,i<rs.length)/\L.Pairwise λi j=>¬Eqk asks rs k i j
theorem Apt.up (h:Apt asks rs k L):Apt asks rs (k+1) L:=⟨h.1,h.2.imp λn e=>n (Eqk.down k _ _ e)⟩
theorem Apt.nodup (h:Apt asks rs k L):L.Nodup:=h.2.imp λn e=>n (by rw [e];exact Eqk.refl k _)
theorem nodup_len {N:Nat}{L:List Nat}(nd:L.Nodup) (h:∀i∈L,i<N):L.length<=N:=by
 have:=List.Nodup.length_le_of_subset nd (l₂:=List.range N) λi hi=>List.mem_range.mpr (h i hi)
 simpa using this
theorem zsv (sy:∀a b,R a b->R b a):∀{L:List Nat},L.Pairwise R->∀a∈L,∀b∈L,a≠b->R a b
 | [],_,a,ha,_,_,_=>nomatch ha
 | x :: L,h,a,ha,b,hb,n=>by
  rw [List.pairwise_cons] at h
  rcases List.mem_cons.mp ha with rfl|ha'
  ·rcases List.mem_cons.mp hb with rfl|hb
   ·exact absurd rfl n
   ·exact h.1 b hb
  ·rcases List.mem_cons.mp hb with rfl|hb
   ·exact sy _ _ (h.1 a ha')
   ·exact zsv sy h.2 a ha' b hb n
theorem Apt.more (ok:OkM asks rs) (fu:Fu asks rs) (h:Apt asks rs k L) (full:∀i,i<rs.length->∃r∈L,Eqk asks rs k r i) (hi:i<rs.length) (hj:j<rs.length) (e:Eqk asks rs k i j) (n:¬Eqk asks rs (k+1) i j):∃x,Apt asks rs (k+1) (L++[x]):=by
 obtain ⟨r,hr,er⟩:=full i hi
 have lr:=h.1 r hr
 have other:∀q∈L,q≠r->∀x,x<rs.length->Eqk asks rs k r x->¬Eqk asks rs (k+1) q x:=λq hq nq x lx ex eq=>by
  have e2:Eqk asks rs k q r:=Eqk.trans ok fu k q x r lx (Eqk.down k q x eq) (Eqk.symm k r x ex)
  exact zsv (R:=λa b=>¬Eqk asks rs k a b) (λa b n e=>n (Eqk.symm k b a e)) h.2 q hq r hr nq e2
 have pick:∃x,x<rs.length/\Eqk asks rs k r x/\¬Eqk asks rs (k+1) r x:=by
  refine Classical.byContradiction λc=>n ?_
  have h1:Eqk asks rs (k+1) r i:=Classical.byContradiction λz=>c ⟨i,hi,er,z⟩
  have h2:Eqk asks rs (k+1) r j:=Classical.byContradiction λz=>c ⟨j,hj,Eqk.trans ok fu k r i j hi er e,z⟩
  exact Eqk.trans ok fu (k+1) i r j lr (Eqk.symm _ _ _ h1) h2
 obtain ⟨x,lx,ex,nx⟩:=pick
 refine ⟨x,λq hq=>?_,List.pairwise_append.mpr ⟨h.up.2,by simp,λq hq y hy=>?_⟩⟩
 ·rcases List.mem_append.mp hq with z|z
  ·exact h.1 q z
  ·rw [List.mem_singleton.mp z];exact lx
 ·rw [List.mem_singleton.mp hy]
  by_cases hqr:q=r
  ·rw [hqr];exact nx
  ·exact other q hq hqr x lx ex
theorem Apt.fill:∀(d:Nat) (L:List Nat),rs.length-L.length<=d->Apt asks rs k L->∃L',Apt asks rs k L'/\L.length<=L'.length/\∀i,i<rs.length->∃r∈L',Eqk asks rs k r i
 | d,L,hd,h=>by
  by_cases full:∀i,i<rs.length->∃r∈L,Eqk asks rs k r i
  ·exact ⟨L,h,qlr _,full⟩
  ·obtain ⟨i,c⟩:=Classical.not_forall.mp full
   obtain ⟨hi,c⟩:=Classical.not_imp.mp c
   have h2:Apt asks rs k (L++[i]):=by
    refine ⟨λq hq=>?_,List.pairwise_append.mpr ⟨h.2,by simp,λq hq y hy=>?_⟩⟩
    ·rcases List.mem_append.mp hq with z|z
     ·exact h.1 q z
     ·rw [List.mem_singleton.mp z];exact hi
    ·rw [List.mem_singleton.mp hy]
     exact λe=>c ⟨q,hq,e⟩
   have hl:=nodup_len h2.nodup h2.1
   rw [qla] at hl
   have hl:L.length+1<=rs.length:=hl
   match d,hd with
   | 0,hd=>lia
   | d+1,hd =>
    obtain ⟨L',q1,q2,q3⟩:=Apt.fill d (L++[i]) (by rw [qla];show _-(_+1)<=_;lia) h2
    refine ⟨L',q1,?_,q3⟩
    rw [qla] at q2
    have q2:L.length+1<=L'.length:=q2
    lia
theorem turns (ok:OkM asks rs) (fu:Fu asks rs):∀k,(∃t,t<=k/\∀i j,i<rs.length->j<rs.length->Eqk asks rs t i j->Eqk asks rs (t+1) i j)\/∃L,Apt asks rs (k+1) L/\k+2<=L.length
 | 0=>by
  by_cases st:∀i j,i<rs.length->j<rs.length->Eqk asks rs 0 i j->Eqk asks rs (0+1) i j
  ·exact .inl ⟨0,qlr _,st⟩
  ·refine .inr ?_
   obtain ⟨L,q1,q2,q3⟩:=Apt.fill (asks:=asks) (rs:=rs) (k:=0) rs.length [0] (by simp) ⟨λi hi=>by rw [List.mem_singleton.mp hi];have:=ok.r1;lia,by simp⟩
   obtain ⟨i,c⟩:=Classical.not_forall.mp st
   obtain ⟨j,c⟩:=Classical.not_forall.mp c
   obtain ⟨hi,c⟩:=Classical.not_imp.mp c
   obtain ⟨hj,c⟩:=Classical.not_imp.mp c
   obtain ⟨e,n⟩:=Classical.not_imp.mp c
   obtain ⟨x,hx⟩:=q1.more ok fu q3 hi hj e n
   exact ⟨_,hx,by rw [qla];simp at q2 ⊢;lia⟩
 | k+1=>by
  rcases turns ok fu k with ⟨t,ht,h⟩|⟨L0,h1,h2⟩
  ·exact .inl ⟨t,by lia,h⟩
  ·by_cases st:∀i j,i<rs.length->j<rs.length->Eqk asks rs (k+1) i j->Eqk asks rs (k+1+1) i j
   ·exact .inl ⟨k+1,qlr _,st⟩
   ·refine .inr ?_
    obtain ⟨L,q1,q2,q3⟩:=Apt.fill rs.length L0 (by lia) h1
    obtain ⟨i,c⟩:=Classical.not_forall.mp st
    obtain ⟨j,c⟩:=Classical.not_forall.mp c
    obtain ⟨hi,c⟩:=Classical.not_imp.mp c
    obtain ⟨hj,c⟩:=Classical.not_imp.mp c
    obtain ⟨e,n⟩:=Classical.not_imp.mp c
    obtain ⟨x,hx⟩:=q1.more ok fu q3 hi hj e n
    exact ⟨_,hx,by rw [qla];simp at q2 ⊢;lia⟩
theorem yhz (ok:OkM asks rs) (fu:Fu asks rs) (hi:i<rs.length) (hj:j<rs.length) (h:Eqk asks rs rs.length i j) (k:Nat):Eqk asks rs k i j:=by
 rcases turns ok fu rs.length with ⟨t,ht,st⟩|⟨L,h1,h2⟩
 ·have e:Eqk asks rs t i j:=Eqk.downs (rs.length-t) (by rw [Nat.add_sub_cancel' ht];exact h)
  have:=Eqk.still ok st k i j hi hj e
  rw [Nat.add_comm] at this
  exact Eqk.downs t this
 ·have:=nodup_len h1.nodup h1.1
  lia
noncomputable def cB (c:Cl):Bool:=(both c.1 c.2).isSome
noncomputable def cF:D->D
 | .tup [a,b]=>.bl (!(zd6 a || zd6 b))
 | _=>.non
theorem zmm (c:Cl):cF (cD c)=.bl (cB c):=by obtain ⟨a,b⟩:=c;cases a <;> cases b <;> rfl
theorem yh0 (x1:Option D):∃l',zb6 (cs.map cD) (zag 1) zar (eOp (dIn true) (eC .non) (zaa 1)) ((cs.map cD).length+1) 0 [some (rD cs),x1] S=some ((cs.map cD).map cF,l',S)/\∃y1,l' = [some (rD cs),y1]:=by
 obtain ⟨l',e,h⟩:=zmi (xs:=cs.map cD) (g:=zag 1) (e:=eOp (dIn true) (eC .non) (zaa 1)) cF (λl=>∃x1,l=[some (rD cs),x1]) S (by
  rintro x l hx ⟨x1,rfl⟩
  obtain ⟨c,hc,rfl⟩:=List.mem_map.mp hx
  simp only [zay,qs0,qs1]
  refine ⟨by first|rfl|trivial,⟨_,rfl⟩,?_⟩
  rw [zmm]
  unfold cD
  simp only [zbz,zcw,zam,qg0,qg1,zaw,zsg,if_true]
  exact ⟨by first|rfl|trivial,by first|rfl|trivial⟩) (cs.map cD).length 0 [some (rD cs),x1] rfl ⟨_,rfl⟩
 exact ⟨l',by rw [e,List.drop_zero],h⟩
theorem yh1 (h1:it i S=some (some x)) (h2:g x l S=some (l1,S1)) (h3:r l1 S1=some (.tup xs,S2)) (h4:zb6 xs g2 zar e (xs.length+1) 0 l1 S2=some (us,l2,S3)) (h5:zdb it g zar r g2 zar e n (i+1) l2 S3=some (zs,S4)):zdb it g zar r g2 zar e (n+1) i l S=some (us++zs,S4):=by
 rw [zdb,h1]
 show (g x l S).bind _=_
 rw [h2]
 show (r l1 S1).bind _=_
 rw [h3]
 show (zb6 xs g2 zar e (xs.length+1) 0 l1 S2).bind _=_
 rw [h4]
 show (zdb it g zar r g2 zar e n (i+1) l2 S3).bind _=_
 rw [h5];rfl
theorem zsw {rs:List (List Cl)}:∀(n i:Nat) (l:Lo),n+i=rs.length->(∃x0 x1,l=[x0,x1]) ->
  zdb (itX (rs.map rD)) (zag 0) zar (zaa 0) (zag 1) zar (eOp (dIn true) (eC .non) (zaa 1)) (n+1) i l S=some ((rs.drop i).flatMap λcs=>(cs.map cD).map cF,S)
 | 0,i,l,hn,h=>by
  unfold zdb
  have:(rs.map rD)[i]? = none:=List.getElem?_eq_none_iff.mpr (by rw [qlm];lia)
  show (some ((rs.map rD)[i]?)).bind _=_
  rw [this,List.drop_of_length_le (by lia)];rfl
 | n+1,i,l,hn,h=>by
  obtain ⟨x0,x1,rfl⟩:=h
  have hi:i<rs.length:=by lia
  have e0:(rs.map rD)[i]? = some (rD rs[i]):=by rw [qgm,qge hi];rfl
  obtain ⟨l',e1,y1,rfl⟩:=yh0 (S:=S) (cs:=rs[i]) x1
  have ih:=zsw (rs:=rs) (S:=S) n (i+1) [some (rD rs[i]),y1] (by lia) ⟨_,_,rfl⟩
  rw [List.drop_eq_getElem_cons hi,List.flatMap_cons]
  exact yh1 (x:=rD rs[i]) (by show some ((rs.map rD)[i]?)=_;rw [e0]) rfl rfl e1 ih
noncomputable def zb1 (rs:List (List Cl)):Bool:=rs.all λcs=>cs.all cB
theorem yh2 (h:OkM asks rs):(rs.flatMap λcs=>(cs.map cD).map cF).length<=96:=by
 rw [List.length_flatMap]
 have:∀l:List (List Cl),(∀cs∈l,cs.length=asks)->(l.map λcs=>((cs.map cD).map cF).length).sum<=l.length*asks:=by
  intro l
  induction l with
  | nil=>simp
  | cons x l ih =>
   intro hl
   rw [List.map_cons,List.sum_cons,List.length_cons,Nat.succ_mul,qlm,qlm]
   have:=hl x List.mem_cons_self
   have:=ih λcs hcs=>hl cs (List.mem_cons_of_mem _ hcs)
   lia
 have:=this rs h.len
 have:=Nat.mul_le_mul h.r24 h.a4
 lia
theorem zsx (h:OkM asks rs):∃S',zcf [mD asks rs] S=some (.bl (zb1 rs),S')/\Gr S S':=by
 have sz:=zbn
 suffices Wo (zcf [mD asks rs] S) λv S'=>v=.bl (zb1 rs)/\Gr S S' by
  obtain ⟨v,S',e,rfl,g⟩:=this
  exact ⟨S',e,g⟩
 unfold zcf zrw
 dsimp! only [zcj]
 have him:zcd (eOp zap (zaa 0) (eC (.int 1))) [some (mD asks rs)] S=some (itX (rs.map rD),(rs.map rD).length+1,S):=zjv rfl
 have hc:zh4 (zcd (eOp zap (zaa 0) (eC (.int 1)))) [none,none] (zag 0) (zar) (zaa 0) (zag 1) (zar) (eOp (dIn true) (eC .non) (zaa 1)) [some (mD asks rs)] S=some (.ref S.length,S++[.lst (rs.flatMap λcs=>(cs.map cD).map cF)]):=by
  unfold zh4
  rw [him,qlm]
  show (zdb _ _ _ _ _ _ _ (rs.length+1) 0 [none,none] S).bind _=_
  rw [zsw rs.length 0 [none,none] rfl ⟨_,_,rfl⟩,List.drop_zero]
  show (if _ then _ else _)=_
  have:=yh2 h
  rw [if_pos (by dsimp only;lia)]
 rw [zfn,za8,za3]
 refine ⟨_,_,hc,?_⟩
 dsimp only
 rw [za2,yfk]
 refine ⟨_,zdk,?_,?_,(Gr.refl S).push _⟩
 ·rw [List.all_flatMap,List.all_eq_true]
  intro cs _
  rw [List.all_map,List.all_map,List.all_eq_true]
  intro c _
  show zen (cF (cD c))=true
  rw [zmm];rfl
 ·unfold zb1
  rw [List.all_flatMap]
  congr 2
  funext cs
  rw [List.all_map,List.all_map]
  congr 1
  funext c
  show isT (cF (cD c))=_
  rw [zmm];rfl
theorem yh3 (h:OkM asks rs) (hf:zb1 rs=true):Fu asks rs:=λr a hr ha=>by
 obtain ⟨cs,h1,h2,_⟩:=zij h hr ha
 have:=List.all_eq_true.mp (List.all_eq_true.mp hf cs (qmg h1)) _ (qmg h2)
 unfold cB both at this
 cases e1:(cell rs r a).1 with
 | none=>rw [e1] at this;cases this
 | some x=>cases e2:(cell rs r a).2 with
  | none=>rw [e1,e2] at this;cases this
  | some y=>exact ⟨rfl,rfl⟩
noncomputable def nD (n:Nat):D:=.int (n:Int)
def Hom (h:Nat->Nat) (N:Nat):Prop:=∀j,j<N->h j<=j/\h (h j)=h j
noncomputable def zba (h:Nat->Nat) (r:Nat):List Nat:=(List.range r).filter λi=>decide (h i=i)
noncomputable def lot (h:Nat->Nat) (r f:Nat):List Nat:=(List.range r).filter λj=>decide (h j=f)
noncomputable def kvL (h:Nat->Nat) (r:Nat):List (L2.Key × D):=(zba h r).map λ(f:Nat)=>(Sum.inl (f:Int),.tup ((lot h r f).map nD))
noncomputable def zcg (h:Nat->Nat) (r:Nat):List D:=(zba h r).map λf=>.tup ((lot h r f).map nD)
theorem zsy (h:Nat->Nat) (r:Nat):zba h (r+1)=zba h r++if h r=r then [r] else []:=by
 unfold zba
 rw [List.range_succ,List.filter_append]
 congr 1
 by_cases e:h r=r <;> simp [e]
theorem zj6 (h:Nat->Nat) (r f:Nat):lot h (r+1) f=lot h r f++if h r=f then [r] else []:=by
 unfold lot
 rw [List.range_succ,List.filter_append]
 congr 1
 by_cases e:h r=f <;> simp [e]
theorem mem_fst {h:Nat->Nat}{r i:Nat}:i∈zba h r↔i<r/\h i=i:=by unfold zba;simp
theorem mem_lot {h:Nat->Nat}{r f i:Nat}:i∈lot h r f↔i<r/\h i=f:=by unfold lot;simp
theorem yh4 (h:Nat->Nat) (r:Nat):(zba h r).Nodup:=List.nodup_range.filter _
theorem zil (h:Nat->Nat) (r:Nat):(zba h r).length<=r:=by
 have:=List.length_filter_le (λi=>decide (h i=i)) (List.range r)
 rw [List.length_range] at this
 exact this
theorem zsz (h:Nat->Nat) (r f:Nat):(lot h r f).length<=r:=by
 have:=List.length_filter_le (λi=>decide (h i=f)) (List.range r)
 rw [List.length_range] at this
 exact this
theorem zmn {i j:Nat}(h:(Sum.inl (i:Int):L2.Key)=Sum.inl (j:Int)):i=j:=by cases h;rfl
theorem kv_any (h:Nat->Nat) (r f:Nat):((kvL h r).any λkv=>decide (kv.1=Sum.inl (f:Int)))=decide (f∈zba h r):=by
 unfold kvL
 rw [List.any_map]
 by_cases e:f∈zba h r
 ·rw [decide_eq_true e,List.any_eq_true]
  exact ⟨f,e,by simp⟩
 ·rw [decide_eq_false e,List.any_eq_false]
  intro g hg z
  exact e (by rw [<-zmn (of_decide_eq_true z)];exact hg)
theorem kv_get {h:Nat->Nat}{r f:Nat}(e:f∈zba h r):zcz (kvL h r) (Sum.inl (f:Int))=some (.tup ((lot h r f).map nD)):=by
 unfold zcz kvL
 rw [List.find?_map]
 cases q:(zba h r).find? ((λkv:L2.Key × D=>decide (kv.1=Sum.inl (f:Int))) ∘ λ(f:Nat)=>(Sum.inl (f:Int),.tup ((lot h r f).map nD))) with
 | none=>rw [List.find?_eq_none] at q;exact absurd (decide_eq_true rfl) (q f e)
 | some g =>
  have:=List.find?_some q
  have:g=f:=zmn (of_decide_eq_true this)
  subst this;rfl
theorem yh5 {h:Nat->Nat}{N r:Nat}(hh:Hom h N) (hr:r<N) (e:h r≠r):zc6 (kvL h r) (Sum.inl (h r:Int)) (.tup ((lot h r (h r)).map nD++[nD r]))=kvL h (r+1):=by
 have hm:h r∈zba h r:=mem_fst.mpr ⟨by have:=(hh r hr).1;lia,(hh r hr).2⟩
 unfold zc6
 rw [if_pos (by rw [kv_any,decide_eq_true hm])]
 unfold kvL
 rw [zsy,if_neg e,List.append_nil,List.map_map]
 apply List.map_congr_left
 intro f hf
 show (if (Sum.inl (f:Int):L2.Key)=Sum.inl (h r:Int) then _ else _)=_
 by_cases q:f=h r
 ·subst q
  rw [if_pos rfl,zj6,if_pos rfl,List.map_append];rfl
 ·rw [if_neg (λz=>q (zmn z)),zj6,if_neg (λz=>q z.symm),List.append_nil]
theorem yh6 {h:Nat->Nat}{N r:Nat}(hh:Hom h N) (hr:r<N) (e:h r=r):zc6 (kvL h r) (Sum.inl (r:Int)) (.tup [nD r])=kvL h (r+1):=by
 have hm:r ∉ zba h r:=λz=>by have:=(mem_fst.mp z).1;lia
 unfold zc6
 rw [if_neg (by rw [kv_any,decide_eq_false hm];simp)]
 unfold kvL
 rw [zsy,if_pos e,List.map_append]
 congr 1
 ·apply List.map_congr_left
  intro f hf
  have:f≠r:=λz=>by rw [z] at hf;exact hm hf
  rw [zj6,if_neg (by rw [e];exact λz=>this z.symm),List.append_nil]
 ·have:lot h r r=[]:=by
   rw [List.eq_nil_iff_forall_not_mem]
   intro j hj
   obtain ⟨h1,h2⟩:=mem_lot.mp hj
   have:=(hh j (by lia)).1
   lia
  show _=[(Sum.inl (r:Int),D.tup ((lot h (r+1) r).map nD))]
  rw [zj6,if_pos e,this];rfl
theorem kv_vals (h:Nat->Nat) (r:Nat):(kvL h r).map (·.2)=zcg h r:=by unfold kvL zcg;rw [List.map_map];rfl
theorem yh7 {h:Nat->Nat}{N r:Nat}(hh:Hom h N) (hr:r<N):(zba h r).filter (λf=>decide (h f=h r))=if h r=r then [] else [h r]:=by
 split
 ·rename_i e
  rw [List.filter_eq_nil_iff]
  intro f hf z
  obtain ⟨h1,h2⟩:=mem_fst.mp hf
  have:=of_decide_eq_true z
  lia
 ·rename_i e
  have hm:h r∈zba h r:=mem_fst.mpr ⟨by have:=(hh r hr).1;lia,(hh r hr).2⟩
  have:(zba h r).filter (λf=>decide (h f=h r))=(zba h r).filter (λf=>f == h r):=by
   apply List.filter_congr
   intro f hf
   have:=(mem_fst.mp hf).2
   rw [this];rfl
  rw [this,List.filter_beq,(yh4 h r).count,if_pos hm];rfl
open Classical in
theorem yh8 (hm:m l S=some (.nx,l',S.set n (.fdct kvs)++more)) (hl:l[i]? = some (some (.ref n))) (hS:S[n]? = some (.dct kvs)) (hno:more.all zl0=true):zh7 i m l S=some (.nx,l',S++more):=by
 have hn:n<S.length:=(qme hS).1
 have e0:(S.set n (.fdct kvs)++more)[n]? = some (.fdct kvs):=by rw [List.getElem?_append_left (by rw [List.length_set];exact hn)];exact zc0 hS
 unfold zh7
 rw [hm]
 dsimp only [Option.bind_some]
 rw [hl]
 dsimp only
 rw [hS,e0]
 dsimp only
 have e1:(S.set n (.fdct kvs)++more).take S.length=S.set n (.fdct kvs):=by
  rw [List.take_append_of_le_length (by rw [List.length_set];lia),List.take_of_length_le (by rw [List.length_set];lia)]
 have e2:(S.set n (.fdct kvs)++more).drop S.length=more:=by
  rw [List.drop_append_of_le_length (by rw [List.length_set];lia),List.drop_of_length_le (by rw [List.length_set];lia),List.nil_append]
 rw [if_pos ⟨e1,by rw [e2];exact hno⟩]
 congr 3
 rw [List.set_append_left _ _ (by rw [List.length_set];exact hn),List.set_set]
 congr 1
 apply List.ext_getElem?
 intro j
 by_cases hj:n=j
 ·subst hj;rw [List.getElem?_set_self hn,hS]
 ·rw [List.getElem?_set_ne hj]
theorem yh9 (h1:mo l S=some (.ref n,S)) (h2:mi l S=some (.int i,S)) (h3:mv l S=some (.tup ys,S)) (hS:S[n]? = some (.dct kvs)) (hg:zcz kvs (Sum.inl i)=some (.tup (x :: xs))) (hz:(x :: xs).length+ys.length<=sizeLine) (hk:kvs.length<sizeLine):zjr mo mi mv l S=some (.nx,l,S.set n (.dct (zc6 kvs (Sum.inl i) (.tup (x :: xs++ys))))):=by
 have hd:zeb S n=some kvs:=by unfold zeb;rw [hS]
 have e1:zhv (.ref n) (.int i) S=some (.tup (x :: xs),S):=by
  unfold zhv
  dsimp only
  rw [hd]
  show (zcz kvs (Sum.inl i)).bind _=_
  rw [hg];rfl
 have e2:zh6 (.tup (x :: xs)) (.tup ys) S=some (.tup (x :: xs++ys),S):=by unfold zh6;dsimp only;rw [if_pos hz]
 have e3:zll (.ref n) (.int i) (.tup (x :: xs++ys)) S=some (S.set n (.dct (zc6 kvs (Sum.inl i) (.tup (x :: xs++ys))))):=by
  unfold zll
  dsimp only
  rw [hd]
  show (if _ then _ else _)=_
  rw [if_pos hk]
 unfold zjr
 rw [h1]
 dsimp only [Option.bind_some]
 rw [h2]
 dsimp only [Option.bind_some]
 rw [e1]
 dsimp only [Option.bind_some]
 rw [h3]
 dsimp only [Option.bind_some]
 rw [e2]
 dsimp only [Option.bind_some]
 rw [e3];rfl
theorem yia (h:S[n]? = some (.dct kvs)) (hz:kvs.length<sizeLine):zes (.ref n) (.int i) v S=some (S.set n (.dct (zc6 kvs (Sum.inl i) v))):=by
 unfold zes;dsimp only;rw [h];show (if _ then _ else _)=_;rw [if_pos hz]
theorem zmo (h:We m l S λx T=>x=v/\T=S'):m l S=some (v,S'):=by
 obtain ⟨x,T,e,rfl,rfl⟩:=h;exact e
theorem yib (h:e l S=some (.ref n,S)) (hn:S[n]? = some (.dct kvs)):zgp e l S=some (itX (kvs.map λq=>kD q.1),(kvs.map λq=>kD q.1).length+1,S.set n (.fdct kvs)):=by
 have hd:zeb S n=some kvs:=by unfold zeb;rw [hn]
 unfold zgp
 rw [h]
 dsimp only [Option.bind_some]
 rw [hd,qlm];rfl
noncomputable def alF (h:Nat->Nat) (r:Nat):D->Option D
 | .int i=>if h i.toNat=h r then some (.int i) else none
 | _=>none
theorem zs0 (h:Nat->Nat) (r:Nat) (fs:List Nat):(fs.map nD).filterMap (alF h r)=(fs.filter λf=>decide (h f=h r)).map nD:=by
 induction fs with
 | nil=>rfl
 | cons f fs ih =>
  have e:alF h r (nD f)=if h f=h r then some (nD f) else none:=rfl
  rw [List.map_cons]
  by_cases c:h f=h r
  ·rw [List.filterMap_cons_some (by rw [e,if_pos c]),List.filter_cons_of_pos (by simp [c]),List.map_cons,ih]
  ·rw [List.filterMap_cons_none (by rw [e,if_neg c]),List.filter_cons_of_neg (by simp [c]),ih]
theorem yic (h:Nat->Nat) (r:Nat):((kvL h r).map λq=>kD q.1)=(zba h r).map nD:=by unfold kvL;rw [List.map_map];rfl
theorem yid (hp:∀p,p∈F↔InP rs p/\Pt asks rs p) (hh:∀i j,i<rs.length->j<rs.length->(h i=h j↔¬Pt asks rs (i,j))) (r24:rs.length<=24) (hr:r<rs.length) (hm:S[m]? = some (.tdct (fT F))) (hn:S[n]? = some (.dct (kvL h r))) :
  zh7 2 (zak (zbd (zgp (zaa 2)) [none,some 3,some 1] (zag 0) (tE (eOp (zer true) (zae zat (zab (zaa 0) (zab (zaa 1) (zad)))) (zaa 2))) (zaa 0)) (zag 4)) [some (mD asks rs),~~~m,~~~n,some (nD r),x4] S=some (.nx,[some (mD asks rs),~~~m,~~~n,some (nD r),some (.ref S.length)],S++[.lst (((zba h r).filter λf=>decide (h f=h r)).map nD)]):=by
 have sz:=zbn
 have hmn:n≠m:=λe=>by rw [e,hm] at hn;cases hn
 have fl:=zil h r
 refine yh8 (n:=n) (kvs:=kvL h r) ?_ rfl hn rfl
 suffices hw:We (zbd (zgp (zaa 2)) [none,some 3,some 1] (zag 0) (tE (eOp (zer true) (zae zat (zab (zaa 0) (zab (zaa 1) (zad)))) (zaa 2))) (zaa 0)) [some (mD asks rs),~~~m,~~~n,some (nD r),x4] S λv S'=>v=.ref S.length/\S' = S.set n (.fdct (kvL h r))++[.lst (((zba h r).filter λf=>decide (h f=h r)).map nD)] by
  unfold zak
  rw [zmo hw];rfl
 have him:=yib (e:=zaa 2) (l:=[some (mD asks rs),~~~m,~~~n,some (nD r),x4]) (S:=S) (n:=n) rfl hn
 rw [yic] at him
 refine zh9 ((zba h r).map nD) (alF h r) (λT=>T=S.set n (.fdct (kvL h r))) (λl=>∃x0,l=[x0,some (nD r),~~~m]) him rfl ⟨none,rfl⟩ (λi T g=>rfl) (by rw [qlm];lia) ?_ ?_
 ·rintro x l T hx ⟨x0,rfl⟩ rfl
  obtain ⟨f,hf,rfl⟩:=List.mem_map.mp hx
  have hf':=mem_fst.mp hf
  have hm':=zbw (o':=.fdct (kvL h r)) hm hmn
  simp only [zay,qs0,qs1]
  refine ⟨⟨_,rfl⟩,?_⟩
  simp only [zc4,zbz,za8,za3,za2,zam,qg0,qg1,zaw,zc5,List.length_cons,List.length_nil,zro]
  have ea:alF h r (nD f)=if h f=h r then some (nD f) else none:=rfl
  have hq:decide ((f,r)∈F) = !decide (h f=h r):=by
   by_cases c:h f=h r
   ·rw [decide_eq_true c,Bool.not_true,decide_eq_false]
    exact λz=>(hh f r (by lia) hr).mp c ((hp _).mp z).2
   ·rw [decide_eq_false c,Bool.not_false,decide_eq_true]
    exact (hp _).mpr ⟨⟨hf'.1,hr⟩,Classical.byContradiction λz=>c ((hh f r (by lia) hr).mpr z)⟩
  refine ⟨by lia,_,zl6 hm' (zfx (f,r)),_,rfl,nofun,λhb=>?_,λhb=>?_⟩
  ·rw [zmj,hq] at hb
   rw [ea,if_neg (λz=>by rw [decide_eq_true z] at hb;cases hb)]
  ·rw [zmj,hq] at hb
   refine ⟨?_,nofun⟩
   rw [ea,if_pos (Classical.byContradiction λz=>by rw [decide_eq_false z] at hb;cases hb)]
 ·rintro T rfl
  rw [zs0]
  exact ⟨by rw [List.length_set],rfl⟩
theorem zs1 (h:OkM asks rs) (x:Lo):∃S',zf3 (tE (zae zcf (zab (zaa 0) (zad)))) (some (mD asks rs) :: x) S=some (!zb1 rs,S')/\Gr S S':=by
 obtain ⟨S',e,g⟩:=zsx (S:=S) h
 refine ⟨S',?_,g⟩
 have e1:zae zcf (zab (zaa 0) (zad)) (some (mD asks rs) :: x) S=some (.bl (zb1 rs),S'):=zj4 rfl e
 unfold zf3 tE
 rw [e1];rfl
theorem yie (h:OkM asks rs) (hf:zb1 rs=false):zdu [mD asks rs] S=none/\∃S',zg2 [mD asks rs] S=some (("NotFull":Str),S')/\Gr S S':=by
 obtain ⟨S',e,g⟩:=zs1 (S:=S) h [none,none,none,none]
 rw [hf] at e
 constructor
 ·have:∀a b c:SM,zai (sIf (zf3 (tE (zae zcf (zab (zaa 0) (zad))))) zk3 a) b [some (mD asks rs),none,none,none,none] S=none:=λa b c=>by
   unfold zai sIf
   rw [e];rfl
  unfold zdu zl9 zby
  show (zai _ _ [some (mD asks rs),none,none,none,none] S).bind _=_
  rw [this _ _ zcu];rfl
 ·refine ⟨S',?_,g⟩
  unfold zg2 zrx zjj
  show zIf _ _ _ [some (mD asks rs),none,none,none,none] S=_
  unfold zIf
  rw [e];rfl
theorem zs2 (e:m l S=some (.nx,l',S')) (q:Q .nx l' S'):Ws m l S Q:=⟨_,_,_,e,q⟩
theorem yif (ok:OkM asks rs) (hf:zb1 rs=true) (hh:∀i j,i<rs.length->j<rs.length->(h i=h j↔¬Pt asks rs (i,j))) (ho:Hom h rs.length):Wo (zdu [mD asks rs] S) λv S'=>∃n,v=.ref n/\S'[n]? = some (.lst (zcg h rs.length))/\Gr S S'/\S.length<=n:=by
 have sz:=zbn
 have r24:=ok.r24
 unfold zdu zl9
 dsimp! only [zcj]
 refine zax (λl S'=>l=[some (mD asks rs),none,none,none,none]/\Gr S S') ?_ ?_
 ·obtain ⟨S',e,g⟩:=zs1 (S:=S) ok [none,none,none,none]
  rw [hf] at e
  refine ze9 (λb T=>b=false/\T=S') ⟨_,_,e,rfl,rfl⟩ (λT z=>by cases z.1) ?_
  rintro T ⟨_,rfl⟩
  rw [zfm]
  exact ⟨rfl,rfl,g⟩
 rintro l S1 ⟨rfl,g1⟩
 refine zax (λl S'=>∃m F,l=[some (mD asks rs),~~~m,none,none,none]/\S'[m]? = some (.tdct (fT F))/\Gr S1 S'/\∀p,p∈F↔InP rs p/\Pt asks rs p) ?_ ?_
 ·simp only [zb4,za8,za3,za2,zam,qg0,qg1,zaw]
  refine Wo.mono (yhx ok) ?_
  rintro v S' ⟨m,F,rfl,a,b,c,d,e⟩
  simp only [zay,qs0,qs1]
  exact ⟨nofun,m,F,rfl,a,b,e⟩
 rintro l S2 ⟨m,F,rfl,hm,g2,hp⟩
 have g02:=g1.trans g2
 refine zbv (l':=[some (mD asks rs),~~~m,some (.ref S2.length),none,none]) (S':=S2++[.dct []]) ⟨_,_,_,rfl,rfl,rfl,rfl⟩ ?_
 refine zax (λl T=>∃x3 x4,l=[some (mD asks rs),~~~m,some (.ref S2.length),x3,x4]/\T[S2.length]? = some (.dct (kvL h rs.length))/\Gr S2 T) ?_ ?_
 ·refine zia (n:=rs.length) (S1:=S2++[.dct []]) (λk l T=>∃x3 x4,l=[some (mD asks rs),~~~m,some (.ref S2.length),x3,x4]/\T[S2.length]? = some (.dct (kvL h k))/\Gr S2 T) (λ_ _=>False) (by show some ([D.int ((rs.map rD).length:Int)],_)=_;rw [qlm]) (by lia) ⟨none,none,rfl,za4,(Gr.refl _).push _⟩ ?_ ?_ (λd l' S' z=>z.elim)
  ·rintro r l T hr ⟨x3,x4,rfl,hn,g⟩
   have hm':=g.get hm
   have fl:=zil h r
   have kl:(kvL h r).length<=r:=by unfold kvL;rw [qlm];exact fl
   simp only [zay,qs0,qs1]
   try refine ⟨by first|rfl|trivial,?_⟩
   have ea:=yid (x4:=x4) hp hh r24 hr hm' hn
   rw [yh7 ho hr] at ea
   refine zax (λl T'=>l=[some (mD asks rs),~~~m,some (.ref S2.length),some (nD r),some (.ref T.length)]/\T' = T++[.lst ((if h r=r then [] else [h r]).map nD)]) (zs2 ea ⟨rfl,rfl,rfl⟩) ?_
   rintro l T' ⟨rfl,rfl⟩
   have hn':(T++[.lst ((if h r=r then [] else [h r]).map nD)])[S2.length]? = some (.dct (kvL h r)):=zbe hn
   by_cases c:h r=r
   ·rw [if_pos c] at hn' ⊢
    refine ze9 (λb T'=>b=false/\T' = T++[.lst []]) (zmk rfl za4 ⟨rfl,rfl⟩) (λ_ z=>by cases z.1) ?_
    rintro T' ⟨_,rfl⟩
    simp only [zb4,za8,za3,za2,zam,zc5,zl5,List.length_cons,List.length_nil,qg0,qg1,zaw]
    refine ⟨by lia,_,yia hn' (by lia),.inl ⟨(by first|exact .inl rfl|exact .inl trivial|trivial),_,_,rfl,?_,(g.push _).set (qlr _) _⟩⟩
    rw [<-yh6 ho hr c]
    exact zc0 hn'
   ·rw [if_neg c] at hn' ⊢
    have hfm:h r∈zba h r:=mem_fst.mpr ⟨by have:=(ho r hr).1;lia,(ho r hr).2⟩
    refine ze9 (λb T'=>b=true/\T' = T++[.lst [nD (h r)]]) (zmk rfl za4 ⟨rfl,rfl⟩) ?_ (λ_ z=>by cases z.1)
    rintro T' ⟨_,rfl⟩
    have hlot:h r∈lot h r (h r):=mem_lot.mpr ⟨(mem_fst.mp hfm).1,(ho r hr).2⟩
    have ll:=zsz h r (h r)
    have hget:=kv_get hfm
    obtain ⟨y,ys,hy⟩:∃y ys,(lot h r (h r)).map nD=y :: ys:=by
     cases q:(lot h r (h r)).map nD with
     | nil=>rw [List.map_eq_nil_iff] at q;rw [q] at hlot;cases hlot
     | cons y ys=>exact ⟨y,ys,rfl⟩
    have yl:(y :: ys).length<=r:=by rw [<-hy,qlm];exact ll
    have hold:=yh5 ho hr c
    rw [hy] at hget hold
    have e2:eOp zap (zaa 4) (eC (.int 0)) [some (mD asks rs),~~~m,some (.ref S2.length),some (nD r),some (.ref T.length)] (T++[.lst [nD (h r)]])=some (.int (h r:Int),T++[.lst [nD (h r)]]):=by
     apply zmo
     simp only [zbz,zam,zcw,qg0,qg1,zaw,zet]
     exact ⟨_,zdk,_,rfl,rfl,nofun⟩
    refine zs2 (yh9 (n:=S2.length) (kvs:=kvL h r) (ys:=[nD r]) rfl e2 rfl hn' hget (by rw [List.length_singleton];lia) (by lia)) (.inl ⟨.inl rfl,_,_,rfl,?_,(g.push _).set (qlr _) _⟩)
    rw [<-hold]
    exact zc0 hn'
  ·rintro l T ⟨x3,x4,rfl,hn,g⟩
   exact ⟨rfl,x3,x4,rfl,hn,g⟩
 rintro l T ⟨x3,x4,rfl,hn,g⟩
 rw [zfn]
 refine ⟨.ref T.length,T++[.lst (zcg h rs.length)],?_,_,rfl,za4,(g02.trans g).push _,?_⟩
 ·rw [<-kv_vals]
  unfold zlz zaa zjq
  dsimp only [qg0,qg1,Option.bind_some]
  rw [hn]
 ·have:=(g02.trans g).len
  exact this
noncomputable def pyN (a:Nat):PyData:=.int (a:Int)
noncomputable def pyO:Option Nat->PyData
 | none=>.none
 | some k=>pyN k
noncomputable def pyK (c:Cl):PyData:=.tuple [pyO c.1,pyO c.2]
noncomputable def pyR (cs:List Cl):PyData:=.tuple (cs.map pyK)
def SmC (c:Cl):Prop:=(∀x,c.1=some x->x<1000)/\∀x,c.2=some x->x<1000
theorem zs3 {k a:Nat}(h:a<1000):zan S (k+1) (.int (a:Int))=some (pyN a):=by
 unfold zan
 rw [if_pos (zrn (by lia))];rfl
theorem zs4 {k:Nat}{o:Option Nat}(h:∀x,o=some x->x<1000):zan S (k+1) (oD o)=some (pyO o):=by
 cases o with
 | none=>show zan S (k+1) .non=_;unfold zan;rfl
 | some x=>exact zs3 (h x rfl)
theorem yig (h:SmC c):zan S (k+2) (cD c)=some (pyK c):=by
 unfold cD zan
 have e:pyAll S (k+1) [oD c.1,oD c.2]=some [pyO c.1,pyO c.2]:=by
  unfold pyAll
  rw [zs4 h.1]
  show (pyAll S (k+1) [oD c.2]).bind _=_
  unfold pyAll
  rw [zs4 h.2]
  show ((pyAll S (k+1) []).bind _).bind _=_
  unfold pyAll
  rfl
 rw [e];rfl
theorem zim {α:Type}{S:Sto}{k:Nat}{f:α->D}{g:α->PyData}:∀{xs:List α},(∀x∈xs,zan S k (f x)=some (g x))->pyAll S k (xs.map f)=some (xs.map g)
 | [],_=>by unfold pyAll;rfl
 | x :: xs,h=>by
  rw [List.map_cons]
  unfold pyAll
  rw [h x List.mem_cons_self]
  show (pyAll S k (xs.map f)).bind _=_
  rw [zim λy hy=>h y (List.mem_cons_of_mem _ hy)];rfl
theorem zs5 {k:Nat}{cs:List Cl}(h:∀c∈cs,SmC c):zan S (k+3) (rD cs)=some (pyR cs):=by
 unfold rD zan
 rw [zim λc hc=>yig (h c hc)];rfl
theorem yih (o:Option Nat):(pyO o).canLay0=true:=by cases o <;> (unfold pyO;try unfold pyN) <;> rw [PyData.canLay0]
theorem yii (c:Cl):(pyK c).canLay0=true:=by
 unfold pyK
 rw [PyData.canLay0]
 simp [PyData.canLayAll0,yih]
theorem zmp {α:Type}{g:α->PyData}(h:∀x,(g x).canLay0=true):∀(xs:List α),PyData.canLayAll0 (xs.map g)=true
 | []=>by rw [List.map_nil,PyData.canLayAll0]
 | x :: xs=>by rw [List.map_cons,PyData.canLayAll0,h,zmp h xs];rfl
theorem zs6 (cs:List Cl):(pyR cs).canLay0=true:=by
 unfold pyR
 rw [PyData.canLay0]
 exact zmp yii cs
theorem yij (o q:Option Nat):(pyO o).eqv (pyO q)=decide (o=q):=by
 cases o with
 | none=>cases q with
  | none=>rfl
  | some k=>simp [pyO,pyN,PyData.eqv]
 | some j=>cases q with
  | none=>simp [pyO,pyN,PyData.eqv]
  | some k =>
   simp only [pyO,pyN,PyData.eqv]
   by_cases e:j=k
   ·subst e;simp
   ·have:¬(j:Int)=(k:Int):=by lia
    simp [e,this]
theorem yik (c d:Cl):(pyK c).eqv (pyK d)=decide (c=d):=by
 unfold pyK
 rw [PyData.eqv]
 simp only [PyData.eqvAll,yij,Bool.and_true]
 obtain ⟨c1,c2⟩:=c
 obtain ⟨d1,d2⟩:=d
 by_cases h1:c1=d1 <;> by_cases h2:c2=d2 <;> simp [h1,h2]
theorem zs7:∀(cs ds:List Cl),PyData.eqvAll (cs.map pyK) (ds.map pyK)=decide (cs=ds)
 | [],[]=>by simp [PyData.eqvAll]
 | [],d :: ds=>by simp [PyData.eqvAll]
 | c :: cs,[]=>by simp [PyData.eqvAll]
 | c :: cs,d :: ds=>by
  simp only [List.map_cons,PyData.eqvAll,yik,zs7 cs ds]
  by_cases h1:c=d <;> by_cases h2:cs=ds <;> simp [h1,h2]
theorem yil (cs ds:List Cl):(pyR cs).eqv (pyR ds)=decide (cs=ds):=by
 unfold pyR
 rw [PyData.eqv]
 exact zs7 cs ds
theorem yim {n j:Nat}{ms:List (List Cl)}{m:List Cl}(hn:S[n]? = some (.lst (ms.map rD))) (hs:∀m∈ms,∀c∈m,SmC c) (hm:m∈ms) (hj:(ms.map λq=>decide (q=m)).idxOf? true=some j) (q:Q (.int (j:Int)) S):Wo (zgu (.ref n) [rD m] S) Q:=by
 refine ⟨_,_,?_,q⟩
 unfold zgu
 dsimp only
 rw [hn]
 dsimp only
 rw [zs5 (hs m hm)]
 dsimp only [Option.bind_some]
 rw [zim λx hx=>zs5 (hs x hx)]
 dsimp only [Option.bind_some]
 rw [if_pos ⟨zs6 m,zmp zs6 ms⟩,List.map_map]
 have:(λq=>q.eqv (pyR m)) ∘ pyR=λq=>decide (q=m):=by funext x;exact yil x m
 rw [this,hj];rfl
noncomputable def mc (asks:Nat) (rs:List (List Cl)) (k:Nat) (cs:List Cl):List Cl:=cs.map λc=>(c.1.map (hm asks rs k),c.2)
theorem yin (h:rs[i]? = some cs):cell rs i a=(cs[a]?).getD (none,none):=by unfold cell;rw [h];rfl
theorem yio (h:rs[i]? = some cs) (hl:cs.length=asks):mk' asks rs k i=mc asks rs k cs:=by
 unfold mk' mc
 apply List.ext_getElem?
 intro a
 rw [qgm,qgm]
 by_cases ha:a<asks
 ·rw [List.getElem?_range ha,qge (by lia)]
  show some (Option.map (hm asks rs k) (cell rs i a).1,(cell rs i a).2)=some _
  rw [yin h,qge (by lia)];rfl
 ·rw [List.getElem?_eq_none (by rw [List.length_range];lia),List.getElem?_eq_none (by lia)];rfl
theorem zmq (ok:OkM asks rs) (k:Nat):rs.map (mc asks rs k)=(List.range rs.length).map (mk' asks rs k):=by
 apply List.ext_getElem?
 intro i
 rw [qgm,qgm]
 by_cases hi:i<rs.length
 ·rw [List.getElem?_range hi,qge hi]
  show some _=some _
  rw [yio (qge hi) (ok.len _ (qem hi))]
 ·rw [List.getElem?_eq_none (by lia),List.getElem?_eq_none (by rw [List.length_range];lia)];rfl
theorem yip (h:(List.range N).find? f=some j):((List.range N).map f).idxOf? true=some j:=by
 obtain ⟨h1,h2,h3⟩:=List.find?_range_eq_some.mp h
 unfold List.idxOf?
 rw [List.findIdx?_eq_some_iff_getElem]
 refine ⟨by rw [qlm,List.length_range];exact List.mem_range.mp h2,by simp [h1],λm hm=>?_⟩
 have:=h3 m hm
 simp at this
 simp [this]
theorem zmr (ok:OkM asks rs) (hi:i<rs.length):((rs.map (mc asks rs k)).map λq=>decide (q=mk' asks rs k i)).idxOf? true=some (hm asks rs (k+1) i):=by
 rw [zmq ok,List.map_map]
 obtain ⟨j,e,hj,h⟩:=zml (f:=λj=>decide (mk' asks rs k j=mk' asks rs k i)) hi (by simp)
 rw [zik,e]
 exact yip e
theorem yiq (ok:OkM asks rs):∀(k i:Nat),i<rs.length->hm asks rs k i<rs.length
 | 0,_,_=>ok.r1
 | k+1,i,hi=>(zj5 hi).1
def An (rs:List (List Cl)):Prop:=∀cs∈rs,∀c∈cs,∀s,c.2=some s->s<8
theorem yir (h:cB c=true):∃g s,c=(some g,some s):=by
 obtain ⟨a,b⟩:=c
 cases a with
 | none=>cases h
 | some g=>cases b with
  | none=>cases h
  | some s=>exact ⟨g,s,rfl⟩
theorem yis (hf:zb1 rs=true) (hc:cs∈rs) (h:c∈cs):∃g s,c=(some g,some s):=yir (List.all_eq_true.mp (List.all_eq_true.mp hf cs hc) c h)
theorem yit (ok:OkM asks rs) (an:An rs) (k:Nat):∀m∈rs.map (mc asks rs k),∀c∈m,SmC c:=by
 intro m hm' c hc
 obtain ⟨cs,hcs,rfl⟩:=List.mem_map.mp hm'
 obtain ⟨d,hd,rfl⟩:=List.mem_map.mp hc
 have r24:=ok.r24
 refine ⟨λx hx=>?_,λx hx=>?_⟩
 ·obtain ⟨g,hg,rfl⟩:=Option.map_eq_some_iff.mp hx
  have:=yiq ok k g (ok.go cs hcs d hd g hg)
  lia
 ·have:=an cs hcs d hd x hx
  lia
noncomputable def hL (asks:Nat) (rs:List (List Cl)) (k:Nat):List D:=(List.range rs.length).map λi=>nD (hm asks rs k i)
theorem zs8 {asks:Nat}{rs:List (List Cl)}{k g:Nat}(h:g<rs.length):L2.atI (hL asks rs k) (g:Int)=some (nD (hm asks rs k g)):=atI_get (by unfold hL;rw [qgm,List.getElem?_range h];rfl)
theorem yiu {asks:Nat}{rs:List (List Cl)}{k n:Nat}{x2 x3:Option D}(ok:OkM asks rs) (hf:zb1 rs=true) (hn:S[n]? = some (.lst (hL asks rs k))) :
  We (zbd (zcd (zaa 0)) [none,some 1] (zag 0) (zar) (zae zdp (zab (zbd (zcd (zaa 0)) [none,none,some 1] (zcy 2 (zbl (zag 0) (zbl (zag 1) (zcv)))) (zar) (zae zat (zab (eOp zap (zaa 2) (zaa 0)) (zab (zaa 1) (zad))))) (zad)))) [some (.tup (rs.map rD)),~~~n,x2,x3] S λv S'=>∃m,v=.ref m/\S'[m]? = some (.lst ((rs.map (mc asks rs k)).map rD))/\Gr S S':=by
 have sz:=zbn
 have r24:=ok.r24
 have a4:=ok.a4
 refine zjz rs rD (λcs=>rD (mc asks rs k cs)) (λT=>Gr S T) (λl=>∃x0,l=[x0,~~~n]) (zjv rfl) (Gr.refl S) ⟨none,rfl⟩ (λ_ _ _=>rfl) (by lia) ?_ ?_
 ·rintro cs l T hcs ⟨x0,rfl⟩ hT
  have hlen:=ok.len cs hcs
  simp only [zay,qs0,qs1]
  refine ⟨⟨_,rfl⟩,?_⟩
  simp only [za8,za3,za2]
  refine zjz cs cD (λc=>cD (c.1.map (hm asks rs k),c.2)) (λT'=>T' = T) (λl=>∃x0 x1,l=[x0,x1,~~~n]) (zjv (xs:=cs.map cD) rfl) rfl ⟨none,none,rfl⟩ (λ_ _ _=>rfl) (by lia) ?_ ?_
  ·rintro c l T' hc ⟨x0,x1,rfl⟩ rfl
   obtain ⟨g,s,rfl⟩:=yis hf hcs hc
   have hg:=ok.go cs hcs _ hc g rfl
   unfold cD
   simp only [zgf,zgh,zgg,zay,List.length_cons,List.length_nil,qs0,qs1]
   refine ⟨by first|exact ⟨_,_,rfl⟩|trivial,?_⟩
   simp only [oD,za8,za3,za2,zbz,zam,qg0,qg1,zaw,zet,zca (hT.get hn),zcl,zs8 hg,zc5,List.length_cons,List.length_nil]
   exact ⟨⟨_,_,rfl⟩,by lia,nofun,nofun⟩
  ·rintro T' rfl
   simp only [zhp,zdk,zcl]
   refine ⟨?_,hT.push _⟩
   unfold rD mc
   rw [List.map_map];rfl
 ·intro T hT
  refine ⟨_,rfl,?_,hT.push _⟩
  rw [List.map_map]
  exact za4
noncomputable def ixF (ms:List (List Cl)) (m:List Cl):D:=nD (((ms.map λq=>decide (q=m)).idxOf? true).getD 0)
theorem yiv (ok:OkM asks rs) (k:Nat):(rs.map (mc asks rs k)).map (ixF (rs.map (mc asks rs k)))=hL asks rs (k+1):=by
 have e:∀i,i<rs.length->ixF (rs.map (mc asks rs k)) (mk' asks rs k i)=nD (hm asks rs (k+1) i):=λi hi=>by
  unfold ixF
  rw [zmr ok hi];rfl
 unfold hL
 generalize hX:ixF (rs.map (mc asks rs k))=X at e ⊢
 rw [zmq ok,List.map_map]
 exact List.map_congr_left λi hi=>e i (List.mem_range.mp hi)
theorem yiw (ok:OkM asks rs) (hf:zb1 rs=true) (an:An rs):Wo (zif [.tup (rs.map rD)] S) λv S'=>∃n,v=.ref n/\S'[n]? = some (.lst (hL asks rs rs.length))/\Gr S S':=by
 have sz:=zbn
 have r24:=ok.r24
 unfold zif zr0
 dsimp! only [zcj]
 refine zax (λl T=>∃n,l=[some (.tup (rs.map rD)),~~~n,none,none]/\T[n]? = some (.lst (hL asks rs 0))/\Gr S T) ?_ ?_
 ·rw [zb4]
  refine zjz rs rD (λ_=>nD 0) (λT=>T=S) (λl=>∃x0,l=[x0]) (zjv rfl) rfl ⟨none,rfl⟩ (λ_ _ _=>rfl) (by lia) ?_ ?_
  ·rintro cs l T hcs ⟨x0,rfl⟩ rfl
   simp only [zay,qs0,zcw]
   exact ⟨⟨_,rfl⟩,nofun,nofun⟩
  ·rintro T rfl
   simp only [zay,qs0,qs1]
   refine ⟨nofun,_,rfl,?_,(Gr.refl _).push _⟩
   rw [za4]
   unfold hL
   congr 2
   apply List.ext_getElem?
   intro i
   rw [qgm,qgm]
   by_cases hi:i<rs.length
   ·rw [List.getElem?_range hi,qge hi];rfl
   ·rw [List.getElem?_eq_none (by lia),List.getElem?_eq_none (by rw [List.length_range];lia)];rfl
 rintro l S1 ⟨n1,rfl,h1,g1⟩
 refine zax (λl T=>∃n x2 x3,l=[some (.tup (rs.map rD)),~~~n,x2,x3]/\T[n]? = some (.lst (hL asks rs rs.length))/\Gr S T) ?_ ?_
 ·refine yfs (rs.map rD) (λk l T=>∃n x2 x3,l=[some (.tup (rs.map rD)),~~~n,x2,x3]/\T[n]? = some (.lst (hL asks rs k))/\Gr S T) (λ_ _=>False) rfl ⟨n1,none,none,rfl,h1,g1⟩ ?_ ?_ (λd l' S' z=>z.elim)
  ·rintro k x l T hx ⟨n,x2,x3,rfl,hn,g⟩
   simp only [zay,qs0,qs1]
   refine zax (λl T'=>∃x2 m,l=[some (.tup (rs.map rD)),~~~n,x2,~~~m]/\T'[m]? = some (.lst ((rs.map (mc asks rs k)).map rD))/\Gr T T') ?_ ?_
   ·rw [zb4]
    obtain ⟨v,T',e,m,rfl,a,b⟩:=yiu (x2:=some x) (x3:=x3) ok hf hn
    refine ⟨_,_,e,?_⟩
    simp only [zay,qs0,qs1]
    exact ⟨nofun,_,m,rfl,a,b⟩
   rintro l T1 ⟨x2,m,rfl,hm',g2⟩
   rw [zb4]
   refine zjz (rs.map (mc asks rs k)) rD (ixF (rs.map (mc asks rs k))) (λT'=>T' = T1) (λl=>∃x0,l=[x0,~~~m]) (zjw rfl (zca hm')) rfl ⟨none,rfl⟩ (λi T' z=>by rw [z];exact zjx (zca hm')) (by rw [qlm];lia) ?_ ?_
   ·rintro y l T' hy ⟨x0,rfl⟩ rfl
    simp only [zay,qs0,qs1]
    refine ⟨⟨_,rfl⟩,?_⟩
    simp only [zdq,zam,za3,za2,qg0,qg1,zaw]
    have hy2:=hy
    rw [zmq ok] at hy2
    obtain ⟨i,hi,rfl⟩:=List.mem_map.mp hy2
    have hi:=List.mem_range.mp hi
    refine ⟨⟨_,zds hm'⟩,yim hm' (yit ok an k) hy (zmr ok hi) ⟨?_,rfl⟩⟩
    unfold ixF
    rw [zmr ok hi];rfl
   ·rintro T' rfl
    simp only [zay,qs0,qs1]
    refine .inl ⟨(by first|exact .inl rfl|exact .inl trivial|trivial),_,_,_,rfl,?_,(g.trans g2).push _⟩
    rw [yiv ok]
    exact za4
  ·rintro l T ⟨n,x2,x3,rfl,hn,g⟩
   rw [qlm] at hn
   exact ⟨rfl,n,x2,x3,rfl,hn,g⟩
 rintro l T ⟨n,x2,x3,rfl,hn,g⟩
 simp! only [zam]
 exact ⟨n,rfl,hn,g⟩
noncomputable def hh (asks:Nat) (rs:List (List Cl)):Nat->Nat:=hm asks rs rs.length
theorem zs9 (ok:OkM asks rs):Hom (hh asks rs) rs.length:=λj hj=>by
 have r1:=ok.r1
 obtain ⟨k,hk⟩:∃k,rs.length=k+1:=⟨rs.length-1,by lia⟩
 unfold hh
 obtain ⟨m1,m2⟩:=zj5 (asks:=asks) (k:=k) hj
 constructor
 ·obtain ⟨i,e,hi,h⟩:=zml (f:=λi=>decide (mk' asks rs k i=mk' asks rs k j)) hj (by simp)
  obtain ⟨h1,h2,h3⟩:=List.find?_range_eq_some.mp e
  rw [hk,zik,e]
  refine Classical.byContradiction λz=>?_
  have:=h3 j (by have z:¬i<=j:=z;lia)
  simp at this
 ·rw [hk]
  exact (zsp m1 hj).mpr m2
theorem yix (ok:OkM asks rs) (fu:Fu asks rs) (i j:Nat) (hi:i<rs.length) (hj:j<rs.length):hh asks rs i=hh asks rs j↔¬Pt asks rs (i,j):=by
 unfold hh
 rw [zsq ok fu _ i j hi hj]
 constructor
 ·intro e p
  obtain ⟨k,n⟩:=(zsu ok fu hi hj).mp p
  exact n (yhz ok fu hi hj e k)
 ·intro n
  exact Classical.byContradiction λz=>n ((zsu ok fu hi hj).mpr ⟨_,z⟩)
theorem zta:∀f:List Nat,zgo (f.map nD)=some (f.map λ(x:Nat)=>(x:Int))
 | []=>rfl
 | x :: f=>by
  show (zgo (f.map nD)).bind _=_
  rw [zta f];rfl
theorem ztb (h:Nat->Nat) (r:Nat):(zba h r).Pairwise (· < ·):=List.pairwise_lt_range.filter _
theorem yiy (ho:Hom h N):sortI (ze6 (((List.range N).map h).map λ(x:Nat)=>(x:Int)))=(zba h N).map λ(x:Nat)=>(x:Int):=by
 refine (zqu ?_ ?_).symm
 ·refine (List.perm_ext_iff_of_nodup ?_ (yeu _)).mpr λx=>?_
  ·unfold List.Nodup
   rw [List.pairwise_map]
   exact (ztb h N).imp λhab e=>by lia
  ·rw [yet]
   constructor
   ·intro hx
    obtain ⟨f,hf,rfl⟩:=List.mem_map.mp hx
    obtain ⟨h1,h2⟩:=mem_fst.mp hf
    exact List.mem_map.mpr ⟨f,List.mem_map.mpr ⟨f,List.mem_range.mpr h1,h2⟩,rfl⟩
   ·intro hx
    obtain ⟨f,hf,rfl⟩:=List.mem_map.mp hx
    obtain ⟨j,hj,rfl⟩:=List.mem_map.mp hf
    have hj:=List.mem_range.mp hj
    have:=ho j hj
    exact List.mem_map.mpr ⟨h j,mem_fst.mpr ⟨by lia,this.2⟩,rfl⟩
 ·rw [List.pairwise_map]
  exact (ztb h N).imp λhab=>by lia
theorem ztc (n:Nat):zas 0 n=(List.range n).map nD:=by
 have:=zmf (n:=n) id
 rw [List.map_id] at this
 rw [this];rfl
theorem yiz (ok:OkM asks rs) (hn:S[n]? = some (.lst (hL asks rs rs.length))):zgw [.ref n] S=some (.ref S.length,S++[.lst ((zba (hh asks rs) rs.length).map nD)]):=by
 have r24:=ok.r24
 have e:hL asks rs rs.length=((List.range rs.length).map (hh asks rs)).map nD:=by unfold hL hh;rw [List.map_map];rfl
 unfold zgw
 dsimp only
 rw [zca hn,e]
 dsimp only [Option.bind_some]
 rw [zta]
 dsimp only [Option.bind_some]
 rw [if_pos (by rw [qlm,qlm,List.length_range];lia),yiy (zs9 ok),List.map_map];rfl
theorem yi0 (h:Wa as l S λxs T=>xs=vs/\T=S'):as l S=some (vs,S'):=by obtain ⟨x,T,e,rfl,rfl⟩:=h;exact e
theorem yi1 (ok:OkM asks rs) (hf:zb1 rs=true) (an:An rs):Wo (zig [mD asks rs] S) λv S'=>∃n,v=.ref n/\S'[n]? = some (.lst (zcg (hh asks rs) rs.length))/\Gr S S':=by
 have sz:=zbn
 have r24:=ok.r24
 unfold zig zr1
 dsimp! only [zcj]
 refine zax (λl T=>∃n,l=[some (mD asks rs),~~~n,none,none]/\T[n]? = some (.lst (hL asks rs rs.length))/\Gr S T) ?_ ?_
 ·unfold mD
  simp only [zb4,za8,za3,za2,zbz,zcw,zam,qg0,qg1,zaw,zjs,yg3,zcl]
  refine Wo.mono (yiw ok hf an) ?_
  rintro v S' ⟨n,rfl,a,b⟩
  simp only [zay,qs0,qs1]
  exact ⟨nofun,n,rfl,a,b⟩
 rintro l S1 ⟨n1,rfl,h1,g1⟩
 refine zbv (l':=[some (mD asks rs),~~~n1,some (.ref S1.length),none]) (S':=S1++[.lst []]) ⟨_,_,_,rfl,rfl,rfl,rfl⟩ ?_
 have h1':(S1++[.lst []])[n1]? = some (.lst (hL asks rs rs.length)):=zbe h1
 have es:=yiz ok h1'
 have n1l:n1<S1.length:=(qme h1).1
 have g1l:=g1.len
 refine zax (λl T=>∃x3,l=[some (mD asks rs),~~~n1,some (.ref S1.length),x3]/\T[S1.length]? = some (.lst (zcg (hh asks rs) rs.length))/\Gr S T) ?_ ?_
 ·refine zib (n:=(S1++[Ob.lst []]).length) (S1:=S1++[.lst []]++[.lst ((zba (hh asks rs) rs.length).map nD)]) ((zba (hh asks rs) rs.length).map nD) (λk l T=>∃x3,l=[some (mD asks rs),~~~n1,some (.ref S1.length),x3]/\T[n1]? = some (.lst (hL asks rs rs.length))/\T[S1.length]? = some (.lst (((zba (hh asks rs) rs.length).take k).map λf=>.tup ((lot (hh asks rs) rs.length f).map nD)))/\T[(S1++[Ob.lst []]).length]? = some (.lst ((zba (hh asks rs) rs.length).map nD))/\Gr S T) (λ_ _=>False) (zj4 rfl es)
   ⟨_,rfl,zbe h1',zbe za4,za4,(g1.push _).push _⟩ (λi l S' ⟨_,_,_,_,hp,_⟩=>zca hp) ?_ ?_ (λd l' S' z=>z.elim)
  ·rintro k x l T hx ⟨x3,rfl,t1,t2,t4,g⟩
   rw [qgm] at hx
   obtain ⟨f,hfk,rfl⟩:=Option.map_eq_some_iff.mp hx
   have hfm:=mem_fst.mp (qmg hfk)
   have fl:=zil (hh asks rs) rs.length
   simp only [zay,qs0,qs1]
   simp only [zel,zdq,zam,za3,za2,za8,qg0,qg1,zaw]
   refine ⟨⟨_,zds t2⟩,?_⟩
   refine zh9 (zas 0 rs.length) (alF (hh asks rs) f) (λT'=>T' = T) (λl=>∃x0,l=[x0,~~~n1,some (nD f)]) (zgx (n:=rs.length) (S1:=T) ?_ (by lia)) rfl ⟨none,rfl⟩ (λ_ _ _=>rfl) (by rw [zdh];lia) ?_ ?_
   ·apply yi0
    simp only [za3,za2,za8,zam,qg0,qg1,zaw,zjt,zca t1,zcl]
    unfold hL
    rw [qlm,List.length_range]
    exact ⟨nofun,nofun⟩
   ·rintro y l T' hy ⟨x0,rfl⟩ rfl
    obtain ⟨j,hj,rfl⟩:=zmg hy
    simp only [zay,qs0,qs1]
    refine ⟨⟨_,rfl⟩,?_⟩
    have ej:L2.atI (hL asks rs rs.length) (j:Int)=some (nD (hh asks rs j)):=zs8 hj
    have ea:alF (hh asks rs) f (.int (j:Int))=if hh asks rs j=f then some (nD j) else none:=by
     show (if hh asks rs (Int.toNat (j:Int))=hh asks rs f then _ else _)=_
     rw [hfm.2,Int.toNat_natCast];rfl
    simp only [zc4,zbz,zam,qg0,qg1,zaw,zet,zca t1,zcl,ej,nD,zla,zfu]
    refine ⟨nofun,λhb=>?_,λhb=>?_⟩
    ·rw [ea,if_neg (λz=>by have:=of_decide_eq_false hb;lia)]
    ·refine ⟨?_,nofun⟩
     rw [ea,if_pos (by have:=of_decide_eq_true hb;lia)];rfl
   ·rintro T' rfl
    have ee:(zas 0 rs.length).filterMap (alF (hh asks rs) f)=(lot (hh asks rs) rs.length f).map nD:=by
     rw [ztc,zs0,hfm.2];rfl
    simp only [zhp,zdk,zcl]
    rw [ee,ze7 (zbe t2) (by rw [qlm,List.length_take];lia)]
    have hne:S1.length≠(S1++[Ob.lst []]).length:=by rw [qla];simp
    refine .inl ⟨(by first|exact .inl rfl|exact .inl trivial|trivial),_,rfl,zbw (zbe t1) (by lia),?_,zbw (zbe t4) hne,(g.push _).set g1l _⟩
    rw [zc0 (zbe t2),List.take_add_one,hfk]
    simp
  ·rintro l T ⟨x3,rfl,t1,t2,t4,g⟩
   rw [qlm,List.take_length] at t2
   exact ⟨rfl,x3,rfl,t2,g⟩
 rintro l T ⟨x3,rfl,hn,g⟩
 simp! only [zam]
 exact ⟨_,rfl,hn,g⟩
structure Ss (many kinds:Nat) (ss:List Nat):Prop where
 len:ss.length=many
 lt:∀s∈ss,s<kinds
 own:∀j,j<kinds->ss[j]? = some j
theorem Fn.at (h:Fn A B) (hn:n≠1) (e:A[n]? = some o):B[n]? = some o:=h n o hn e
theorem PQ.two (h:PQ ns c S):2<=S.length:=by
 obtain ⟨a,r,h1,_⟩:=h
 have:=(qme h1).1
 lia
theorem ztd (h:Fn A B) (h2:2<=B.length):A.length<=B.length:=by
 by_cases z:A.length<=2
 ·lia
 ·have:=h (A.length-1) A[A.length-1] (by lia) (qge (by lia))
  have:=(qme this).1
  lia
theorem all_map {α β:Type}{f:α->β}{V:α->Prop}:∀{vs:List β},(∀v∈vs,∃p,v=f p/\V p)->∃ps:List α,vs=ps.map f/\∀p∈ps,V p
 | [],_=>⟨[],rfl,λp hp=>by cases hp⟩
 | v :: vs,h=>by
  obtain ⟨p,rfl,hp⟩:=h v List.mem_cons_self
  obtain ⟨ps,rfl,hps⟩:=all_map (f:=f) (V:=V) λv hv=>h v (List.mem_cons_of_mem _ hv)
  exact ⟨p :: ps,rfl,λq hq=>by
   rcases List.mem_cons.mp hq with rfl|hq
   ·exact hp
   ·exact hps q hq⟩
theorem yi2 (h:PQ ns c S) (hc:c+100<100000000) (hm:many<=24) (hk1:1<=kinds) (hk:kinds<=many) :
  We (zbd (zco (zbj (zab (zaa 2) (zad)))) [none,some 3,some 0] (zag 0) (zar) (zfg (tE (eOp dLt (zaa 0) (zaa 1))) (zaa 0) (zae zb0 (zab (zaa 2) (zab (zaa 1) (zad)))))) (some (.ref 1) :: some (.int 24) :: some (nD many) :: some (nD kinds) :: y) S λv S'=>∃n ss,v=.ref n/\S'[n]? = some (.lst (ss.map nD))/\Ss many kinds ss/\PQ ns (c+24) S'/\Fn S S'/\2<=n:=by
 have sz:=zbn
 refine zh8 (zas 0 many) (λi acc l T=>∃ss,acc=ss.map nD/\(∃x0,l=[x0,some (nD kinds),~~~1])/\ss.length=i/\(∀s∈ss,s<kinds)/\(∀j,j<kinds->j<i->ss[j]? = some j)/\PQ ns (c+i) T/\Fn S T) (zgx (n:=many) rfl (by lia)) ⟨[],rfl,⟨none,rfl⟩,rfl,(λs hs=>by cases hs),(λj _ hj=>by lia),h,Fn.refl S⟩ (λ_ _ _ _ _=>rfl) ?_ ?_
 ·rintro i x acc l T hx ⟨ss,rfl,⟨x0,rfl⟩,h1,h2,h3,h4,h5⟩
  obtain ⟨hi,rfl⟩:=zlc hx
  rw [Int.zero_add]
  simp only [zay,qs0,qs1,zhn,if_true]
  simp only [zo9,zc4,zbz,zam,qg0,qg1,zaw,nD,zk9,zfu,decide_eq_true_eq]
  by_cases hik:i<kinds
  ·rw [if_pos (by lia)]
   refine ⟨ss++[i],by rw [List.map_append];rfl,⟨_,rfl⟩,by rw [qla,h1];rfl,λs hs=>?_,λj hj1 hj2=>?_,h4.mono (by lia),h5⟩
   ·rcases List.mem_append.mp hs with z|z
    ·exact h2 s z
    ·rw [List.mem_singleton.mp z];exact hik
   ·by_cases hji:j<i
    ·rw [List.getElem?_append_left (by lia)];exact h3 j hj1 hji
    ·rw [show j=ss.length by lia,List.getElem?_concat_length,h1]
  ·rw [if_neg (by lia)]
   simp only [za8,za3,za2,zam,qg0,qg1,zaw]
   refine (zdv h4 (by lia) (by lia) (by lia)).mono ?_
   rintro v T' ⟨⟨d,rfl,hd⟩,p,f⟩
   refine ⟨ss++[d],by rw [List.map_append];rfl,⟨_,rfl⟩,by rw [qla,h1];rfl,λs hs=>?_,λj hj1 hj2=>?_,p,h5.trans f⟩
   ·rcases List.mem_append.mp hs with z|z
    ·exact h2 s z
    ·rw [List.mem_singleton.mp z];lia
   ·rw [List.getElem?_append_left (by lia)];exact h3 j hj1 (by lia)
 ·rintro acc l T ⟨ss,rfl,_,h1,h2,h3,h4,h5⟩
  rw [zdh] at h1 h3 h4
  refine ⟨by rw [qlm];lia,_,ss,rfl,za4,⟨h1,h2,λj hj=>h3 j hj (by lia)⟩,(h4.mono (by lia)).gr ((Gr.refl _).push _),h5.trans (Fn.gr ((Gr.refl _).push _)),h4.two⟩
theorem yi3 {ns:List Int}{c kinds asks answers:Nat}{x1 x2:Option D}{y:List (Option D)}(h:PQ ns c S) (hc:c+100<100000000) (ha:asks<=4) (hk1:1<=kinds) (hk:kinds<=24) (h1:1<=answers) (h8:answers<=8) :
  We (zbd (zco (zbj (zab (zaa 4) (zad)))) [none,some 0,some 3,some 5] (zag 0) (zar) (zae zat (zab (zae zb0 (zab (zaa 1) (zab (zaa 2) (zad)))) (zab (zae zb0 (zab (zaa 1) (zab (zaa 3) (zad)))) (zad))))) (some (.ref 1) :: x1 :: x2 :: some (nD kinds) :: some (nD asks) :: some (nD answers) :: y) S λv S'=>∃(n:Nat) (ps:List BF.P),v=.ref n/\S'[n]? = some (.lst (ps.map pD))/\ps.length=asks/\(∀p∈ps,p.1<kinds/\p.2<answers)/\PQ ns (c+8) S'/\Fn S S'/\S.length<=n:=by
 have sz:=zbn
 refine yfn (zas 0 asks) (λv=>∃p:BF.P,v=pD p/\p.1<kinds/\p.2<answers) (λi T=>PQ ns (c+2*i) T/\Fn S T/\S.length<=T.length) (λl=>∃x0,l=[x0,~~~1,some (nD kinds),some (nD answers)]) (zgx (n:=asks) rfl (by lia)) ⟨h,Fn.refl S,qlr _⟩ ⟨none,rfl⟩ (λ_ _ _=>rfl) (by rw [zdh];lia) ?_ ?_
 ·rintro i x l T hx ⟨x0,rfl⟩ ⟨hp,hF,hL'⟩
  have hi:=(qme hx).1
  rw [zdh] at hi
  simp only [zay,qs0,qs1]
  refine ⟨⟨_,rfl⟩,?_⟩
  simp only [za8,za3,za2,zam,qg0,qg1,zaw,nD]
  refine (zdv hp (by lia) (by lia) (by lia)).mono ?_
  rintro v T1 ⟨⟨d,rfl,hd⟩,p1,f1⟩
  refine (zdv p1 (by lia) (by lia) (by lia)).mono ?_
  rintro v T2 ⟨⟨e,rfl,he⟩,p2,f2⟩
  simp only [zc5,List.length_cons,List.length_nil]
  refine ⟨by lia,⟨(d,e),rfl,by show d<kinds;lia,by show e<answers;lia⟩,p2.mono (by lia),(hF.trans f1).trans f2,?_⟩
  have q1:=ztd f1 p1.two
  have q2:=ztd f2 p2.two
  lia
 ·rintro vs T hl hv ⟨hp,hF,hL'⟩
  obtain ⟨ps,rfl,hps⟩:=all_map (f:=pD) (V:=λp:BF.P=>p.1<kinds/\p.2<answers) hv
  rw [zdh] at hl hp
  exact ⟨_,ps,rfl,za4,by rw [<-hl,qlm],hps,(hp.mono (by lia)).gr ((Gr.refl _).push _),hF.trans (Fn.gr ((Gr.refl _).push _)),hL'⟩
def zte (kinds asks answers:Nat) (ps:List BF.P):Prop:=ps.length=asks/\∀p∈ps,p.1<kinds/\p.2<answers
def Pl (kinds asks answers b:Nat) (rf:List Nat) (T:Sto):Prop:=∀r∈rf,b<r/\∃ps,T[r]? = some (.lst (ps.map pD))/\zte kinds asks answers ps
theorem Pl.fn (h:Pl kinds asks answers b rf T) (hb:1<=b) (f:Fn T T'):Pl kinds asks answers b rf T':=λr hr=>by
 obtain ⟨h1,ps,h2,h3⟩:=h r hr
 exact ⟨h1,ps,f.at (by lia) h2,h3⟩
theorem Pl.set (h:Pl kinds asks answers b rf T) (hn:∀r∈rf,n≠r):Pl kinds asks answers b rf (T.set n o):=λr hr=>by
 obtain ⟨h1,ps,h2,h3⟩:=h r hr
 exact ⟨h1,ps,zbw h2 (hn r hr),h3⟩
theorem yi4 {ss:List Nat}(h:PQ ns c S) (hc:c+1000<100000000) (ha:asks<=4) (hk1:1<=kinds) (hk:kinds<=24) (h1:1<=answers) (h8:answers<=8)
  (q:∀x8 rf T,rf.length=kinds->T[S.length]? = some (.lst (rf.map D.ref))->Pl kinds asks answers S.length rf T->PQ ns (c+192) T->Fn S T->QS .nx (some (.ref 1) :: some (.int 24) :: some (nD many) :: some (nD kinds) :: some (nD asks) :: some (nD answers) :: some (.ref n6) :: some (.ref S.length) :: x8 :: y) T) :
  Ws (zd9 (zbj (zab (zaa 3) (zad))) (zag 8) (zb8 (zbi zb7 (zaa 7) (zab (zbd (zco (zbj (zab (zaa 4) (zad)))) [none,some 0,some 3,some 5] (zag 0) (zar) (zae zat (zab (zae zb0 (zab (zaa 1) (zab (zaa 2) (zad)))) (zab (zae zb0 (zab (zaa 1) (zab (zaa 3) (zad)))) (zad))))) zad)))) (some (.ref 1) :: some (.int 24) :: some (nD many) :: some (nD kinds) :: some (nD asks) :: some (nD answers) :: some (.ref n6) :: some (.ref S.length) :: x8 :: y) (S++[.lst []]) QS:=by
 have sz:=zbn
 have two:=h.two
 refine zia (n:=kinds) (S1:=S++[.lst []]) (λk l T=>∃x8 rf,l=(some (.ref 1) :: some (.int 24) :: some (nD many) :: some (nD kinds) :: some (nD asks) :: some (nD answers) :: some (.ref n6) :: some (.ref S.length) :: x8 :: y)/\rf.length=k/\T[S.length]? = some (.lst (rf.map D.ref))/\Pl kinds asks answers S.length rf T/\PQ ns (c+8*k) T/\Fn S T) (λ_ _=>False) rfl (by lia) ⟨x8,[],rfl,rfl,za4,(λr hr=>by cases hr),h.gr ((Gr.refl _).push _),Fn.gr ((Gr.refl _).push _)⟩ ?_ ?_ (λd l' S' z=>z.elim)
 ·rintro k l T hk' ⟨x8,rf,rfl,e1,e2,e3,e4,e5⟩
  have tl:S.length<T.length:=(qme e2).1
  simp only [zay,qs0,qs1]
  simp only [zel,zdq,zam,za3,za2,qg0,qg1,zaw]
  refine ⟨⟨_,zds e2⟩,?_⟩
  obtain ⟨v,T',e,r,ps,rfl,a1,a2,a3,a4,a5,a6⟩:=yi3 (kinds:=kinds) (asks:=asks) (answers:=answers) (x1:=some (.int 24)) (x2:=some (nD many)) (y:=some (.ref n6) :: some (.ref S.length) :: some (.int (k:Int)) :: y) e4 (by lia) ha hk1 hk h1 h8
  refine ⟨_,_,e,?_⟩
  dsimp only
  have e2':=a5.at (by lia) e2
  rw [ze7 e2' (by rw [qlm];lia)]
  refine .inl ⟨(by first|exact .inl rfl|exact .inl trivial|trivial),_,rf++[r],rfl,by rw [qla,e1];rfl,by rw [zc0 e2',List.map_append];rfl,?_,?_,?_⟩
  ·refine Pl.set (λs hs=>?_) λs hs=>?_
   ·rcases List.mem_append.mp hs with z|z
    ·exact (e3.fn (by lia) a5) s z
    ·rw [List.mem_singleton.mp z];exact ⟨by lia,ps,a1,a2,a3⟩
   ·rcases List.mem_append.mp hs with z|z
    ·have:=(e3 s z).1;lia
    ·rw [List.mem_singleton.mp z];lia
  ·obtain ⟨u,w,q1,q2,q3⟩:=a4.mono (show c+8*k+8<=c+8*(k+1) by lia)
   refine ⟨u,w,zbw q1 (by lia),?_,q3⟩
   unfold lstOf at q2 ⊢
   rw [List.getElem?_set_ne (by lia)]
   exact q2
  ·intro j o hj hs
   have hjl:=(qme hs).1
   exact zbw (a5.at hj (e5 j o hj hs)) (by lia)
 ·rintro l T ⟨x8,rf,rfl,e1,e2,e3,e4,e5⟩
  exact q x8 rf T e1 e2 e3 (e4.mono (by lia)) e5
def K2 (n:Nat) (A B:Sto):Prop:=∀(j:Nat) (o:Ob),j≠1->j≠n->A[j]? = some o->B[j]? = some o
theorem K2.trans (h:K2 n A B) (g:K2 n B C):K2 n A C:=λj o h1 h2 e=>g j o h1 h2 (h j o h1 h2 e)
theorem K2.fn (h:Fn A B):K2 n A B:=λj o h1 _ e=>h j o h1 e
theorem K2.set:K2 n A (A.set n o):=λj x _ h2 e=>zbw e (Ne.symm h2)
theorem PQ.set (h:PQ ns c A) (hn:2<=n):PQ ns c (A.set n o):=by
 obtain ⟨u,w,q1,q2,q3⟩:=h
 refine ⟨u,w,zbw q1 (by lia),?_,q3⟩
 unfold lstOf at q2 ⊢
 rw [List.getElem?_set_ne (by lia)]
 exact q2
noncomputable def skF (ss:List Nat) (k:Nat):D->Option D
 | .int i=>if ss[i.toNat]? = some k then some (.int i) else none
 | _=>none
theorem yi5 (ss:List Nat) (k:Nat) (fs:List Nat):(fs.map nD).filterMap (skF ss k)=(fs.filter λf=>decide (ss[f]? = some k)).map nD:=by
 induction fs with
 | nil=>rfl
 | cons f fs ih =>
  have e:skF ss k (nD f)=if ss[f]? = some k then some (nD f) else none:=rfl
  rw [List.map_cons]
  by_cases c:ss[f]? = some k
  ·rw [List.filterMap_cons_some (by rw [e,if_pos c]),List.filter_cons_of_pos (by simp [c]),List.map_cons,ih]
  ·rw [List.filterMap_cons_none (by rw [e,if_neg c]),List.filter_cons_of_neg (by simp [c]),ih]
noncomputable def L14 (many kinds asks answers n6 n7:Nat) (x8:Option D) (n9:Nat) (x10 x11 x12 x13:Option D):Lo:=[~~~1,some (.int 24),some (nD many),some (nD kinds),some (nD asks),some (nD answers),~~~n6,~~~n7,x8,~~~n9,x10,x11,x12,x13]
theorem yi6 (h:PQ ns c S) (hc:c+100<100000000) (hm:many<=24) (hss:Ss many kinds ss) (hkm:kinds<=many) (hk:k<kinds) (h6:S[n6]? = some (.lst (ss.map nD))) (h11:S[n11]? = some (.lst (cs.map cD))) (hcl:cs.length<1000) (h2:2<=n11)
  (q:∀x13 g T,g<many->T[n11]? = some (.lst ((cs++[(some g,some a)]).map cD))->K2 n11 S T->PQ ns (c+1) T->QS .nx (L14 many kinds asks answers n6 n7 (some (nD k)) n9 x10 (some (.ref n11)) (some (nD a)) x13) T) :
  Ws (zai (zak (zbd (zco (zbj (zab (zaa 2) (zad)))) [none,some 6,some 8] (zag 0) (tE (eOp dEq (eOp zap (zaa 1) (zaa 0)) (zaa 2))) (zaa 0)) (zag 13)) (zb8 (zbi zb7 (zaa 11) (zab (zae zat (zab (eOp zap (zaa 13) (zae zb0 (zab (zaa 0) (zab (zae zcp (zab (zaa 13) (zad))) (zad))))) (zab (zaa 12) (zad)))) zad)))) (L14 many kinds asks answers n6 n7 (some (nD k)) n9 x10 (some (.ref n11)) (some (nD a)) x13) S QS:=by
 have sz:=zbn
 have two:=h.two
 obtain ⟨fs,hfs⟩:∃fs,fs=(List.range many).filter λf=>decide (ss[f]? = some k):=⟨_,rfl⟩
 have hfl:fs.length<=many:=by
  have:=List.length_filter_le (λf=>decide (ss[f]? = some k)) (List.range many)
  rw [<-hfs,List.length_range] at this;exact this
 have hfk:k∈fs:=by rw [hfs];exact List.mem_filter.mpr ⟨List.mem_range.mpr (by lia),decide_eq_true (hss.own k hk)⟩
 have hf1:0<fs.length:=List.length_pos_of_mem hfk
 refine zax (λl T=>l=L14 many kinds asks answers n6 n7 (some (nD k)) n9 x10 (some (.ref n11)) (some (nD a)) (some (.ref S.length))/\T=S++[.lst (fs.map nD)]) ?_ ?_
 ·rw [zb4]
  refine zh9 (zas 0 many) (skF ss k) (λT'=>T' = S) (λl=>∃x0,l=[x0,~~~n6,some (nD k)]) (zgx (n:=many) rfl (by lia)) rfl ⟨none,rfl⟩ (λ_ _ _=>rfl) (by rw [zdh];lia) ?_ ?_
  ·rintro y l T' hy ⟨x0,rfl⟩ rfl
   obtain ⟨j,hj,rfl⟩:=zmg hy
   have hjs:j<ss.length:=by rw [hss.len];exact hj
   have e0:ss[j]? = some ss[j]:=qge hjs
   have ej:L2.atI (ss.map nD) (j:Int)=some (nD ss[j]):=atI_get (by rw [qgm,e0];rfl)
   have ea:skF ss k (.int (j:Int))=if ss[j]=k then some (nD j) else none:=by
    show (if ss[Int.toNat (j:Int)]? = some k then _ else _)=_
    rw [Int.toNat_natCast,e0]
    simp only [Option.some.injEq];rfl
   simp only [zay,qs0,qs1]
   refine ⟨⟨_,rfl⟩,?_⟩
   simp only [zc4,zbz,zam,qg0,qg1,zaw,zet,zca h6,zcl,ej,nD,zla,zfu]
   refine ⟨nofun,λhb=>?_,λhb=>?_⟩
   ·rw [ea,if_neg (λz=>by have:=of_decide_eq_false hb;lia)]
   ·refine ⟨?_,nofun⟩
    rw [ea,if_pos (by have:=of_decide_eq_true hb;lia)];rfl
  ·rintro T' rfl
   rw [ztc,yi5,<-hfs,zay]
   exact ⟨rfl,rfl,rfl⟩
 rintro l T ⟨rfl,rfl⟩
 unfold L14
 simp only [zel,zdq,zam,za3,za2,za8,zbz,qg0,qg1,zaw,zjt,zdk,zcl,qlm]
 refine ⟨⟨_,zds (zbe h11)⟩,?_⟩
 refine (zdv (h.gr ((Gr.refl _).push _)) (by lia) (by lia) (by lia)).mono ?_
 rintro v T ⟨⟨d,rfl,hd⟩,p,f⟩
 have hd':d<fs.length:=by lia
 have hl:T[S.length]? = some (.lst (fs.map nD)):=f.at (by lia) za4
 have e0:fs[d]? = some fs[d]:=qge hd'
 have ej:L2.atI (fs.map nD) (d:Int)=some (nD fs[d]):=atI_get (by rw [qgm,e0];rfl)
 have hg:fs[d]<many:=by
  have:∀x∈fs,x<many:=λx hx=>by
   rw [hfs] at hx
   exact List.mem_range.mp (List.mem_filter.mp hx).1
  exact this _ (qem hd')
 simp only [zet,zca hl,zcl,ej,zc5,List.length_cons,List.length_nil]
 refine ⟨by lia,?_⟩
 have h11':=f.at (by lia) (zbe (o':=.lst (fs.map nD)) h11)
 rw [ze7 h11' (by rw [qlm];lia)]
 refine q _ fs[d] _ hg ?_ ((K2.fn ((Fn.gr ((Gr.refl _).push _)).trans f)).trans K2.set) (p.set h2)
 rw [zc0 h11',List.map_append];rfl
def yi7 (many:Nat) (c:Cl):Prop:=∃g s,c=(some g,some s)/\g<many/\s<8
def zin (many asks:Nat) (cs:List Cl):Prop:=cs.length=asks/\∀c∈cs,yi7 many c
theorem K2.at (h:K2 n A B) (h1:m≠1) (h2:m≠n) (e:A[m]? = some o):B[m]? = some o:=h m o h1 h2 e
theorem yi8 (h:PQ ns c S) (hc:c+200<100000000) (hm:many<=24) (ha:asks<=4) (h8:answers<=8) (hss:Ss many kinds ss) (hkm:kinds<=many) (h6:S[n6]? = some (.lst (ss.map nD))) (h9:S[n9]? = some (.lst (rows.map rD))) (hr:S[r]? = some (.lst (ps.map pD))) (hps:zte kinds asks answers ps) (hrl:rows.length<1000) (t6:2<=n6) (t9:2<=n9) (tr:2<=r) (hrn:r≠n9) (h6n:n6≠n9)
  (he:∀x11 T,Fn S T->eR (L14 many kinds asks answers n6 n7 x8 n9 (some x10) x11 x12 x13) T=some (.ref r,T))
  (q:∀x8 x11 x12 x13 cs T,zin many asks cs->T[n9]? = some (.lst ((rows++[cs]).map rD))->K2 n9 S T->PQ ns (c+4) T->QS .nx (L14 many kinds asks answers n6 n7 x8 n9 (some x10) x11 x12 x13) T) :
  Ws (zai (zak (zae zbf (zad)) (zag 11)) (zai (zc3 eR (zcy 2 (zbl (zag 8) (zbl (zag 12) (zcv)))) (zai (zak (zbd (zco (zbj (zab (zaa 2) (zad)))) [none,some 6,some 8] (zag 0) (tE (eOp dEq (eOp zap (zaa 1) (zaa 0)) (zaa 2))) (zaa 0)) (zag 13)) (zb8 (zbi zb7 (zaa 11) (zab (zae zat (zab (eOp zap (zaa 13) (zae zb0 (zab (zaa 0) (zab (zae zcp (zab (zaa 13) (zad))) (zad))))) (zab (zaa 12) (zad)))) zad))))) (zb8 (zbi zb7 (zaa 9) (zab (zae zdp (zab (zaa 11) (zad))) zad))))) (L14 many kinds asks answers n6 n7 x8 n9 (some x10) x11 x12 x13) S QS:=by
 have sz:=zbn
 have two:=h.two
 have l9:n9<S.length:=(qme h9).1
 have l6:n6<S.length:=(qme h6).1
 have lr:r<S.length:=(qme hr).1
 have g0:Gr S (S++[.lst []]):=(Gr.refl _).push _
 refine zbv (l':=L14 many kinds asks answers n6 n7 x8 n9 (some x10) (some (.ref S.length)) x12 x13) (S':=S++[.lst []]) ⟨_,_,_,rfl,rfl,rfl,rfl⟩ ?_
 refine zax (λl T=>∃x8 x12 x13 cs,l=L14 many kinds asks answers n6 n7 x8 n9 (some x10) (some (.ref S.length)) x12 x13/\zin many asks cs/\T[S.length]? = some (.lst (cs.map cD))/\K2 S.length S T/\PQ ns (c+asks) T) ?_ ?_
 ·refine zib (n:=r) (ps.map pD) (λi l T=>∃x8 x12 x13 cs,l=L14 many kinds asks answers n6 n7 x8 n9 (some x10) (some (.ref S.length)) x12 x13/\zin many i cs/\T[S.length]? = some (.lst (cs.map cD))/\K2 S.length S T/\PQ ns (c+i) T) (λ_ _=>False) (he _ _ (Fn.gr g0)) ⟨x8,x12,x13,[],rfl,⟨rfl,λ_ z=>by cases z⟩,za4,K2.fn (Fn.gr g0),h.gr g0⟩ (λi l T ⟨_,_,_,_,_,_,_,k2,_⟩=>zca (k2.at (by lia) (by lia) hr)) ?_ ?_ (λd l' S' z=>z.elim)
  ·rintro i x l T hx ⟨x8,x12,x13,cs,rfl,⟨w1,w2⟩,t1,t2,t3⟩
   rw [qgm] at hx
   obtain ⟨p,hp,rfl⟩:=Option.map_eq_some_iff.mp hx
   obtain ⟨p1,p2⟩:=hps.2 p (qmg hp)
   have hi:=(qme hp).1
   have hpl:=hps.1
   unfold pD
   simp only [L14,zgf,zgh,zgg,zay,List.length_cons,List.length_nil,qs0,qs1]
   try refine ⟨by first|rfl|trivial,?_⟩
   refine yi6 (k:=p.1) (a:=p.2) (x10:=some x10) (x13:=x13) t3 (by lia) hm hss hkm p1 (t2.at (by lia) (by lia) h6) t1 (by lia) (by lia) ?_
   intro y13 g T' hg z1 z2 z3
   refine .inl ⟨.inl rfl,_,_,y13,cs++[(some g,some p.2)],rfl,⟨by rw [qla,w1];rfl,λc hc=>?_⟩,z1,t2.trans z2,z3⟩
   rcases List.mem_append.mp hc with z|z
   ·exact w2 c z
   ·rw [List.mem_singleton.mp z];exact ⟨g,p.2,rfl,hg,by lia⟩
  ·rintro l T ⟨x8,x12,x13,cs,rfl,w,t1,t2,t3⟩
   rw [qlm,hps.1] at w t3
   exact ⟨rfl,x8,x12,x13,cs,rfl,w,t1,t2,t3⟩
 rintro l T ⟨y8,y12,y13,cs,rfl,w,t1,t2,t3⟩
 have h9':=t2.at (by lia) (by lia) h9
 have e0:∀y,L14 many kinds asks answers n6 n7 y8 n9 (some x10) (some (.ref S.length)) y12 y13=y->Ws (zb8 (zbi zb7 (zaa 9) (zab (zae zdp (zab (zaa 11) (zad))) zad))) y T QS:=by
  rintro y rfl
  unfold L14
  simp only [zel,zdq,zam,za3,za2,za8,qg0,qg1,zaw,zhp,zca t1,zcl]
  refine ⟨⟨_,zds h9'⟩,?_⟩
  rw [ze7 h9' (by rw [qlm];lia)]
  refine q y8 _ y12 y13 cs _ w ?_ (λj o h1 h2 e=>?_) ((t3.mono (by lia)).set t9)
  ·rw [zc0 h9',List.map_append];rfl
  ·have:=(qme e).1
   exact zbw (t2.at h1 (by lia) e) (Ne.symm h2)
 exact e0 _ rfl
theorem yi9 (d:Nat) (h:(d:Int)<3):∃x:Nat,L2.atI [D.int 5,.int 24,.int 24] (d:Int)=some (.int (x:Int))/\1<=x/\x<=24:=by
 have:d=0\/d=1\/d=2:=by lia
 rcases this with rfl|rfl|rfl
 ·exact ⟨5,rfl,by decide,by decide⟩
 ·exact ⟨24,rfl,by decide,by decide⟩
 ·exact ⟨24,rfl,by decide,by decide⟩
theorem yja (d:Nat) (h:(d:Int)<4):∃x:Nat,L2.atI [D.int 2,.int 3,.int 8,.int 1] (d:Int)=some (.int (x:Int))/\1<=x/\x<=8:=by
 have:d=0\/d=1\/d=2\/d=3:=by lia
 rcases this with rfl|rfl|rfl|rfl
 ·exact ⟨2,rfl,by decide,by decide⟩
 ·exact ⟨3,rfl,by decide,by decide⟩
 ·exact ⟨8,rfl,by decide,by decide⟩
 ·exact ⟨1,rfl,by decide,by decide⟩
theorem zms (d:Nat):D.int (1+(d:Int))=nD (1+d):=by unfold nD;congr 1
theorem yjb (h:PQ ns c S) (hc:c+2000<100000000):Wo (zii [.ref 1,.int 24] S) λv S'=>∃asks rs,v=mD asks rs/\OkM asks rs/\zb1 rs=true/\An rs/\PQ ns (c+500) S'/\Fn S S':=by
 have sz:=zbn
 unfold zii zr4
 dsimp! only [zcj]
 refine zax (λl T=>∃many,1<=many/\many<=24/\l=[~~~1,some (.int 24),some (nD many),none,none,none,none,none,none,none,none,none,none,none]/\PQ ns (c+2) T/\Fn S T) ?_ ?_
 ·simp only [zb4,zbz,zcw,za8,za3,za2,zam,zho,List.length_cons,List.length_nil,qg0,qg1,zaw]
  refine ⟨by lia,?_⟩
  refine (zdv (h.gr ((Gr.refl _).push _)) (by lia) (by lia) (by lia)).mono ?_
  rintro v T ⟨⟨d,rfl,hd⟩,p,f⟩
  have two:=h.two
  have hl:lstOf T S.length=some [.int 5,.int 24,.int 24]:=f.lst (by lia) zdk
  obtain ⟨x,e,x1,x2⟩:=yi9 d hd
  simp only [zet,hl,zcl,e]
  refine (zdv p (by lia) (by lia) (by lia)).mono ?_
  rintro v T' ⟨⟨d,rfl,hd⟩,p',f'⟩
  simp only [zjy,zay,qs0,qs1,zms]
  exact ⟨nofun,1+d,by lia,by lia,rfl,p',((Fn.gr ((Gr.refl _).push _)).trans f).trans f'⟩
 rintro l S1 ⟨many,m1,m2,rfl,p1,f1⟩
 refine zax (λl T=>∃kinds,1<=kinds/\kinds<=many/\l=[~~~1,some (.int 24),some (nD many),some (nD kinds),none,none,none,none,none,none,none,none,none,none]/\PQ ns (c+3) T/\Fn S T) ?_ ?_
 ·simp only [zb4,zbz,zcw,za8,za3,za2,zam,qg0,qg1,zaw]
  unfold nD
  refine (zdv p1 (by lia) (by lia) (by lia)).mono ?_
  rintro v T' ⟨⟨d,rfl,hd⟩,p',f'⟩
  simp only [zjy,zay,qs0,qs1,zms]
  exact ⟨nofun,1+d,by lia,by lia,rfl,p',f1.trans f'⟩
 rintro l S2 ⟨kinds,k1,kk2,rfl,p2,f2⟩
 refine zax (λl T=>∃asks,1<=asks/\asks<=4/\l=[~~~1,some (.int 24),some (nD many),some (nD kinds),some (nD asks),none,none,none,none,none,none,none,none,none]/\PQ ns (c+4) T/\Fn S T) ?_ ?_
 ·simp only [zb4,zbz,zcw,za8,za3,za2,zam,qg0,qg1,zaw]
  refine (zdv p2 (by lia) (by lia) (by lia)).mono ?_
  rintro v T' ⟨⟨d,rfl,hd⟩,p',f'⟩
  simp only [zjy,zay,qs0,qs1,zms]
  exact ⟨nofun,1+d,by lia,by lia,rfl,p',f2.trans f'⟩
 rintro l S3 ⟨asks,a1,a4,rfl,p3,f3⟩
 refine zax (λl T=>∃answers,1<=answers/\answers<=8/\l=[~~~1,some (.int 24),some (nD many),some (nD kinds),some (nD asks),some (nD answers),none,none,none,none,none,none,none,none]/\PQ ns (c+5) T/\Fn S T) ?_ ?_
 ·simp only [zb4,zbz,zcw,za8,za3,za2,zam,zho,List.length_cons,List.length_nil,qg0,qg1,zaw]
  refine ⟨by lia,?_⟩
  refine (zdv (p3.gr ((Gr.refl _).push _)) (by lia) (by lia) (by lia)).mono ?_
  rintro v T ⟨⟨d,rfl,hd⟩,p,f⟩
  have two:=p3.two
  have hl:lstOf T S3.length=some [.int 2,.int 3,.int 8,.int 1]:=f.lst (by lia) zdk
  obtain ⟨x,e,x1,x2⟩:=yja d hd
  simp only [zet,hl,zcl,e,zay,qs0,qs1]
  exact ⟨nofun,x,x1,x2,rfl,p,f3.trans ((Fn.gr ((Gr.refl _).push _)).trans f)⟩
 rintro l S4 ⟨answers,b1,b8,rfl,p4,f4⟩
 refine zax (λl T=>∃n6 ss,Ss many kinds ss/\T[n6]? = some (.lst (ss.map nD))/\2<=n6/\l=[~~~1,some (.int 24),some (nD many),some (nD kinds),some (nD asks),some (nD answers),~~~n6,none,none,none,none,none,none,none]/\PQ ns (c+29) T/\Fn S T) ?_ ?_
 ·rw [zb4]
  obtain ⟨v,T,e,n6,ss,rfl,q1,q2,q3,q4,q5⟩:=yi2 (many:=many) (kinds:=kinds) (y:=[some (nD asks),some (nD answers),none,none,none,none,none,none,none,none]) p4 (by lia) m2 k1 kk2
  refine ⟨_,_,e,?_⟩
  simp only [zay,qs0,qs1]
  exact ⟨nofun,n6,ss,q2,q1,q5,rfl,q3,f4.trans q4⟩
 rintro l S5 ⟨n6,ss,hss,h6,t6,rfl,p5,f5⟩
 refine zbv (l':=[~~~1,some (.int 24),some (nD many),some (nD kinds),some (nD asks),some (nD answers),~~~n6,some (.ref S5.length),none,none,none,none,none,none]) (S':=S5++[.lst []]) ⟨_,_,_,rfl,rfl,rfl,rfl⟩ ?_
 have two:=p5.two
 refine zax (λl T=>∃x8 rf,rf.length=kinds/\T[S5.length]? = some (.lst (rf.map D.ref))/\Pl kinds asks answers S5.length rf T/\l=[~~~1,some (.int 24),some (nD many),some (nD kinds),some (nD asks),some (nD answers),~~~n6,some (.ref S5.length),x8,none,none,none,none,none]/\PQ ns (c+221) T/\Fn S5 T) ?_ ?_
 ·refine yi4 (many:=many) (n6:=n6) (ss:=ss) p5 (by lia) a4 k1 (by lia) b1 b8 ?_
  intro x8 rf T z1 z2 z3 z4 z5
  exact ⟨rfl,x8,rf,z1,z2,z3,rfl,z4,z5⟩
 rintro l S6 ⟨x8,rf,hrf,h7,pl,rfl,p6,f6⟩
 have h6':=f6.at (by lia) h6
 have l6:n6<S6.length:=(qme h6').1
 have l7:S5.length<S6.length:=(qme h7).1
 have g6:Gr S6 (S6++[.lst []]):=(Gr.refl _).push _
 have f06:=f5.trans f6
 refine zbv (l':=L14 many kinds asks answers n6 S5.length x8 S6.length none none none none) (S':=S6++[.lst []]) ⟨_,_,_,rfl,rfl,rfl,rfl⟩ ?_
 refine zax (λl T=>∃x8 x10 x11 x12 x13,∃rows:List (List Cl),l=L14 many kinds asks answers n6 S5.length x8 S6.length x10 x11 x12 x13/\rows.length=many/\(∀cs∈rows,zin many asks cs)/\T[S6.length]? = some (.lst (rows.map rD))/\K2 S6.length S6 T/\PQ ns (c+400) T) ?_ ?_
 ·refine zib (n:=n6) (ss.map nD) (λi l T=>∃x8 x10 x11 x12 x13,∃rows:List (List Cl),l=L14 many kinds asks answers n6 S5.length x8 S6.length x10 x11 x12 x13/\rows.length=i/\(∀cs∈rows,zin many asks cs)/\T[S6.length]? = some (.lst (rows.map rD))/\K2 S6.length S6 T/\PQ ns (c+221+4*i) T) (λ_ _=>False) rfl ⟨x8,none,none,none,none,[],rfl,rfl,(λ_ z=>by cases z),za4,K2.fn (Fn.gr g6),p6.gr g6⟩ (λi l T ⟨_,_,_,_,_,_,_,_,_,_,k2,_⟩=>zca (k2.at (by lia) (by lia) h6')) ?_ ?_ (λd l' S' z=>z.elim)
  ·rintro i x l T hx ⟨x8,x10,x11,x12,x13,rows,rfl,w1,w2,t9,k2,p⟩
   rw [qgm] at hx
   obtain ⟨s,hs,rfl⟩:=Option.map_eq_some_iff.mp hx
   have hsk:=hss.lt s (qmg hs)
   have hi:=(qme hs).1
   rw [hss.len] at hi
   have hsr:s<rf.length:=by lia
   have er:rf[s]? = some rf[s]:=qge hsr
   obtain ⟨q1,ps,q2,q3⟩:=pl rf[s] (qem hsr)
   have lr:rf[s]<S6.length:=(qme q2).1
   have ej:L2.atI (rf.map D.ref) (s:Int)=some (.ref rf[s]):=atI_get (by rw [qgm,er];rfl)
   have h7':=k2.at (by lia) (by lia) h7
   simp only [L14,zay,qs0,qs1]
   refine yi8 (n7:=S5.length) (r:=rf[s]) (ps:=ps) (x10:=nD s) p (by lia) m2 a4 b8 hss kk2 (k2.at (by lia) (by lia) h6') t9 (k2.at (by lia) (by lia) q2) q3 (by lia) t6 (by lia) (by lia) (by lia) (by lia) ?_ ?_
   ·intro y11 T' fT'
    apply zmo
    simp only [L14,zbz,zam,qg0,qg1,zaw,zet,zca (fT'.at (by lia) h7'),zcl,nD,ej]
    exact ⟨nofun,nofun⟩
   ·intro y8 y11 y12 y13 cs T' z1 z2 z3 z4
    refine .inl ⟨.inl rfl,_,_,_,_,_,rows++[cs],rfl,by rw [qla,w1];rfl,λcs' hcs=>?_,z2,k2.trans z3,z4.mono (by lia)⟩
    rcases List.mem_append.mp hcs with z|z
    ·exact w2 cs' z
    ·rw [List.mem_singleton.mp z];exact z1
  ·rintro l T ⟨x8,x10,x11,x12,x13,rows,rfl,w1,w2,t9,k2,p⟩
   rw [qlm,hss.len] at w1 p
   exact ⟨rfl,_,_,_,_,_,rows,rfl,w1,w2,t9,k2,p.mono (by lia)⟩
 rintro l T ⟨y8,y10,y11,y12,y13,rows,rfl,w1,w2,t9,k2',p⟩
 unfold L14
 simp only [zfn,za8,za3,za2,zam,qg0,qg1,zaw,zhp,zca t9,zcl,zc5,List.length_cons,List.length_nil]
 refine ⟨by lia,asks,rows,rfl,⟨a1,a4,by lia,by lia,λcs hcs=>(w2 cs hcs).1,λcs hcs c hc' g hg=>?_⟩,?_,λcs hcs c hc' s hs=>?_,p.mono (by lia),λj o h1 e=>?_⟩
 ·obtain ⟨g',s',rfl,q1,q2⟩:=(w2 cs hcs).2 c hc'
  cases hg;lia
 ·unfold zb1
  rw [List.all_eq_true]
  intro cs hcs
  rw [List.all_eq_true]
  intro c hc'
  obtain ⟨g',s',rfl,q1,q2⟩:=(w2 cs hcs).2 c hc'
  rfl
 ·obtain ⟨g',s',rfl,q1,q2⟩:=(w2 cs hcs).2 c hc'
  cases hs;lia
 ·have e6:=f06 j o h1 e
  have:=(qme e6).1
  exact k2'.at h1 (by lia) e6
noncomputable def put {α:Type}(xs:List α) (i:Nat) (x:α):List α:=xs.take i++[x]++xs.drop (i+1)
theorem ztf {α:Type}{xs:List α}{i:Nat}{x:α}(h:i<xs.length):(put xs i x).length=xs.length:=by
 unfold put
 rw [qla,qla,List.length_take,List.length_drop,List.length_singleton];lia
theorem zio {α:Type}{xs:List α}{i:Nat}{x y:α}(h:y∈put xs i x):y∈xs\/y=x:=by
 unfold put at h
 rcases List.mem_append.mp h with h|h
 ·rcases List.mem_append.mp h with h|h
  ·exact .inl (List.mem_of_mem_take h)
  ·exact .inr (List.mem_singleton.mp h)
 ·exact .inl (List.mem_of_mem_drop h)
theorem ztg {α β:Type}(f:α->β) (xs:List α) (i:Nat) (x:α):(put xs i x).map f=put (xs.map f) i (f x):=by
 unfold put
 rw [List.map_append,List.map_append,List.map_take,List.map_drop];rfl
theorem zth {α:Type}(xs:List α) (i:Nat) (x:α):x∈put xs i x:=by unfold put;simp
theorem yjc (c:Cl) (w:Nat) (h:w<3):∃d:Cl,L2.atI [D.tup [.non,oD c.2],.tup [oD c.1,.non],.tup [.non,.non]] (w:Int)=some (cD d)/\cB d=false/\(∀g,d.1=some g->c.1=some g)/\∀s,d.2=some s->c.2=some s:=by
 have:w=0\/w=1\/w=2:=by lia
 rcases this with rfl|rfl|rfl
 ·exact ⟨(none,c.2),rfl,rfl,(λg z=>by cases z),λs z=>z⟩
 ·exact ⟨(c.1,none),rfl,(by unfold cB both;cases c.1 <;> rfl),λg z=>z,λs z=>by cases z⟩
 ·exact ⟨(none,none),rfl,rfl,(λg z=>by cases z),λs z=>by cases z⟩
theorem yjd {asks w sp:Nat}{rs:List (List Cl)}{S:Sto}(ok:OkM asks rs) (an:An rs) (hw:w<3) (hsp:sp<96):Wo (zih [mD asks rs,.int (w:Int),.int (sp:Int)] S) λv S'=>∃rs',v=mD asks rs'/\OkM asks rs'/\zb1 rs' = false/\An rs'/\Gr S S':=by
 have sz:=zbn
 have r24:=ok.r24
 have r1:=ok.r1
 have a4:=ok.a4
 have a1:=ok.a1
 unfold zih zr2
 dsimp! only [zcj]
 refine zbv (l':=[some (mD asks rs),‹w›,‹sp›,‹asks›,some (.tup (rs.map rD)),none,none,none,none,none,none]) (S':=S) ?_ ?_
 ·unfold mD
  simp! only [and_self]
 refine zax (λl T=>∃r:Nat,r<rs.length/\l=[some (mD asks rs),‹w›,‹sp›,‹asks›,some (.tup (rs.map rD)),‹r›,none,none,none,none,none]/\T=S) ?_ ?_
 ·have f1:(0:Int)<(rs.length:Int)/\(rs.length:Int)<1073741824:=by lia
  have f2:=Int.emod_nonneg (sp:Int) (show (rs.length:Int)≠0 by lia)
  have f3:=Int.emod_lt_of_pos (sp:Int) f1.1
  simp! only [qlm,f1,true_and,and_true,and_self]
  exact ⟨((sp:Int) % (rs.length:Int)).toNat,by lia,by rw [Int.toNat_of_nonneg f2]⟩
 rintro l T ⟨r,hr,rfl,rfl⟩
 refine zax (λl T'=>∃a:Nat,a<asks/\l=[some (mD asks rs),‹w›,‹sp›,‹asks›,some (.tup (rs.map rD)),‹r›,‹a›,none,none,none,none]/\T' = T) ?_ ?_
 ·have f1:(0:Int)<(rs.length:Int)/\(rs.length:Int)<1073741824:=by lia
  have f4:(0:Int)<(asks:Int)/\(asks:Int)<1073741824:=by lia
  have f2:=Int.emod_nonneg ((sp:Int) / (rs.length:Int)) (show (asks:Int)≠0 by lia)
  have f3:=Int.emod_lt_of_pos ((sp:Int) / (rs.length:Int)) f4.1
  simp! only [qlm,f1,f4,true_and,and_true,and_self]
  exact ⟨((sp:Int) / (rs.length:Int) % (asks:Int)).toNat,by lia,by rw [Int.toNat_of_nonneg f2]⟩
 rintro l T' ⟨a,ha,rfl,rfl⟩
 obtain ⟨cs,h1,h2,h3,h4⟩:=zij ok hr ha
 have hcl:=ok.len cs h3
 have e1:L2.atI (rs.map rD) (r:Int)=some (.tup (cs.map cD)):=atI_get (by rw [qgm,h1];rfl)
 have e2:L2.atI (cs.map cD) (a:Int)=some (.tup [oD (cell rs r a).1,oD (cell rs r a).2]):=atI_get (by rw [qgm,h2];rfl)
 refine zbv (l':=[some (mD asks rs),‹w›,‹sp›,‹asks›,some (.tup (rs.map rD)),‹r›,‹a›,some (oD (cell rs r a).1),some (oD (cell rs r a).2),none,none]) (S':=T') ?_ ?_
 ·simp! only [e1,e2,and_self]
 obtain ⟨d,d1,d2,d3,d4⟩:=yjc (cell rs r a) w hw
 refine zax (λl T=>l=[some (mD asks rs),‹w›,‹sp›,‹asks›,some (.tup (rs.map rD)),‹r›,‹a›,some (oD (cell rs r a).1),some (oD (cell rs r a).2),some (cD d),none]/\Gr T' T) ?_ ?_
 ·have z2:2<=sizeLine:=by lia
  have z3:3<=sizeLine:=by lia
  simp! only [z2,z3,true_and,d1,and_true,and_self]
  exact ⟨_,rfl⟩
 rintro l T ⟨rfl,g⟩
 have ez:((a:Int)+1)=((a+1:Nat):Int):=by lia
 have er:((r:Int)+1)=((r+1:Nat):Int):=by lia
 refine zbv (l':=[some (mD asks rs),‹w›,‹sp›,‹asks›,some (.tup (rs.map rD)),‹r›,‹a›,some (oD (cell rs r a).1),some (oD (cell rs r a).2),some (cD d),some (rD (put cs a d))]) (S':=T) ?_ ?_
 ·have q1:((cs.map cD).take a).length+1<=sizeLine:=by rw [List.length_take,qlm];lia
  have q2:((cs.map cD).take a++[cD d]).length+((cs.map cD).drop (a+1)).length<=sizeLine:=by rw [qla,List.length_take,List.length_drop,qlm,List.length_singleton];lia
  have z1:1<=sizeLine:=by lia
  have q3:(cs.map cD).take a++[cD d]++(cs.map cD).drop (a+1)=(put cs a d).map cD:=by rw [ztg];rfl
  have q4:D.tup ((put cs a d).map cD)=rD (put cs a d):=rfl
  simp! only [e1,ez,zrj,zrk,q1,q2,q3,q4,z1,true_and,and_self]
 have q1:((rs.map rD).take r).length+1<=sizeLine:=by rw [List.length_take,qlm];lia
 have q2:((rs.map rD).take r++[rD (put cs a d)]).length+((rs.map rD).drop (r+1)).length<=sizeLine:=by rw [qla,List.length_take,List.length_drop,qlm,List.length_singleton];lia
 have z1:1<=sizeLine:=by lia
 have z2:2<=sizeLine:=by lia
 have q3:(rs.map rD).take r++[rD (put cs a d)]++(rs.map rD).drop (r+1)=(put rs r (put cs a d)).map rD:=by rw [ztg];rfl
 simp! only [er,zrj,zrk,q1,q2,q3,z1,z2,true_and]
 have pl:(put rs r (put cs a d)).length=rs.length:=ztf hr
 refine ⟨put rs r (put cs a d),rfl,⟨a1,a4,by lia,by lia,λu hu=>?_,λu hu v hv g' hg=>?_⟩,?_,λu hu v hv s hs=>?_,g⟩
 ·rcases zio hu with z|rfl
  ·exact ok.len u z
  ·rw [ztf (by lia),hcl]
 ·rw [pl]
  rcases zio hu with z|rfl
  ·exact ok.go u z v hv g' hg
  ·rcases zio hv with y|rfl
   ·exact ok.go cs h3 v y g' hg
   ·exact ok.go cs h3 _ h4 g' (d3 g' hg)
 ·refine Bool.eq_false_iff.mpr λz=>?_
  have:=List.all_eq_true.mp (List.all_eq_true.mp z _ (zth rs r (put cs a d))) _ (zth cs a d)
  rw [d2] at this;cases this
 ·rcases zio hu with z|rfl
  ·exact an u z v hv s hs
  ·rcases zio hv with y|rfl
   ·exact an cs h3 v y s hs
   ·exact an cs h3 _ h4 s (d4 s hs)
theorem yje (h1:mN l S=none) (h2:r l S=some (c,S')) (hc:ok c=true) (h:Ws mS (l.set i (some (.ref S'.length))) (S'++[.exc c]) λf l2 S2=>f=.nx/\Q .nx (l2.set i none) S2):Ws (zhy i ok mN r mS) l S Q:=by
 obtain ⟨f,l2,S2,e,rfl,q⟩:=h
 refine ⟨.nx,l2.set i none,S2,?_,q⟩
 unfold zhy
 rw [h1]
 dsimp only
 rw [h2]
 dsimp only
 rw [if_pos hc,e];rfl
theorem zti (h:S[n]? = some (.exc c)) (hb:tab.lookup c=some b):Wo (zb9 tab (.ref n) S) Q=Q (.bl b) S:=by
 unfold zb9
 simp only [h,hb]
 exact zbq
noncomputable abbrev UN:Str:="full"
noncomputable def fg (w:Str) (b:Bool):D:=.tup [.str w,.bl b]
theorem yjf (h:S[n]? = some (.exc "NotFull")):Wo (zie [.ref n] S) λv S'=>Gr S S'/\∃k,v=.ref k/\S'[k]? = some (.lst [.str UN]):=by
 have sz:=zbn
 have s2:2<=sizeLine:=by lia
 have tF:List.lookup ("NotFull":Str) [(("NotFull":Str),false)]=some false:=by simp [List.lookup]
 have tT:List.lookup ("NotFull":Str) [(("NotFull":Str),true)]=some true:=by simp [List.lookup]
 have iF:∀{S':Sto} {Q:D->Sto->Prop},Gr S S'->Wo (zb9 [(("NotFull":Str),false)] (.ref n) S') Q=Q (.bl false) S':=λg=>zti (g.get h) tF
 have iT:∀{S':Sto} {Q:D->Sto->Prop},Gr S S'->Wo (zb9 [(("NotFull":Str),true)] (.ref n) S') Q=Q (.bl true) S':=λg=>zti (g.get h) tT
 unfold zie zry
 dsimp! only [zcj]
 refine zax (λl S'=>∃m,l=[~~~n,~~~m]/\Gr S S'/\S'[m]? = some (.lst [fg "many" false,fg "closed" false])) ?_ ?_
 ·simp! only [iF (.refl S),s2,true_and]
  exact ⟨_,rfl,(Gr.refl S).push _,za4⟩
 rintro l S1 ⟨m1,rfl,g1,h1⟩
 refine zax (λl S'=>∃m,l=[~~~n,~~~m]/\Gr S S'/\S'[m]? = some (.lst [fg "many" false,fg "closed" false,fg "unlike" false,fg "full" true])) ?_ ?_
 ·simp! only [iF g1,iT g1,s2,true_and]
  rw [zgy (zbe h1) za4]
  refine ⟨by show 2+2<=sizeLine;lia,?_⟩
  exact ⟨_,rfl,(g1.push _).push _,za4⟩
 rintro l S2 ⟨m2,rfl,g2,h2⟩
 refine zax (λl S'=>∃m,l=[~~~n,~~~m]/\Gr S S'/\S'[m]? = some (.lst [fg "many" false,fg "closed" false,fg "unlike" false,fg "full" true,fg "unreached" false,fg "clash" false])) ?_ ?_
 ·simp! only [iF g2,iT g2,s2,true_and]
  rw [zgy (zbe h2) za4]
  refine ⟨by show 4+2<=sizeLine;lia,?_⟩
  exact ⟨_,rfl,(g2.push _).push _,za4⟩
 rintro l S3 ⟨m3,rfl,g3,h3⟩
 refine zax (λl S'=>∃m,l=[~~~n,~~~m]/\Gr S S'/\S'[m]? = some (.lst [fg "many" false,fg "closed" false,fg "unlike" false,fg "full" true,fg "unreached" false,fg "clash" false,fg "words" false,fg "open" false])) ?_ ?_
 ·simp! only [iF g3,iT g3,s2,true_and]
  rw [zgy (zbe h3) za4]
  refine ⟨by show 6+2<=sizeLine;lia,?_⟩
  exact ⟨_,rfl,(g3.push _).push _,za4⟩
 rintro l S4 ⟨m4,rfl,g4,h4⟩
 refine zax (λl S'=>∃m,l=[~~~n,~~~m]/\Gr S S'/\S'[m]? = some (.lst [fg "many" false,fg "closed" false,fg "unlike" false,fg "full" true,fg "unreached" false,fg "clash" false,fg "words" false,fg "open" false,fg "back" false,fg "text" false])) ?_ ?_
 ·simp! only [iF g4,iT g4,s2,true_and]
  rw [zgy (zbe h4) za4]
  refine ⟨by show 8+2<=sizeLine;lia,?_⟩
  exact ⟨_,rfl,(g4.push _).push _,za4⟩
 rintro l S5 ⟨m5,rfl,g5,h5⟩
 refine zax (λl S'=>∃m,l=[~~~n,~~~m]/\Gr S S'/\S'[m]? = some (.lst [fg "many" false,fg "closed" false,fg "unlike" false,fg "full" true,fg "unreached" false,fg "clash" false,fg "words" false,fg "open" false,fg "back" false,fg "text" false,fg "name" false,fg "line" false])) ?_ ?_
 ·simp! only [iF g5,iT g5,s2,true_and]
  rw [zgy (zbe h5) za4]
  refine ⟨by show 10+2<=sizeLine;lia,?_⟩
  exact ⟨_,rfl,(g5.push _).push _,za4⟩
 rintro l S6 ⟨m6,rfl,g6,h6⟩
 have hcomp:∀Q:D->Sto->Prop,(∀S',Gr S6 S'->S'[S6.length]? = some (.lst [.str UN])->Q (.ref S6.length) S')->We (zbd (zcd (zaa 1)) [none,none] (zcy 2 (zbl (zag 0) (zbl (zag 1) (zcv)))) (tE (zaa 1)) (zaa 0)) [~~~n,~~~m6] S6 Q:=by
  intro Q hQ
  refine zh9 [fg "many" false,fg "closed" false,fg "unlike" false,fg "full" true,fg "unreached" false,fg "clash" false,fg "words" false,fg "open" false,fg "back" false,fg "text" false,fg "name" false,fg "line" false] (λd=>match d with | .tup [x,.bl true]=>some x|_=>none) (λS'=>S' = S6) (λl=>∃x0 x1,l=[x0,x1]) (zjw (n:=m6) rfl (zg3 h6)) rfl ⟨_,_,rfl⟩ (λi S' hS=>by rw [hS];exact zjx (zg3 h6)) (by show 12<=sizeLine;lia) ?_ ?_
  ·rintro x l S' hx ⟨x0,x1,rfl⟩ rfl
   have hx:∃w b,x=fg w b:=by
    simp only [List.mem_cons,List.not_mem_nil,or_false] at hx
    rcases hx with rfl|rfl|rfl|rfl|rfl|rfl|rfl|rfl|rfl|rfl|rfl|rfl <;> exact ⟨_,_,rfl⟩
   obtain ⟨w,b,rfl⟩:=hx
   simp only [fg,zgf,zgh,zgg,zay,List.length_cons,List.length_nil,qs0,qs1]
   refine ⟨nofun,⟨_,_,rfl⟩,?_⟩
   simp only [zc4,zam,qg0,qg1,zaw]
   refine ⟨b,rfl,nofun,λhb=>by subst hb;rfl,λhb=>?_⟩
   subst hb
   exact ⟨rfl,nofun⟩
  ·rintro S' rfl
   exact hQ _ ⟨_,rfl⟩ za4
 rw [zfn,zbz]
 refine hcomp _ λS7 g7 h7=>?_
 have g67:=g6.trans g7
 simp only [zbz,za8,za3,za2,zcw,zho,List.length_cons,List.length_nil,zo8,zo6,zam,qg0,qg1,zaw]
 refine ⟨by lia,?_⟩
 rw [iT (g67.push _)]
 simp only [zfu,Bool.not_true,zre,qbf,if_false]
 have e:zgj (.ref S7.length) (.int 0) (S7++[.lst [.str "no value"]])=some (.ref (S7++[Ob.lst [.str "no value"]]).length,S7++[.lst [.str "no value"]]++[.lst []]):=by
  unfold zgj
  dsimp only
  rw [za4]
  dsimp only
  rw [if_pos ⟨by decide,by decide,by decide⟩]
  rfl
 rw [e,zbq]
 rw [zgy (zbe (zbe h7)) za4]
 refine ⟨by show 1+0<=sizeLine;lia,?_⟩
 exact ⟨((g67.push _).push _).push _,_,rfl,za4⟩
theorem yjg (h:OkM asks rs) (hf:zb1 rs=false):Wo (zfw [mD asks rs] S) λv S'=>Gr S S'/\∃k,v=.ref k/\S'[k]? = some (.lst [.str UN]):=by
 obtain ⟨h1,S2,h2,g2⟩:=yie (S:=S) h hf
 unfold zfw zrz
 dsimp! only [zcj]
 refine zbv (l':=[some (mD asks rs),some .non,none]) (S':=S) (by simp! only [zam];exact ⟨nofun,nofun,nofun⟩) ?_
 refine zax (λl S'=>∃n,S'[n]? = some (.exc "NotFull")/\Gr S S'/\l=[some (mD asks rs),~~~n,none]) ?_ ?_
 ·refine yje (c:="NotFull") (S':=S2) ?_ (show zg2 [mD asks rs] S=_ from h2) (by decide +kernel) ?_
  ·show (zdu [mD asks rs] S).bind _=_
   rw [h1];rfl
  ·simp! only [zam]
   exact ⟨nofun,nofun,_,za4,g2.push _,rfl⟩
 rintro l S3 ⟨n,hn,g3,rfl⟩
 simp! only [zd6,qbf,if_false]
 refine (yjf hn).mono ?_
 rintro v S' ⟨g4,r⟩
 exact ⟨g3.trans g4,r⟩
theorem ztj (h:∀x,o=some x->x<1000):Sh S (k+1) 10 (oD o):=by
 cases o with
 | none=>exact yfw
 | some x=>exact zl4 (by have:=h x rfl;lia)
theorem ztk (ok:OkM A g) (an:An g):Sh S (k+5) 6000 (mD A g):=by
 have r24:=ok.r24
 have a4:=ok.a4
 have hk:∀cs∈g,∀c∈cs,Sh S (k+2) 27 (cD c):=λcs hcs c hc=>by
  refine (zgz (B:=10) (n:=2) (λx hx=>?_) (qlr _)).le (by decide)
  simp only [List.mem_cons,List.not_mem_nil,or_false] at hx
  rcases hx with rfl|rfl
  ·exact ztj λx hx=>by have:=ok.go cs hcs c hc x hx;lia
  ·exact ztj λx hx=>by have:=an cs hcs c hc x hx;lia
 have hr:∀cs∈g,Sh S (k+3) 119 (rD cs):=λcs hcs=>by
  refine (zgz (B:=27) (n:=4) (λx hx=>?_) (by rw [qlm,ok.len cs hcs];exact a4)).le (by decide)
  obtain ⟨c,hc,rfl⟩:=List.mem_map.mp hx
  exact hk cs hcs c hc
 have hg:Sh S (k+4) 2910 (.tup (g.map rD)):=by
  refine (zgz (B:=119) (n:=24) (λx hx=>?_) (by rw [qlm];exact r24)).le (by decide)
  obtain ⟨cs,hc,rfl⟩:=List.mem_map.mp hx
  exact hr cs hc
 refine (zgz (B:=2910) (n:=2) (λx hx=>?_) (qlr _)).le (by decide)
 simp only [List.mem_cons,List.not_mem_nil,or_false] at hx
 rcases hx with rfl|rfl
 ·exact (zl4 (by lia)).le (by decide)
 ·exact hg
theorem ztl (h:zan S 140 x=some p\/pyT S 140 x=some p) (hz:p.shown.length<=sizeLine):Wo (zdj [x] S) Q=Q (.str p.shown) S:=by
 have:Wo (zfp [x] S) λv S'=>v=.str p.shown/\S' = S:=by rw [yba h hz];exact ⟨rfl,rfl⟩
 obtain ⟨v,S',e,rfl,rfl⟩:=this
 have:zdj [x] S' = some (.str p.shown,S'):=by unfold zdj;rw [e]
 rw [this,zbq]
theorem yjh (ok:OkM A g) (an:An g) (ok':OkM A g') (an':An g'):∃z:Str,∀(T:Sto) (Q:D->Sto->Prop),Wo (zdj [.tup [mD A g,mD A g']] T) Q=Q (.str z) T:=by
 have sz:=zbn
 obtain ⟨p,h1,h2⟩:=zgz (S:=[]) (k:=139) (B:=6000) (n:=2) (xs:=[mD A g,mD A g']) (λx hx=>by
  simp only [List.mem_cons,List.not_mem_nil,or_false] at hx
  rcases hx with rfl|rfl
  ·exact ztk (k:=134) ok an
  ·exact ztk (k:=134) ok' an') (by simp)
 exact ⟨p.shown,λT Q=>ztl (.inl (h2 T ⟨T,rfl⟩)) (by lia)⟩
noncomputable def zL (h:Nat->Nat) (r:Nat):Str:=(PyData.list ((zba h r).map λf=>.tuple ((lot h r f).map pyN))).shown
theorem ztm (hn:T[n]? = some (.lst (zcg h r))) (hr:r<=24):Wo (zdj [.ref n] T) Q=Q (.str (zL h r)) T:=by
 have sz:=zbn
 have e2:zan T 140 (.ref n)=some (.list ((zba h r).map λf=>.tuple ((lot h r f).map pyN))):=by
  unfold zan
  rw [zca hn]
  have:pyAll T 139 (zcg h r)=some ((zba h r).map λf=>.tuple ((lot h r f).map pyN)):=by
   unfold zcg
   refine zim λf hf=>?_
   unfold zan
   rw [zim (f:=nD) (g:=pyN) (xs:=lot h r f) (k:=138) λj hj=>zs3 (by have:=(mem_lot.mp hj).1;lia)];rfl
  show (pyAll T 139 (zcg h r)).bind _=_
  rw [this];rfl
 obtain ⟨p,h1,h3⟩:=yfv (S:=T) (k:=139) (B:=291) (n:=24) (zca hn) (λx hx=>by
  obtain ⟨f,hf,rfl⟩:=List.mem_map.mp hx
  refine (zgz (k:=138) (B:=10) (n:=24) (λy hy=>?_) (by rw [qlm];have:=zsz h r f;lia)).le (by decide)
  obtain ⟨j,hj,rfl⟩:=List.mem_map.mp hy
  exact zl4 (by have:=(mem_lot.mp hj).1;lia)) (by unfold zcg;rw [qlm];have:=zil h r;lia)
 have:=h3 T (Gr.refl T)
 rw [e2] at this
 cases this
 exact ztl (.inl e2) (by lia)
theorem yji (h1:zan S 60 x=some p) (h2:zan S 60 y=some q) (c1:p.canLay0=true) (c2:q.canLay0=true):Wo (ze1 x y S) Q=Q (.bl (!p.eqv q)) S:=by
 have:ze1 x y S=some (.bl (!p.eqv q),S):=by unfold ze1;rw [h1];show (zan S 60 y).bind _=_;rw [h2];show (if _ then _ else _)=_;rw [if_pos ⟨c1,c2⟩]
 rw [this];exact zbq
theorem ztn (h:S[n]? = some (.lst [.str UN])):zan S (k+2) (.ref n)=some (.list [.str UN]):=by
 unfold zan
 rw [zg3 h]
 show (pyAll S (k+1) [.str UN]).bind _=_
 have:pyAll S (k+1) [.str UN]=some [.str UN]:=by
  unfold pyAll
  have e:zan S (k+1) (.str UN)=some (.str UN):=by unfold zan;rfl
  rw [e]
  show (pyAll S (k+1) []).bind _=_
  unfold pyAll;rfl
 rw [this];rfl
theorem zto:Wo (zea x (.bl b) S) Q=Q (.bl (!zlf b x)) S:=by cases x <;> exact zbq
theorem yjj (h1:S[n]? = some (.lst xs)):Wo (zex (.ref n) [] S) Q=Q .non (S.set n (.lst xs.reverse)):=by
 have:zex (.ref n) [] S=some (.non,S.set n (.lst xs.reverse)):=by unfold zex;dsimp only;rw [h1]
 rw [this];exact zbq
theorem ztp (h:OkM asks rs):Wo (zcf [mD asks rs] S) λv S'=>v=.bl (zb1 rs)/\Gr S S':=by
 obtain ⟨S',e,g⟩:=zsx (S:=S) h
 exact ⟨_,S',e,rfl,g⟩
noncomputable def L11 (u w sp asks:Nat) (rs rs':List (List Cl)) (z:Str) (n8:Nat) (x9 x10:Option D):Lo:=[~~~0,~~~1,‹u›,‹w›,‹sp›,some (mD asks rs),some (mD asks rs'),some (.str z),~~~n8,x9,x10]
theorem yjk (ok:OkM asks rs) (hf:zb1 rs=true) (ok':OkM asks rs') (hf':zb1 rs' = false) :
  Wt (zdn (tE (eOp zea (zae zcf (zab (zaa 5) (zad))) (eC (.bl true)))) (zdn (tE (eOp zea (zae zcf (zab (zaa 6) (zad))) (eC (.bl false)))) (tE (eOp ze1 (zae zfw (zab (zaa 6) (zad))) (zae zbf (zab (eC (.str "full")) (zad))))))) (L11 u w sp asks rs rs' z n8 x9 x10) S λb S'=>b=false/\Gr S S':=by
 have sz:=zbn
 unfold L11
 simp only [zo7,zc4,zbz,za8,za3,za2,zam,zcw,qg0,qg1,zaw]
 refine (ztp ok).mono ?_
 rintro v S1 ⟨rfl,g1⟩
 rw [zto,hf]
 refine ⟨false,rfl,?_⟩
 rw [if_neg (by decide)]
 refine (ztp ok').mono ?_
 rintro v S2 ⟨rfl,g2⟩
 rw [zto,hf']
 refine ⟨false,rfl,?_⟩
 rw [if_neg (by decide)]
 refine (yjg ok' hf').mono ?_
 rintro v S3 ⟨g3,k,rfl,hk⟩
 simp only [zho,List.length_cons,List.length_nil]
 refine ⟨by lia,?_⟩
 have hk2:(S3++[Ob.lst [.str UN]])[S3.length]? = some (.lst [.str UN]):=za4
 have lay:(PyData.list [.str UN]).canLay0=true:=by
  rw [PyData.canLay0]
  have:PyData.strOk UN=true:=by decide +kernel
  simp [PyData.canLayAll0,PyData.canLay0,this]
 have hq:(PyData.list [.str UN]).eqv (.list [.str UN])=true:=by
  rw [PyData.eqv]
  simp [PyData.eqvAll,PyData.eqv]
 rw [yji (ztn (k:=58) (zbe hk)) (ztn (k:=58) hk2) lay lay,hq]
 exact ⟨false,rfl,rfl,((g1.trans g2).trans g3).push _⟩
theorem yjl (ok:OkM asks rs) (an:An rs) (hf:zb1 rs=true) (ok':OkM asks rs') (hf':zb1 rs' = false) (h8:S[n8]? = some (.lst (zcg (hh asks rs) rs.length)))
  (q:∀x10 T,Gr S T->QS .nx (L11 u w sp asks rs rs' z n8 x9 x10) T) :
  Ws (zai (sIf (zdn (tE (eOp zea (zae zcf (zab (zaa 5) (zad))) (eC (.bl true)))) (zdn (tE (eOp zea (zae zcf (zab (zaa 6) (zad))) (eC (.bl false)))) (tE (eOp ze1 (zae zfw (zab (zaa 6) (zad))) (zae zbf (zab (eC (.str "full")) (zad))))))) (zbp (eC (.bl false))) (zcu)) (zai (zak (zae zdu (zab (zaa 5) (zad))) (zag 10)) (zai (sIf (tE (eOp dNe (zae zdj (zab (zaa 10) (zad))) (zae zdj (zab (zaa 8) (zad))))) (zbp (eC (.bl false))) (zcu)) (zai (zb8 (zbi zex (zaa 10) zad)) (zb8 (zbi zb7 (zaa 10) (zab (zae zat (zad)) zad))))))) (L11 u w sp asks rs rs' z n8 x9 x10) S QS:=by
 have sz:=zbn
 have r24:=ok.r24
 refine zax (λl T=>l=L11 u w sp asks rs rs' z n8 x9 x10/\Gr S T) ?_ ?_
 ·refine ze9 _ (yjk ok hf ok' hf') (λT z=>by cases z.1) ?_
  rintro T ⟨_,g⟩
  rw [zfm]
  exact ⟨rfl,rfl,g⟩
 rintro l S1 ⟨rfl,g1⟩
 refine zax (λl T=>∃n,l=L11 u w sp asks rs rs' z n8 x9 (some (.ref n))/\T[n]? = some (.lst (zcg (hh asks rs) rs.length))/\Gr S1 T/\S1.length<=n) ?_ ?_
 ·unfold L11
  simp only [zb4,za8,za3,za2,zam,qg0,qg1,zaw]
  refine (yif ok hf (yix ok (yh3 ok hf)) (zs9 ok)).mono ?_
  rintro v T ⟨n,rfl,a,b,c⟩
  simp only [zay,qs0,qs1]
  exact ⟨nofun,n,rfl,a,b,c⟩
 rintro l S2 ⟨n,rfl,hn,g2,hl⟩
 have h8':=(g1.trans g2).get h8
 refine zbv (l':=L11 u w sp asks rs rs' z n8 x9 (some (.ref n))) (S':=S2) ?_ ?_
 ·refine ze9 (λb T=>b=false/\T=S2) ?_ (λT z=>by cases z.1) ?_
  ·unfold L11
   simp only [zc4,zbz,za8,za3,za2,zam,qg0,qg1,zaw]
   rw [ztm hn r24,ztm h8' r24,zlb]
   exact ⟨false,by simp,rfl,rfl⟩
  ·rintro T ⟨_,rfl⟩
   rw [zfm]
   exact ⟨rfl,rfl,rfl⟩
 have gl:=g1.len
 refine zbv (l':=L11 u w sp asks rs rs' z n8 x9 (some (.ref n))) (S':=S2.set n (.lst (zcg (hh asks rs) rs.length).reverse)) ?_ ?_
 ·unfold L11
  simp only [zel,zdq,zam,za2,qg0,qg1,zaw]
  refine ⟨⟨_,zds hn⟩,?_⟩
  rw [yjj hn]
  exact ⟨nofun,nofun,rfl⟩
 have hn2:=zc0 (o':=.lst (zcg (hh asks rs) rs.length).reverse) hn
 have e:Ws (zb8 (zbi zb7 (zaa 10) (zab (zae zat (zad)) zad))) (L11 u w sp asks rs rs' z n8 x9 (some (.ref n))) (S2.set n (.lst (zcg (hh asks rs) rs.length).reverse)) λf l T=>f=.nx/\l=L11 u w sp asks rs rs' z n8 x9 (some (.ref n))/\Gr S T:=by
  unfold L11
  simp only [zel,zdq,zam,za3,za2,za8,zc5,List.length_nil,qg0,qg1,zaw]
  refine ⟨⟨_,zds hn2⟩,by lia,?_⟩
  have ll:(zcg (hh asks rs) rs.length).reverse.length<=24:=by
   rw [List.length_reverse];unfold zcg;rw [qlm];have:=zil (hh asks rs) rs.length;lia
  rw [ze7 hn2 (by lia)]
  exact ⟨nofun,nofun,((g1.trans g2).set (by lia) _).set (by lia) _⟩
 obtain ⟨f,l,T,e,rfl,rfl,g⟩:=e
 exact ⟨_,_,_,e,q _ T g⟩
theorem law_true (ns:List Int) (hl:ns.length<=63):∃S',ze8 [.ref 0] [.flst (ns.map D.int)]=some (.bl true,S'):=by
 have sz:=zbn
 have s2:2<=sizeLine:=by lia
 suffices h:Wo (ze8 [.ref 0] [.flst (ns.map D.int)]) λv S'=>v=.bl true by
  obtain ⟨v,S',e,rfl⟩:=h
  exact ⟨S',e⟩
 unfold ze8 zr6
 dsimp! only [zcj]
 refine zax (λl S=>l=[~~~0,~~~1,none,none,none,none,none,none,none,none,none]/\PQ ns 0 S) ?_ ?_
 ·simp only [zb4,za8,za3,za2,zam,qg0,zaw]
  unfold zj0 zr5
  simp! only [zam]
  exact ⟨by lia,nofun,nofun,0,0,rfl,rfl,by decide,by decide,by decide⟩
 rintro l S ⟨rfl,p0⟩
 refine zl8 (λl S=>True) (λd S=>False) ?_ ?_ (λd l1 S1 o=>o.elim)
 ·refine zia (λu l S1=>(∃x2 x3 x4 x5 x6 x7 x8 x9 x10,l=[~~~0,~~~1,x2,x3,x4,x5,x6,x7,x8,x9,x10])/\PQ ns (10000*u) S1) (λ_ _=>False) (n:=3) rfl (by decide) ⟨⟨_,_,_,_,_,_,_,_,_,rfl⟩,p0⟩ ?_ (λl' S' _=>.inl ⟨rfl,trivial⟩) (λd l' S' z=>z.elim)
  rintro u l S1 hu ⟨⟨x2,x3,x4,x5,x6,x7,x8,x9,x10,rfl⟩,p1⟩
  simp only [zay,qs0,qs1]
  refine zax (λl S'=>∃way:Nat,way<3/\PQ ns (10000*u+1) S'/\l=[~~~0,~~~1,‹u›,‹way›,x4,x5,x6,x7,x8,x9,x10]) ?_ ?_
  ·simp! only [zam]
   refine (zdv p1 (by lia) (by decide) (by decide)).mono ?_
   rintro v S2 ⟨⟨d,rfl,hd⟩,p2,f2⟩
   exact ⟨nofun,d,by lia,p2,rfl⟩
  rintro l S2 ⟨way,hw,p2,rfl⟩
  refine zax (λl S'=>∃spot:Nat,spot<96/\PQ ns (10000*u+2) S'/\l=[~~~0,~~~1,‹u›,‹way›,‹spot›,x5,x6,x7,x8,x9,x10]) ?_ ?_
  ·simp! only [zam]
   refine (zdv p2 (by lia) (by decide) (by decide)).mono ?_
   rintro v S3 ⟨⟨d,rfl,hd⟩,p3,f3⟩
   exact ⟨nofun,d,by lia,p3,rfl⟩
  rintro l S3 ⟨spot,hsp,p3,rfl⟩
  refine zax (λl S'=>∃(A:Nat) (t:List (List Cl)),OkM A t/\zb1 t=true/\An t/\PQ ns (10000*u+502) S'/\l=[~~~0,~~~1,‹u›,‹way›,‹spot›,some (mD A t),x6,x7,x8,x9,x10]) ?_ ?_
  ·simp! only [zam]
   refine (yjb p3 (by lia)).mono ?_
   rintro v S4 ⟨A,t,rfl,ok,hf,an,p4,f4⟩
   exact ⟨nofun,A,t,ok,hf,an,p4,rfl⟩
  rintro l S4 ⟨A,t,ok,hf,an,p4,rfl⟩
  refine zax (λl S'=>∃(g:List (List Cl)),OkM A g/\zb1 g=false/\An g/\PQ ns (10000*u+502) S'/\l=[~~~0,~~~1,‹u›,‹way›,‹spot›,some (mD A t),some (mD A g),x7,x8,x9,x10]) ?_ ?_
  ·simp! only [zam]
   refine (yjd ok an hw hsp).mono ?_
   rintro v S5 ⟨g,rfl,ok',hf',an',g5⟩
   exact ⟨nofun,g,ok',hf',an',p4.gr g5,rfl⟩
  rintro l S5 ⟨g,ok',hf',an',p5,rfl⟩
  obtain ⟨z,hz⟩:=yjh ok an ok' an'
  refine zbv (l':=[~~~0,~~~1,‹u›,‹way›,‹spot›,some (mD A t),some (mD A g),some (.str z),x8,x9,x10]) (S':=S5) ?_ ?_
  ·simp! only [hz,s2,true_and]
   all_goals first|trivial|exact ⟨nofun,nofun,nofun⟩
  refine zax (λl S'=>∃n8,S'[n8]? = some (.lst (zcg (hh A t) t.length))/\PQ ns (10000*u+502) S'/\l=L11 u way spot A t g z n8 x9 x10) ?_ ?_
  ·simp! only [zam]
   refine (yi1 ok hf an).mono ?_
   rintro v S6 ⟨n8,rfl,h8,g6⟩
   exact ⟨nofun,n8,h8,p5.gr g6,rfl⟩
  rintro l S6 ⟨n8,h8,p6,rfl⟩
  refine zax (λl S'=>∃x9 x10,Gr S6 S'/\l=L11 u way spot A t g z n8 x9 x10) ?_ ?_
  ·refine zia (λv l S'=>∃x9 x10,Gr S6 S'/\l=L11 u way spot A t g z n8 x9 x10) (λ_ _=>False) (n:=2) rfl (by decide) ⟨_,_,Gr.refl _,rfl⟩ ?_ (λl' S' h=>⟨rfl,h⟩) (λd l' S' z=>z.elim)
   rintro v l S7 hv ⟨y9,y10,g7,rfl⟩
   have el:(L11 u way spot A t g z n8 y9 y10).set 9 (some (.int (v:Int)))=L11 u way spot A t g z n8 (some (.int (v:Int))) y10:=rfl
   rw [zay,el]
   refine yjl ok an hf ok' hf' (g7.get h8) ?_
   intro x10 T gT
   exact .inl ⟨.inl rfl,_,_,g7.trans gT,rfl⟩
  rintro l S7 ⟨y9,y10,g7,rfl⟩
  refine ze9 (λb T=>b=false/\T=S7) ?_ (λT z=>by cases z.1) ?_
  ·unfold L11
   simp only [zc4,zbz,za8,za3,za2,zam,qg0,qg1,zaw,zc5,List.length_cons,List.length_nil]
   refine ⟨by lia,?_⟩
   rw [hz,zlb]
   exact ⟨false,by simp,rfl,rfl⟩
  ·rintro T ⟨_,rfl⟩
   rw [zfm]
   exact .inl ⟨.inl rfl,⟨_,_,_,_,_,_,_,_,_,rfl⟩,(p6.gr g7).mono (by lia)⟩
 ·rintro l S1 _
  simp! only [zam]
end M
end
namespace PySem.W.Fast
def tw18072262116612449085:Nat:=0
def tw5187393827741170692:Nat:=0
def tw15681677888766842932:Nat:=0
def tw7977943910177421481:Nat:=0
def tw1615979717233181791:Nat:=0
def tw14301235728055056998:Nat:=0
def tw17531701964037487868:Nat:=0
def tw6723712715931018116:Nat:=0
def tw8138357733996718764:Nat:=0
def tw14301816659782617338:Nat:=0
def tw2484782714325340976:Nat:=0
def tw15913235886483930009:Nat:=0
def tw682001989971614774:Nat:=0
def tw2011989080755802976:Nat:=0
def tw1756128211767938649:Nat:=0
def tw13895256764817823080:Nat:=0
def tw8930701145083921796:Nat:=0
def tw2792493224861541535:Nat:=0
def tw13283697588193534431:Nat:=0
def tw15711669812062603380:Nat:=0
def tw15149425335996702649:Nat:=0
def tw18217547884947630944:Nat:=0
def tw13780561751031310969:Nat:=0
def tw14500770388078659805:Nat:=0
def tw15560587233284403179:Nat:=0
def tw520935873119999848:Nat:=0
def tw3317290457945267402:Nat:=0
def tw11225156774798513240:Nat:=0
def tw15824881375357455428:Nat:=0
def tw7392694273574410910:Nat:=0
def tw8125335493173102853:Nat:=0
def tw6588972426320558597:Nat:=0
def tw4661323624705869533:Nat:=0
def tw6804429371385949874:Nat:=0
def tw9349613632495448864:Nat:=0
def tw2299800988918198539:Nat:=0
def tw3389295607872923243:Nat:=0
def tw4519184478039701023:Nat:=0
def tw15346834927785809547:Nat:=0
def tw6850469725961993434:Nat:=0
def tw8049982314244734939:Nat:=0
def tw11945603670199523360:Nat:=0
def tw16024352911674667867:Nat:=0
def tw15634848756729637323:Nat:=0
def tw2557801427734188487:Nat:=0
def tw1556944098712446293:Nat:=0
def tw12745575990609133213:Nat:=0
def tw7452527523481743884:Nat:=0
def tw8731201254666309771:Nat:=0
def tw8624601060362341428:Nat:=0
def tw15483571184235729083:Nat:=0
def tw3440365793942641669:Nat:=0
def tw17995035494535714370:Nat:=0
def tw673333076389751379:Nat:=0
def tw1512580584345061439:Nat:=0
def tw2496108881016115679:Nat:=0
def tw8766572873053828703:Nat:=0
def tw998002908000555871:Nat:=0
def tw6725994551434984574:Nat:=0
def tw17920055793636068064:Nat:=0
def tw6891234808981457902:Nat:=0
def tw2292562033247656617:Nat:=0
def tw13243191625204683494:Nat:=0
def tw10688843525747754703:Nat:=0
def tw12804194453847475940:Nat:=0
def tw12490058338014682088:Nat:=0
def tw16115304901032233219:Nat:=0
def tw16806906209212488350:Nat:=0
def tw1825936199051372831:Nat:=0
def tw8696414136243451372:Nat:=0
def tw18333530179788050077:Nat:=0
def tw15629460131631469737:Nat:=0
def tw6140145465880241548:Nat:=0
def tw2853014164125042084:Nat:=0
def tw7571478056685399624:Nat:=0
def tw17356677254931406679:Nat:=0
def tw10240840663512041857:Nat:=0
def tw5062359834997035193:Nat:=0
def tw4574990795808064048:Nat:=0
def tw10423565660378984434:Nat:=0
def tw12536852470610436579:Nat:=0
def tw10332360464714730217:Nat:=0
def tw11236451654348822961:Nat:=0
def tw2561142620730417592:Nat:=0
def tw13802218719371446521:Nat:=0
def tw8720237861091131847:Nat:=0
def tw9746142429812723245:Nat:=0
def tw3330829567686837913:Nat:=0
def tw2267383992558575924:Nat:=0
def tw16565205586386448563:Nat:=0
def tw3866374259548448391:Nat:=0
def tw17302273651438918482:Nat:=0
def tw14936172021645125320:Nat:=0
def tw14786321487880773012:Nat:=0
def tw13380356101389421318:Nat:=0
def tw8086385912413930937:Nat:=0
def tw5797386777413187552:Nat:=0
def tw18083331993030909028:Nat:=0
def tw13306287391483814224:Nat:=0
def tw7920387840974044172:Nat:=0
def tw6581805045010604631:Nat:=0
def tw2966232200060399105:Nat:=0
def tw2649687243475168479:Nat:=0
def tw15579263616674083756:Nat:=0
def tw11321991839268367781:Nat:=0
def tw6987009551067720165:Nat:=0
def tw3667703238703379560:Nat:=0
def tw13461723714360181222:Nat:=0
def tw14162997255245626320:Nat:=0
def tw12444881791796018952:Nat:=0
def tw14258429892333423746:Nat:=0
def tw17414525987337821804:Nat:=0
def tw17900196434842160071:Nat:=0
def tw11899415870674519315:Nat:=0
def tw18065291465907072208:Nat:=0
def tw12425265073299863645:Nat:=0
def tw17910311021218174803:Nat:=0
def tw5913133332432845897:Nat:=0
def tw13536173620818218230:Nat:=0
def tw10283483843824252149:Nat:=0
end PySem.W.Fast
open PySem PySem.W PyProof.Rows
theorem PySem.Challenge.cw_opencells_k31_blocks_told_holds : PySem.Challenge.rw_opencells_k31_blocks_told.Holds := by
 w_on;o_law;k_head;(case hw=>w_witness2)
 k_fill
 refine G.walk (l:=PySem.Challenge.rw_opencells_k31_blocks_told) rfl rfl (λw h Y=>PySem.W.kIn_of Y) ?F (λns hl=>M.law_true ns hl)
 case F =>
  intro w mg fa h KX GN hmg
  refine' G.all_mk KX GN hmg ?_ ?_ ?_ ?_ ?_ ?_ ?_ ?_ ?_ ?_ ?_ ?_ ?_ ?_ ?_ ?_ ?_ ?_ ?_ ?_ ?_ ?_ ?_ ?_ ?_ ?_ ?_ ?_ ?_ ?_ ?_ ?_ ?_ ?_ ?_ ?_ ?_ ?_ ?_ ?_ ?_ ?_ ?_ ?_ ?_ ?_ ?_ ?_ ?_ ?_ ?_ ?_ ?_ ?_ ?_ ?_ ?_ ?_ ?_ ?_ ?_ ?_ ?_ ?_ ?_ ?_
  all_goals try first|(refine' G.FI.mk ?a ?l ?c ?k;(case a=>k_is);(case l=>k_is);(case c=>k_is);(case k=>k_is))|k_is|kernel_rfl
#print axioms PySem.Challenge.cw_opencells_k31_blocks_told_holds