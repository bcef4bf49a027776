import PyProof.Rows.All
import Wide.All
import OpenK.AllK
import Wide.FinOn
import Lean
import PyProof.EqAt
import PyProof.EqKinds
import PyProof.TupleCall
import PyProof.ReprLen
import PyProof.ReprRoads
import PyProof.P3Eq
import PyProof.SetRoads
import PyProof.IsRules
import PyProof.ListRange
import PyProof.ConsumeWalk
import PyProof.NeKinds
import PyProof.DictTable
import PyProof.Draws
import PyProof.EnumMake
import KE.BitLaws
import KE.KIntText
import KE.KRevIter
import PyProof.Rows.SumAny
import PyProof.StrLawsRepr
import PyProof.Rows.SortStrRead
import PyProof.DictCompW
import PyProof.StrOps2
import PyProof.DictWalks
import OpenK.KOwn
import PyProof.NsDelKeeps
import PyProof.RulesAs
import KE.KIsAll
import PyProof.ExcArgsOwn
import PyProof.ExcAttrAll.ValueError
import PyProof.TupleKey
import PyProof.DictRoadsH
import KE.KSortTup
import KE.KDictSum
import PyProof.Rows.TupDisplay
import PyProof.ZipIter
import PyProof.FactsAll.tuple_1
import PyProof.Dict
import PyProof.DictWalks
import PyProof.FactsAll.set_1
import PyProof.FactsAll.tuple_2
import PyProof.FactsAll.tuple_3
import PyProof.MeetsSeq
import PyProof.Rows.FStr
import PyProof.Rows.RuleM_int
import PyProof.Rows.SetFrom
import PyProof.Rows.StrItems
import PyProof.Rows.StrNews2
import PyProof.SetRoads
import PyProof.StrWalks
import PyProof.TupleOfSeq
import PyProof.WalksMore
import KE.KLam
import KE.KNestM
import KE.KSortKey
import PySem.Challenge.RW_opencells_k10_rooms_that_fit
set_option Elab.async false
set_option maxHeartbeats 4000000
set_option maxRecDepth 100000
set_option linter.unusedSimpArgs false
set_option linter.unusedVariables false
noncomputable section
theorem qwb {α β:Type}{M:PySem.Model}{A:PySem.Around}{E:PySem.Value->PySem.Shared->Prop}{s:PySem.Shared}{m:PySem.Sem α}{f:α->PySem.Sem β}{Q:β->PySem.Shared->Prop}(h:PySem.wpAny M A m (λa s'=>PySem.wpAny M A (f a) Q E s') E s):PySem.wpAny M A (m >>= f) Q E s:=PySem.wpAny_bind h
theorem qwp {α:Type}{M:PySem.Model}{A:PySem.Around}{E:PySem.Value->PySem.Shared->Prop}{s:PySem.Shared}{a:α}{Q:α->PySem.Shared->Prop}(h:Q a s):PySem.wpAny M A (pure a) Q E s:=PySem.wpAny_pure h
theorem qbf:(false=true)=False:=Bool.false_eq_true
theorem qme {α:Type _}{l:List α}{i:Nat}{a:α}(h:l[i]? = some a):∃h:i<l.length,l[i]=a:=List.getElem?_eq_some_iff.mp h
theorem qge {α:Type _}{l:List α}{i:Nat}(h:i<l.length):l[i]? = some l[i]:=List.getElem?_eq_getElem h
abbrev QFg:=PySem.W.Frag
theorem qps {h:PySem.Heap}{a:PySem.Addr}{o1:PySem.Obj}(o:PySem.Obj) (e:h.get? a=some o1):(h.push o).get? a=some o1:=PySem.Heap.get?_push_of_some o e
theorem qlm {α β:Type _}{as:List α}(f:α->β):(as.map f).length=as.length:=List.length_map f
theorem qgm {α β:Type _}{f:α->β}{l:List α}{i:Nat}:(l.map f)[i]? = l[i]?.map f:=List.getElem?_map
theorem qoi {α:Type _}{a b:α}(h:some a=some b):a=b:=Option.some.inj h
theorem qmg {α:Type _}{l:List α}{i:Nat}{a:α}(e:l[i]? = some a):a∈l:=List.mem_of_getElem? e
theorem qlr (n:Nat):n<=n:=Nat.le_refl n
theorem qla {α:Type _}{as bs:List α}:(as++bs).length=as.length+bs.length:=List.length_append
namespace TS
open PySem PySem.SetTable
noncomputable def F:Nat->Nat->Nat
 | 0,x=>x
 | n+1,x=>5*F n x+1
theorem zm7 (a:Nat):∀(b x:Nat),F (a+b) x=F a (F b x):=by
 induction a with
 | zero=>intro b x;rw [Nat.zero_add];rfl
 | succ a ih=>intro b x;rw [show a+1+b=(a+b)+1 by lia];show 5*F (a+b) x+1=5*F a (F b x)+1;rw [ih]
theorem ztk (k:Nat):∃u,∀x,F (2 ^ k) x=(4*(2 ^ k*(2*u+1))+1)*x+2 ^ k*(2*u+1):=by
 induction k with
 | zero=>exact ⟨0,λx=>by show 5*x+1=_;lia⟩
 | succ k ih =>
  obtain ⟨u,h⟩:=ih
  generalize hB:2 ^ k*(2*u+1)=B at h
  refine ⟨2*u*B+u+B,λx=>?_⟩
  have e:2 ^ (k+1)=2 ^ k+2 ^ k:=by rw [Nat.pow_succ];lia
  rw [show F (2 ^ (k+1)) x=F (2 ^ k) (F (2 ^ k) x) by rw [e];exact zm7 _ _ _,h,h]
  have e2:2 ^ (k+1)*(2*(2*u*B+u+B)+1)=2*B*(2*B+1):=by
   rw [Nat.pow_succ,<-hB]
   generalize 2 ^ k=p
   grind
  rw [e2]
  clear e2 h hB
  grind
theorem ztl (hM:0<M) (h:a % M=b % M) (h2:a % (2*M)≠b % (2*M)):(a+M) % (2*M)=b % (2*M):=by
 have key:∀x,x % (2*M)=x % M\/x % (2*M)=x % M+M:=λx=>by
  have e1:x % (2*M)<2*M:=Nat.mod_lt _ (by lia)
  have e2:x % (2*M) % M=x % M:=Nat.mod_mod_of_dvd x ⟨2,Nat.mul_comm _ _⟩
  by_cases hl:x % (2*M)<M
  ·left;rw [<-e2,Nat.mod_eq_of_lt hl]
  ·right
   have e3:x % (2*M) % M=(x % (2*M)-M) % M:=Nat.mod_eq_sub_mod (by lia)
   have e4:(x % (2*M)-M) % M=x % (2*M)-M:=Nat.mod_eq_of_lt (by lia)
   rw [<-e2,e3,e4];lia
 have hb:=Nat.mod_lt b hM
 rw [Nat.add_mod,Nat.mod_eq_of_lt (show M<2*M by lia)]
 rcases key a with ha|ha <;> rcases key b with hb2|hb2
 ·lia
 ·rw [ha,Nat.mod_eq_of_lt (by lia)];lia
 ·rw [ha,hb2,show a % M+M+M=a % M+2*M by lia,Nat.add_mod_right,Nat.mod_eq_of_lt (by lia)];lia
 ·lia
theorem ztm (k:Nat):∀x y:Nat,∃n,n<2 ^ k/\F n x % 2 ^ k=y % 2 ^ k:=by
 induction k with
 | zero=>intro x y;exact ⟨0,by decide,by simp [Nat.mod_one]⟩
 | succ k ih =>
  intro x y
  obtain ⟨n,hn,h⟩:=ih x y
  have e:2 ^ (k+1)=2*2 ^ k:=by rw [Nat.pow_succ,Nat.mul_comm]
  have hM:0<2 ^ k:=Nat.two_pow_pos k
  rw [e]
  by_cases h2:F n x % (2*2 ^ k)=y % (2*2 ^ k)
  ·exact ⟨n,by lia,h2⟩
  ·refine ⟨2 ^ k+n,by lia,?_⟩
   obtain ⟨u,hl⟩:=ztk k
   rw [zm7,hl]
   generalize F n x=z at h h2
   generalize 2 ^ k=M at *
   have e3:(4*(M*(2*u+1))+1)*z+M*(2*u+1)=z+M+2*M*(u+2*z*(2*u+1)):=by
    grind
   rw [e3,Nat.add_mul_mod_self_left]
   exact ztl hM h h2
noncomputable def adv (mask:Nat) (p:Probe):Probe :=
 if p.more > 0 then { p with j:=p.j+1,more:=p.more-1 } else
 let (i,perturb):=leap mask p.i p.perturb
 { p with j:=i,more:=runEnd mask i-i,i,perturb }
theorem ztn (t:SetTable) (p:Probe):t.advance p=adv t.mask p:=rfl
noncomputable def st0 (mask:Nat) (h:Int):Probe:={ j:=bits h % (mask+1),more:=runEnd mask (bits h % (mask+1))-bits h % (mask+1),i:=bits h % (mask+1),perturb:=bits h,dummy:=none }
noncomputable def pn (mask:Nat) (h:Int):Nat->Probe
 | 0=>st0 mask h
 | n+1=>adv mask (pn mask h n)
noncomputable def bl (mask:Nat) (h:Int):Nat->Nat × Nat
 | 0=>(bits h % (mask+1),bits h)
 | n+1=>leap mask (bl mask h n).1 (bl mask h n).2
noncomputable def ss (mask:Nat) (h:Int):Nat->Nat
 | 0=>0
 | n+1=>ss mask h n+(runEnd mask (bl mask h n).1-(bl mask h n).1)+1
noncomputable def blk (mask:Nat) (b:Nat × Nat):Probe:={ j:=b.1,more:=runEnd mask b.1-b.1,i:=b.1,perturb:=b.2,dummy:=none }
theorem zkn {mask:Nat}{h:Int}{s:Nat}{b:Nat × Nat}(e:pn mask h s=blk mask b):∀d,d<=runEnd mask b.1-b.1->pn mask h (s+d)={ j:=b.1+d,more:=runEnd mask b.1-b.1-d,i:=b.1,perturb:=b.2,dummy:=none }
 | 0,_=>by rw [Nat.add_zero,e];rfl
 | d+1,hd=>by
  show adv mask (pn mask h (s+d))=_
  rw [zkn e d (by lia)]
  unfold adv
  rw [if_pos (by show runEnd mask b.1-b.1-d > 0;lia)]
  simp only [Probe.mk.injEq,and_true]
  exact ⟨by lia,by lia⟩
theorem zko (mask:Nat) (h:Int):∀n,pn mask h (ss mask h n)=blk mask (bl mask h n)
 | 0=>rfl
 | n+1=>by
  have e:=zkn (zko mask h n) (runEnd mask (bl mask h n).1-(bl mask h n).1) (qlr _)
  show adv mask (pn mask h (ss mask h n+(runEnd mask (bl mask h n).1-(bl mask h n).1)))=_
  rw [e]
  unfold adv
  rw [if_neg (by show ¬(runEnd mask (bl mask h n).1-(bl mask h n).1-(runEnd mask (bl mask h n).1-(bl mask h n).1)) > 0;lia)]
  rfl
theorem zto (mask i:Nat):runEnd mask i-i<=9:=by unfold runEnd;split <;> lia
theorem zm8 (mask:Nat) (h:Int):∀n,ss mask h n<=10*n
 | 0=>qlr _
 | n+1=>by have:=zm8 mask h n;have:=zto mask (bl mask h n).1;show ss mask h n+_+1<=_;lia
theorem zm9 (mask:Nat) (h:Int):∀n,(bl mask h n).2=bits h / 32 ^ n
 | 0=>by show bits h=_;simp
 | n+1=>by show (bl mask h n).2 / 32=_;rw [zm9 mask h n,Nat.div_div_eq_div_mul,Nat.pow_succ]
theorem ztp (h:Int):bits h<2 ^ 64:=by
 unfold bits
 have h1:=Int.emod_nonneg h (show (2 ^ 64:Int)≠0 by decide)
 have h2:=Int.emod_lt_of_pos h (show (0:Int)<2 ^ 64 by decide)
 lia
theorem ztq (mask:Nat) (h:Int) (n:Nat):(bl mask h (13+n)).2=0:=by
 rw [zm9]
 apply Nat.div_eq_of_lt
 have:=ztp h
 have e:2 ^ 65<=32 ^ (13+n):=by
  rw [Nat.pow_add,show (32:Nat) ^ 13=2 ^ 65 by decide]
  exact Nat.le_mul_of_pos_right _ (Nat.pow_pos (by decide))
 have:(2:Nat) ^ 64<2 ^ 65:=by decide
 lia
theorem zna (mask:Nat) (h:Int):∀n,(bl mask h n).1<=mask
 | 0=>by have:=Nat.mod_lt (bits h) (show 0<mask+1 by lia);show bits h % (mask+1)<=mask;lia
 | n+1=>by have:=Nat.mod_lt ((bl mask h n).1*5+1+(bl mask h n).2 / 32) (show 0<mask+1 by lia);show ((bl mask h n).1*5+1+(bl mask h n).2 / 32) % (mask+1)<=mask;lia
theorem znb (mask:Nat) (h:Int):∀n,(bl mask h (13+n)).1=F n (bl mask h 13).1 % (mask+1)
 | 0=>by have:=zna mask h 13;exact (Nat.mod_eq_of_lt (by show (bl mask h 13).1<mask+1;lia)).symm
 | n+1=>by
  show ((bl mask h (13+n)).1*5+1+(bl mask h (13+n)).2 / 32) % (mask+1)=(5*F n _+1) % (mask+1)
  rw [znb mask h n,ztq,Nat.zero_div,Nat.add_zero,Nat.mul_comm (F n _ % (mask+1)) 5]
  rw [Nat.add_mod,Nat.mul_mod,Nat.mod_mod,<-Nat.mul_mod,<-Nat.add_mod]
theorem ztr {mask k:Nat}(hk:mask+1=2 ^ k) (h:Int) {e:Nat}(he:e<=mask):∃n,n<mask+14/\(bl mask h n).1=e:=by
 obtain ⟨n,hn,hf⟩:=ztm k (bl mask h 13).1 e
 refine ⟨13+n,by lia,?_⟩
 rw [znb,hk,hf,<-hk]
 exact Nat.mod_eq_of_lt (by lia)
theorem zkp {mask i:Nat}(h:i<=mask):runEnd mask i<=mask:=by unfold runEnd;split <;> lia
theorem zkq (mask:Nat) (h:Int) (n:Nat):(pn mask h n).j<=mask/\(pn mask h n).j+(pn mask h n).more<=mask/\(pn mask h n).dummy=none:=by
 induction n with
 | zero =>
  have h1:bits h % (mask+1)<=mask:=by have:=Nat.mod_lt (bits h) (show 0<mask+1 by lia);lia
  have h2:=zkp h1
  refine ⟨h1,?_,rfl⟩
  show bits h % (mask+1)+(runEnd mask (bits h % (mask+1))-bits h % (mask+1))<=mask
  lia
 | succ n ih =>
  obtain ⟨i1,i2,i3⟩:=ih
  show (adv mask (pn mask h n)).j<=mask/\(adv mask (pn mask h n)).j+(adv mask (pn mask h n)).more<=mask/\(adv mask (pn mask h n)).dummy=none
  unfold adv
  by_cases hm:(pn mask h n).more > 0
  ·rw [if_pos hm]
   exact ⟨by show (pn mask h n).j+1<=mask;lia,by show (pn mask h n).j+1+((pn mask h n).more-1)<=mask;lia,i3⟩
  ·rw [if_neg hm]
   have h1:(leap mask (pn mask h n).i (pn mask h n).perturb).1<=mask:=by
    have:=Nat.mod_lt ((pn mask h n).i*5+1+(pn mask h n).perturb / 32) (show 0<mask+1 by lia)
    show ((pn mask h n).i*5+1+(pn mask h n).perturb / 32) % (mask+1)<=mask
    lia
   have h2:=zkp h1
   exact ⟨h1,by show (leap mask (pn mask h n).i (pn mask h n).perturb).1+(runEnd mask (leap mask (pn mask h n).i (pn mask h n).perturb).1-(leap mask (pn mask h n).i (pn mask h n).perturb).1)<=mask;lia,i3⟩
def Ris (xs:Array Nat):Prop:=∀i j,i<j->j<xs.size->xs.getD i 0<xs.getD j 0
theorem zts {xs:Array Nat}{i:Nat}(h:i<xs.size) (d e:Nat):xs.getD i d=xs.getD i e:=by simp [Array.getD,h]
theorem zkr {xs:Array Nat}{i:Nat}(h:i<xs.size) (d:Nat):xs[i]? = some (xs.getD i d):=by simp [Array.getD,h]
theorem zhe {xs:Array Nat}{i j:Nat}(h:xs[i]? = some j) (d:Nat):i<xs.size/\xs.getD i d=j:=by
 obtain ⟨h1,h2⟩:=Array.getElem?_eq_some_iff.mp h
 exact ⟨h1,by simp [Array.getD,h1,h2]⟩
theorem ztt {xs:Array Nat}(hr:Ris xs) (j:Nat):∀(fuel lo hi:Nat),lo<=hi->hi<=xs.size->hi-lo<=fuel->(∀i,i<lo->xs.getD i 0<j)->(∀i,hi<=i->i<xs.size->j<=xs.getD i 0) ->
  below.go xs j fuel lo hi<=xs.size/\(∀i,i<below.go xs j fuel lo hi->xs.getD i 0<j)/\∀i,below.go xs j fuel lo hi<=i->i<xs.size->j<=xs.getD i 0:=by
 intro fuel
 induction fuel with
 | zero =>
  intro lo hi h1 h2 h3 h4 h5
  have e:lo=hi:=by lia
  subst e
  exact ⟨h2,h4,h5⟩
 | succ fuel ih =>
  intro lo hi h1 h2 h3 h4 h5
  unfold below.go
  by_cases hl:lo<hi
  ·rw [if_pos hl]
   dsimp only
   have hm1:(lo+hi) / 2<hi:=by lia
   have hm2:lo<=(lo+hi) / 2:=by lia
   have hms:(lo+hi) / 2<xs.size:=by lia
   rw [zts hms j 0]
   by_cases hx:xs.getD ((lo+hi) / 2) 0<j
   ·rw [if_pos hx]
    refine ih _ _ (by lia) h2 (by lia) (λi hi'=>?_) h5
    by_cases e:i=(lo+hi) / 2
    ·rw [e];exact hx
    ·exact Nat.lt_trans (hr i _ (by lia) hms) hx
   ·rw [if_neg hx]
    refine ih _ _ hm2 (by lia) (by lia) h4 λi hi1 hi2=>?_
    by_cases e:i=(lo+hi) / 2
    ·rw [e];lia
    ·have:=hr ((lo+hi) / 2) i (by lia) hi2
     lia
  ·rw [if_neg hl]
   have e:lo=hi:=by lia
   subst e
   exact ⟨h2,h4,h5⟩
theorem zgl (hr:Ris xs) (j:Nat):below xs j<=xs.size/\(∀i,i<below xs j->xs.getD i 0<j)/\∀i,below xs j<=i->i<xs.size->j<=xs.getD i 0 :=
 ztt hr j xs.size 0 xs.size (Nat.zero_le _) (qlr _) (by lia) (λi h=>absurd h (Nat.not_lt_zero _)) λi h1 h2=>by lia
theorem zks {xs:Array Nat}(hr:Ris xs) {i j:Nat}(h:xs[i]? = some j):below xs j=i:=by
 obtain ⟨h1,h2⟩:=zhe h 0
 obtain ⟨b1,b2,b3⟩:=zgl hr j
 rcases Nat.lt_trichotomy (below xs j) i with hl|hl|hl
 ·have:=b3 (below xs j) (qlr _) (by lia)
  have:=hr _ _ hl h1
  lia
 ·exact hl
 ·have:=b2 i hl
  lia
theorem ztu {t:SetTable}(hr:Ris t.place) {i j:Nat}(h:t.place[i]? = some j):t.slot j=.live i:=by
 unfold slot
 dsimp only
 rw [zks hr h,if_pos (by rw [h];simp)]
theorem ztv {t:SetTable}(hd:t.dummies = #[]) {j:Nat}(h:∀i:Nat,t.place[i]?≠some j):t.slot j=.empty:=by
 unfold slot
 dsimp only
 rw [if_neg (by intro z;exact h _ (by simpa using z)),if_neg (by rw [hd];simp [has])]
def In (t:SetTable) (j:Nat):Prop:=∃i:Nat,t.place[i]? = some j
structure TOk (t:SetTable) (es:Array (Int × Value)):Prop where
 dm:t.dummies = #[]
 sz:t.place.size=es.size
 pw:∃k,t.mask+1=2 ^ k/\3<=k
 ris:Ris t.place
 le:∀j,In t j->j<=t.mask
 ro:es.size*5<t.mask*3
 sm:t.mask<8192
 pr:∀(i:Nat) (h:Int) (v:Value),es[i]? = some (h,v)->∃n,t.place[i]? = some (pn t.mask h n).j/\∀m,m<n->In t (pn t.mask h m).j
theorem TOk.fits (k:TOk t es):t.fits es.size=true:=by
 unfold SetTable.fits SetTable.fill
 rw [k.dm,k.sz]
 have:=k.ro
 simp
 lia
theorem pigeon:∀(n:Nat) (f:Nat->Option Nat) ,(∀j,j<n+1->∃i,f j=some i/\i<n)->(∀j j' i,j<n+1->j' < n+1->f j=some i->f j' = some i->j=j')->False
 | 0,f,h,_=>by obtain ⟨i,_,hi⟩:=h 0 (by lia);lia
 | n+1,f,h,inj=>by
  obtain ⟨a,ha,hal⟩:=h (n+1) (by lia)
  refine pigeon n (λj=>(f j).map λi=>if i=n then a else i) (λj hj=>?_) λj j' i l1 l2 h1 h2=>?_
  ·obtain ⟨i,hi,hil⟩:=h j (by lia)
   refine ⟨if i=n then a else i,by simp [hi],?_⟩
   split
   ·rename_i e
    rcases Nat.lt_or_ge a n with h' | h'
    ·exact h'
    ·have:a=n:=by lia
     have:=inj (n+1) j n (by lia) (by lia) (by rw [ha,this]) (by rw [hi,e])
     lia
   ·lia
  ·cases e1:f j with
   | none=>rw [e1] at h1;cases h1
   | some i1 =>
    cases e2:f j' with
    | none=>rw [e2] at h2;cases h2
    | some i2 =>
     rw [e1] at h1;rw [e2] at h2
     have h1:(if i1=n then a else i1)=i:=by simpa using h1
     have h2:(if i2=n then a else i2)=i:=by simpa using h2
     by_cases c1:i1=n <;> by_cases c2:i2=n
     ·exact inj j j' n (by lia) (by lia) (by rw [e1,c1]) (by rw [e2,c2])
     ·rw [if_pos c1] at h1;rw [if_neg c2] at h2
      have:=inj (n+1) j' i (by lia) (by lia) (by rw [ha,h1]) (by rw [e2,h2])
      lia
     ·rw [if_neg c1] at h1;rw [if_pos c2] at h2
      have:=inj (n+1) j i (by lia) (by lia) (by rw [ha,h2]) (by rw [e1,h1])
      lia
     ·rw [if_neg c1] at h1;rw [if_neg c2] at h2
      exact inj j j' i (by lia) (by lia) (by rw [e1,h1]) (by rw [e2,h2])
theorem znc {mask k:Nat}(hk:mask+1=2 ^ k) (h:Int) (P:Nat->Prop) [DecidablePred P] {e:Nat}(he:e<=mask) (hP:¬P e) :
  ∃N b,N<=ss mask h b/\b<mask+14/\¬P (pn mask h N).j/\∀m,m<N->P (pn mask h m).j:=by
 obtain ⟨b,hb,hbe⟩:=ztr hk h he
 have h0:¬P (pn mask h (ss mask h b)).j:=by rw [zko];show ¬P (bl mask h b).1;rw [hbe];exact hP
 have least:∀n,¬P (pn mask h n).j->∃N,N<=n/\¬P (pn mask h N).j/\∀m,m<N->P (pn mask h m).j:=by
  intro n
  induction n using Nat.strongRecOn with
  | _ n ih =>
   intro hn
   by_cases c:∃m,m<n/\¬P (pn mask h m).j
   ·obtain ⟨m,hm,hp⟩:=c
    obtain ⟨N,h1,h2⟩:=ih m hm hp
    exact ⟨N,by lia,h2⟩
   ·exact ⟨n,qlr _,hn,λm hm=>Decidable.byContradiction λz=>c ⟨m,hm,z⟩⟩
 obtain ⟨N,h1,h2,h3⟩:=least _ h0
 exact ⟨N,b,h1,hb,h2,h3⟩
open Classical in
theorem TOk.empty {t:SetTable}{es:Array (Int × Value)}(k:TOk t es) (h:Int):∃N,N<10*(t.mask+14)/\¬In t (pn t.mask h N).j/\∀m,m<N->In t (pn t.mask h m).j:=by
 obtain ⟨n,h1,h2⟩:=k.pw
 have ex:∃e,e<=t.mask/\¬In t e:=by
  refine Classical.byContradiction λhc=>?_
  have all:∀e,e<=t.mask->In t e:=λe he=>Classical.byContradiction λz=>hc ⟨e,he,z⟩
  refine pigeon t.mask (λj=>if hj:In t j then some hj.choose else none) (λj hj=>?_) λj j' i _ _ e1 e2=>?_
  ·have hi:=all j (by lia)
   refine ⟨hi.choose,dif_pos hi,?_⟩
   have:=(zhe hi.choose_spec 0).1
   have:=k.sz;have:=k.ro
   lia
  ·split at e1
   ·rename_i hj
    split at e2
    ·rename_i hj'
     have q1:=hj.choose_spec
     have q2:=hj'.choose_spec
     rw [qoi e1] at q1
     rw [qoi e2] at q2
     rw [q1] at q2
     exact qoi q2
    ·cases e2
   ·cases e1
 obtain ⟨e,he,hne⟩:=ex
 obtain ⟨N,b,h3,h4,h5,h6⟩:=znc h1 h (In t) he hne
 have:=zm8 t.mask h b
 exact ⟨N,by lia,h5,h6⟩
theorem ztw (k:TOk t es) (h:Int) (hN:¬In t (pn t.mask h N).j) (hl:∀m,m<N->In t (pn t.mask h m).j) (ha:Nat->Int) :
  ∀(fuel m:Nat),m<=N->N-m<fuel ->
   (∃m' i,m<=m'/\m' < N/\t.place[i]? = some (pn t.mask h m').j/\ha i=h/\(∀m'' i',m<=m''->m'' < m'->t.place[i']? = some (pn t.mask h m'').j->ha i'≠h) /\
    probe.go t ha h fuel (pn t.mask h m)=some (.candidate (pn t.mask h m').j i (pn t.mask h (m' + 1)))) \/
   ((∀m'' i',m<=m''->m'' < N->t.place[i']? = some (pn t.mask h m'').j->ha i'≠h)/\probe.go t ha h fuel (pn t.mask h m)=some (.empty (pn t.mask h N).j none)):=by
 intro fuel
 induction fuel with
 | zero=>intro m h1 h2;lia
 | succ fuel ih =>
  intro m h1 h2
  unfold probe.go
  rcases Nat.lt_or_ge m N with hm|hm
  ·obtain ⟨i,hi⟩:=hl m hm
   rw [ztu k.ris hi]
   dsimp only
   by_cases e:ha i=h
   ·rw [if_pos (by simpa using e)]
    exact .inl ⟨m,i,qlr _,hm,hi,e,λm'' i' q1 q2=>by lia,rfl⟩
   ·rw [if_neg (by simpa using e),ztn]
    show _\/(_/\probe.go t ha h fuel (pn t.mask h (m+1))=_)
    have here:∀i',t.place[i']? = some (pn t.mask h m).j->ha i'≠h:=λi' hi'=>by
     have e1:=zks k.ris hi
     have e2:=zks k.ris hi'
     rw [e1] at e2
     rw [<-e2];exact e
    rcases ih (m+1) hm (by lia) with ⟨m',i',q1,q2,q3,q4,q5,q6⟩|⟨q1,q2⟩
    ·refine .inl ⟨m',i',by lia,q2,q3,q4,λm'' i'' r1 r2 r3=>?_,q6⟩
     by_cases c:m'' = m
     ·subst c;exact here i'' r3
     ·exact q5 m'' i'' (by lia) r2 r3
    ·refine .inr ⟨λm'' i'' r1 r2 r3=>?_,q2⟩
     by_cases c:m'' = m
     ·subst c;exact here i'' r3
     ·exact q1 m'' i'' (by lia) r2 r3
  ·have e:m=N:=by lia
   subst e
   rw [ztv k.dm λi hi=>hN ⟨i,hi⟩]
   exact .inr ⟨λm'' i' q1 q2=>by lia,by rw [(zkq t.mask h m).2.2]⟩
theorem zfa {α:Type}{xs:Array α}{p:Nat}{x:α}(hp:p<=xs.size) (i:Nat):(insertAt xs p x)[i]? = if i<p then xs[i]? else if i=p then some x else xs[i-1]?:=by
 rw [<-Array.getElem?_toList,toList_insertAt]
 have hl:(xs.toList.take p).length=p:=by rw [List.length_take,Array.length_toList];lia
 by_cases h1:i<p
 ·rw [if_pos h1,List.getElem?_append_left (by lia),List.getElem?_take_of_lt h1,Array.getElem?_toList]
 ·rw [if_neg h1,List.getElem?_append_right (by lia),hl]
  by_cases h2:i=p
  ·rw [if_pos h2,h2,Nat.sub_self];rfl
  ·rw [if_neg h2,show i-p=(i-p-1)+1 by lia,List.getElem?_cons_succ,List.getElem?_drop,Array.getElem?_toList]
   congr 1;lia
theorem zdk {α:Type}{xs:Array α}{p:Nat}{x:α}:(insertAt xs p x).size=xs.size+1:=by
 rw [<-Array.length_toList,(insertAt_perm xs p x).length_eq];simp
theorem ztx (j:Nat):has #[] j=false:=by simp [has]
theorem zgm {t:SetTable}(hd:t.dummies = #[]) (j:Nat):t.put j=({ t with place:=insertAt t.place (below t.place j) j },below t.place j):=by
 unfold put
 rw [hd,ztx]
 cases t
 simp only at hd
 subst hd
 rfl
theorem zty {t:SetTable}(hr:Ris t.place) (j:Nat) (x:Nat):In { t with place:=insertAt t.place (below t.place j) j } x↔x=j\/In t x:=by
 have hb:=(zgl hr j).1
 constructor
 ·rintro ⟨i,hi⟩
  have hi:(insertAt t.place (below t.place j) j)[i]? = some x:=hi
  rw [zfa hb] at hi
  split at hi
  ·exact .inr ⟨i,hi⟩
  ·split at hi
   ·exact .inl (qoi hi).symm
   ·exact .inr ⟨_,hi⟩
 ·rintro (rfl|⟨i,hi⟩)
  ·refine ⟨below t.place x,?_⟩
   show (insertAt t.place (below t.place x) x)[_]? = some x
   rw [zfa hb,if_neg (Nat.lt_irrefl _),if_pos rfl]
  ·by_cases c:i<below t.place j
   ·exact ⟨i,by show (insertAt t.place (below t.place j) j)[i]? = some x;rw [zfa hb,if_pos c];exact hi⟩
   ·exact ⟨i+1,by show (insertAt t.place (below t.place j) j)[i+1]? = some x;rw [zfa hb,if_neg (by lia),if_neg (by lia)];exact hi⟩
theorem ztz {xs:Array Nat}(hr:Ris xs) {j:Nat}(hj:∀i:Nat,xs[i]?≠some j):Ris (insertAt xs (below xs j) j):=by
 obtain ⟨b1,b2,b3⟩:=zgl hr j
 have b4:∀i,below xs j<=i->i<xs.size->j<xs.getD i 0:=λi h1 h2=>by
  have:=b3 i h1 h2
  have:xs.getD i 0≠j:=λe=>hj i (by rw [zkr h2 0,e])
  lia
 have g:∀i,i<(insertAt xs (below xs j) j).size->(insertAt xs (below xs j) j).getD i 0=if i<below xs j then xs.getD i 0 else if i=below xs j then j else xs.getD (i-1) 0:=λi hi=>by
  have q:=zfa (x:=j) b1 i
  rw [zkr hi 0] at q
  rw [zdk] at hi
  split at q
  ·rename_i c;rw [if_pos c];exact ((zhe q.symm 0).2).symm
  ·rename_i c
   rw [if_neg c]
   split at q
   ·rename_i c2;rw [if_pos c2];exact qoi q
   ·rename_i c2;rw [if_neg c2];exact ((zhe q.symm 0).2).symm
 intro a b hab hb
 rw [g a (by lia),g b hb]
 rw [zdk] at hb
 by_cases c1:a<below xs j
 ·rw [if_pos c1]
  by_cases c2:b<below xs j
  ·rw [if_pos c2];exact hr a b hab (by lia)
  ·rw [if_neg c2]
   have:=b2 a c1
   by_cases c3:b=below xs j
   ·rw [if_pos c3];exact this
   ·rw [if_neg c3]
    have:=b4 (b-1) (by lia) (by lia)
    lia
 ·rw [if_neg c1,if_neg (show ¬b<below xs j by lia),if_neg (show ¬b=below xs j by lia)]
  by_cases c3:a=below xs j
  ·rw [if_pos c3];exact b4 (b-1) (by lia) (by lia)
  ·rw [if_neg c3];exact hr (a-1) (b-1) (by lia) (by lia)
theorem TOk.put {t:SetTable}{es:Array (Int × Value)}(k:TOk t es) {h:Int}{x:Value}{N:Nat}(hN:¬In t (pn t.mask h N).j) (hl:∀m,m<N->In t (pn t.mask h m).j) (hro:(es.size+1)*5<t.mask*3) :
  TOk (t.put (pn t.mask h N).j).1 (insertAt es (t.put (pn t.mask h N).j).2 (h,x)):=by
 rw [zgm k.dm]
 have hb:=(zgl k.ris (pn t.mask h N).j).1
 have hbe:=hb
 rw [k.sz] at hbe
 have inn:=zty k.ris (pn t.mask h N).j
 refine ⟨k.dm,?_,k.pw,ztz k.ris λi hi=>hN ⟨i,hi⟩,λj hj=>?_,?_,k.sm,λi h' v hi=>?_⟩
 ·show (insertAt t.place _ _).size=(insertAt es _ _).size
  rw [zdk,zdk,k.sz]
 ·rcases (inn j).mp hj with rfl|hj
  ·exact (zkq _ _ _).1
  ·exact k.le j hj
 ·rw [zdk];exact hro
 ·rw [zfa hbe] at hi
  show ∃n,(insertAt t.place (below t.place (pn t.mask h N).j) (pn t.mask h N).j)[i]? = some (pn t.mask h' n).j/\_
  rw [zfa hb]
  have up:∀n,(∀m,m<n->In t (pn t.mask h' m).j)->∀m,m<n->In { t with place:=insertAt t.place (below t.place (pn t.mask h N).j) (pn t.mask h N).j } (pn t.mask h' m).j:=λn q m hm=>(inn _).mpr (.inr (q m hm))
  split at hi
  ·rename_i c
   rw [if_pos c]
   obtain ⟨n,e1,e2⟩:=k.pr i h' v hi
   exact ⟨n,e1,up n e2⟩
  ·rename_i c
   rw [if_neg c]
   split at hi
   ·rename_i c2
    rw [if_pos c2]
    cases hi
    exact ⟨N,rfl,up N hl⟩
   ·rename_i c2
    rw [if_neg c2]
    obtain ⟨n,e1,e2⟩:=k.pr _ h' v hi
    exact ⟨n,e1,up n e2⟩
theorem zt0 (n:Nat):∀(fuel k:Nat),n<2 ^ (k+fuel)->∃k',k<=k'/\sizeAbove.go n fuel (2 ^ k)=2 ^ k'/\n<2 ^ k'/\(k' = k\/2 ^ k'<=2*n):=by
 intro fuel
 induction fuel with
 | zero=>intro k h;exact ⟨k,qlr _,rfl,h,.inl rfl⟩
 | succ fuel ih =>
  intro k h
  unfold sizeAbove.go
  by_cases c:2 ^ k<=n
  ·rw [if_pos c,<-Nat.pow_succ]
   obtain ⟨k',h1,h2,h3,h4⟩:=ih (k+1) (by rw [show k+1+fuel=k+(fuel+1) by lia];exact h)
   refine ⟨k',by lia,h2,h3,.inr ?_⟩
   rcases h4 with rfl|h4
   ·rw [Nat.pow_succ];lia
   ·exact h4
  ·rw [if_neg c]
   exact ⟨k,qlr _,rfl,by lia,.inl rfl⟩
theorem znd {n:Nat}(h:n<=4000):∃k,3<=k/\sizeAbove n=2 ^ k/\n<2 ^ k/\2 ^ k<=8000:=by
 obtain ⟨k',h1,h2,h3,h4⟩:=zt0 n 64 3 (Nat.lt_of_le_of_lt h (by decide))
 refine ⟨k',h1,h2,h3,?_⟩
 rcases h4 with rfl|h4
 ·decide
 ·lia
def Occ (ow:Array (Option Nat)) (j:Nat):Prop:=∃i,ow[j]? = some (some i)
instance (ow:Array (Option Nat)):DecidablePred (Occ ow):=λj=>match h:ow[j]? with
 | some (some i)=>.isTrue ⟨i,h⟩
 | some none=>.isFalse λhx1_=>by obtain ⟨i,z⟩:=hx1_;rw [h] at z;cases z
 | none=>.isFalse λhx2_=>by obtain ⟨i,z⟩:=hx2_;rw [h] at z;cases z
theorem zkt {ow:Array (Option Nat)}{j:Nat}(hj:j<ow.size):(ow.getD j (some 0)).isNone = !decide (Occ ow j):=by
 have e:ow[j]? = some ow[j]:=Array.getElem?_eq_getElem hj
 have e2:ow.getD j (some 0)=ow[j]:=by simp [Array.getD,hj]
 rw [e2]
 cases c:ow[j] with
 | none =>
  rw [decide_eq_false (λhx3_=>by obtain ⟨i,z⟩:=hx3_;rw [e,c] at z;cases z)];rfl
 | some i =>
  rw [decide_eq_true (show Occ ow j from ⟨i,by rw [e,c]⟩)];rfl
theorem zt1 {P:Nat->Bool}:∀(n d:Nat),d<n->P d=true->(∀k,k<d->P k=false)->(List.range n).find? P=some d:=by
 intro n d hd hp hb
 rw [List.find?_range_eq_some]
 exact ⟨hp,by simpa using hd,λj hj=>by simpa using hb j hj⟩
theorem zt2 {mask:Nat}{h:Int}{ow:Array (Option Nat)}(hs:ow.size=mask+1) {N b:Nat}(hN:¬Occ ow (pn mask h N).j) (hl:∀m,m<N->Occ ow (pn mask h m).j) (hb:N<=ss mask h b) :
  ∀(fuel n:Nat),n<=b->b-n<fuel->ss mask h n<=N->layClean.free mask ow fuel (bl mask h n).1 (bl mask h n).2=some (pn mask h N).j:=by
 intro fuel
 induction fuel with
 | zero=>intro n h1 h2;lia
 | succ fuel ih =>
  intro n h1 h2 h3
  have hil:=zna mask h n
  have hre:(bl mask h n).1<=runEnd mask (bl mask h n).1:=by unfold runEnd;split <;> lia
  have hrm:=zkp hil
  have at':∀d,d<=runEnd mask (bl mask h n).1-(bl mask h n).1->(pn mask h (ss mask h n+d)).j=(bl mask h n).1+d:=λd hd=>by rw [zkn (zko mask h n) d hd]
  unfold layClean.free
  by_cases c:N-ss mask h n<=runEnd mask (bl mask h n).1-(bl mask h n).1
  ·have e:=at' _ c
   rw [show ss mask h n+(N-ss mask h n)=N by lia] at e
   rw [zt1 _ (N-ss mask h n) (by lia) (by rw [zkt (by lia),<-e,decide_eq_false hN];rfl) λk hk=>by
    rw [zkt (by lia),<-at' k (by lia),decide_eq_true (hl _ (by lia))];rfl]
   rw [e]
  ·have hn:(List.range (runEnd mask (bl mask h n).1+1-(bl mask h n).1)).find? (λk=>(ow.getD ((bl mask h n).1+k) (some 0)).isNone)=none:=by
    rw [List.find?_eq_none]
    intro k hk
    have hk:=List.mem_range.mp hk
    rw [zkt (by lia),<-at' k (by lia),decide_eq_true (hl _ (by lia))]
    simp
   rw [hn]
   show layClean.free mask ow fuel (bl mask h (n+1)).1 (bl mask h (n+1)).2=_
   have hnb:n≠b:=λe=>by subst e;lia
   exact ih (n+1) (by lia) (by lia) (by show ss mask h n+_+1<=N;lia)
structure Own (mask:Nat) (ow:Array (Option Nat)) (hs:List Int):Prop where
 size:ow.size=mask+1
 pr:∀(j i:Nat),ow[j]? = some (some i)->∃h,hs[i]? = some h/\∃n,(pn mask h n).j=j/\∀m,m<n->Occ ow (pn mask h m).j
 all:∀i,i<hs.length->∃j:Nat,ow[j]? = some (some i)
 inj:∀(j j' i:Nat),ow[j]? = some (some i)->ow[j']? = some (some i)->j=j'
theorem zgn {ow:Array (Option Nat)}{j i:Nat}{x:Option Nat}(hj:j<ow.size):(ow.setIfInBounds j x)[i]? = if i=j then some x else ow[i]?:=by
 rw [Array.getElem?_setIfInBounds]
 by_cases c:j=i
 ·subst c;simp [hj]
 ·rw [if_neg c,if_neg (λe=>c e.symm)]
theorem Own.step {mask k:Nat}(hk:mask+1=2 ^ k) {ow:Array (Option Nat)}{hs:List Int}(o:Own mask ow hs) (h:Int) (hl:hs.length<mask+1) :
  ∃j,layClean.free mask ow (turns mask) (bits h % (mask+1)) (bits h)=some j/\Own mask (ow.setIfInBounds j (some hs.length)) (hs++[h]):=by
 have ex:∃e,e<=mask/\¬Occ ow e:=by
  refine Decidable.byContradiction λhc=>?_
  have all:∀e,e<=mask->Occ ow e:=λe he=>Decidable.byContradiction λz=>hc ⟨e,he,z⟩
  refine pigeon mask (λj=>(ow[j]?).join) (λj hj=>?_) λj j' i l1 l2 e1 e2=>?_
  ·obtain ⟨i,hi⟩:=all j (by lia)
   obtain ⟨h',e1,_⟩:=o.pr j i hi
   have:=(qme e1).1
   exact ⟨i,by rw [hi];rfl,by lia⟩
  ·obtain ⟨i1,q1⟩:=all j (by lia)
   obtain ⟨i2,q2⟩:=all j' (by lia)
   rw [q1] at e1;rw [q2] at e2
   cases e1;cases e2
   exact o.inj j j' i q1 q2
 obtain ⟨e,he,hne⟩:=ex
 obtain ⟨N,b,h3,h4,h5,h6⟩:=znc hk h (Occ ow) he hne
 have hj:=(zkq mask h N).1
 have hjs:(pn mask h N).j<ow.size:=by rw [o.size];lia
 refine ⟨(pn mask h N).j,zt2 o.size h5 h6 h3 _ 0 (Nat.zero_le _) (by unfold turns;lia) (Nat.zero_le _),?_⟩
 have up:∀x,Occ ow x->Occ (ow.setIfInBounds (pn mask h N).j (some hs.length)) x:=λx hx4_=>by
  obtain ⟨i,hi⟩:=hx4_
  by_cases c:x=(pn mask h N).j
  ·exact ⟨hs.length,by rw [zgn hjs,if_pos c]⟩
  ·exact ⟨i,by rw [zgn hjs,if_neg c];exact hi⟩
 refine ⟨by simp [o.size],λj i hi=>?_,λi hi=>?_,λj j' i q1 q2=>?_⟩
 ·rw [zgn hjs] at hi
  split at hi
  ·rename_i c
   cases hi
   exact ⟨h,by simp,N,c.symm,λm hm=>up _ (h6 m hm)⟩
  ·obtain ⟨h',e1,n,e2,e3⟩:=o.pr j i hi
   refine ⟨h',?_,n,e2,λm hm=>up _ (e3 m hm)⟩
   rw [List.getElem?_append_left (qme e1).1];exact e1
 ·rw [qla,List.length_singleton] at hi
  by_cases c:i=hs.length
  ·exact ⟨(pn mask h N).j,by rw [zgn hjs,if_pos rfl,c]⟩
  ·obtain ⟨j,hj⟩:=o.all i (by lia)
   refine ⟨j,?_⟩
   rw [zgn hjs,if_neg (λ(e:j=(pn mask h N).j)=>h5 (by rw [<-e];exact ⟨i,hj⟩))];exact hj
 ·rw [zgn hjs] at q1 q2
  have lt:∀x,ow[x]? = some (some i)->i<hs.length:=λx hx=>let ⟨_,e,_⟩:=o.pr x i hx;(qme e).1
  split at q1
  ·rename_i c1
   split at q2
   ·rename_i c2;rw [c1,c2]
   ·cases q1;have:=lt _ q2;lia
  ·split at q2
   ·cases q2;have:=lt _ q1;lia
   ·exact o.inj j j' i q1 q2
noncomputable def zhf (mask:Nat) (acc:Option (Array (Option Nat) × Nat)) (h:Int):Option (Array (Option Nat) × Nat):=do
 let (owner,k) <-acc
 let j <-layClean.free mask owner (turns mask) (bits h % (mask+1)) (bits h)
 pure (owner.setIfInBounds j (some k),k+1)
theorem zt3 (mask:Nat) (hashes:Array Int):layClean mask hashes=(hashes.toList.foldl (zhf mask) (some (Array.replicate (mask+1) none,0))).map (·.1):=by
 unfold layClean
 rw [<-Array.foldl_toList]
 rfl
theorem zne {mask k:Nat}(hk:mask+1=2 ^ k):∀(rest done:List Int) (ow:Array (Option Nat)),Own mask ow done->done.length+rest.length<mask+1 ->
  ∃ow',rest.foldl (zhf mask) (some (ow,done.length))=some (ow',done.length+rest.length)/\Own mask ow' (done++rest)
 | [],done,ow,o,_=>⟨ow,rfl,by rw [List.append_nil];exact o⟩
 | h :: rest,done,ow,o,hl=>by
  rw [List.length_cons] at hl
  obtain ⟨j,hj,o'⟩:=o.step hk h (by lia)
  have e:zhf mask (some (ow,done.length)) h=some (ow.setIfInBounds j (some done.length),(done++[h]).length):=by
   unfold zhf
   simp only [Option.bind_eq_bind,Option.bind_some,hj]
   simp
  obtain ⟨ow',h1,h2⟩:=zne hk rest (done++[h]) _ o' (by simp;lia)
  refine ⟨ow',?_,by simpa using h2⟩
  rw [List.foldl_cons,e,h1]
  simp;lia
theorem zt4 (mask:Nat):Own mask (Array.replicate (mask+1) none) []:=by
 have no:∀(j i:Nat),(Array.replicate (mask+1) (none:Option Nat))[j]?≠some (some i):=λj i h=>by
  rw [Array.getElem?_replicate] at h
  split at h <;> cases h
 exact ⟨by simp,λj i h=>absurd h (no j i),λi h=>absurd h (Nat.not_lt_zero _),λj j' i h _=>absurd h (no j i)⟩
theorem znf {mask k:Nat}(hk:mask+1=2 ^ k) (hashes:Array Int) (hl:hashes.size<mask+1):∃ow,layClean mask hashes=some ow/\Own mask ow hashes.toList:=by
 obtain ⟨ow,h1,h2⟩:=zne hk hashes.toList [] _ (zt4 mask) (by simpa using hl)
 refine ⟨ow,?_,by simpa using h2⟩
 rw [zt3]
 have h1:List.foldl (zhf mask) (some (Array.replicate (mask+1) none,0)) hashes.toList=_:=h1
 rw [h1];rfl
noncomputable def lv (mask:Nat) (ow:Array (Option Nat)):List (Nat × Nat):=(List.range (mask+1)).filterMap λj=>(ow.getD j none).map (j,·)
theorem zng {mask:Nat}{ow:Array (Option Nat)}{hs:List Int}(o:Own mask ow hs) (p:Nat × Nat):p∈lv mask ow↔ow[p.1]? = some (some p.2):=by
 unfold lv
 rw [List.mem_filterMap]
 constructor
 ·rintro ⟨j,hj,e⟩
  have hj:=List.mem_range.mp hj
  have hjs:j<ow.size:=by rw [o.size];exact hj
  have e2:ow.getD j none=ow[j]:=by simp [Array.getD,hjs]
  rw [e2] at e
  cases c:ow[j] with
  | none=>rw [c] at e;cases e
  | some i =>
   rw [c] at e
   cases e
   show ow[j]? = some (some i)
   rw [Array.getElem?_eq_getElem hjs,c]
 ·intro h
  obtain ⟨hjs,e⟩:=Array.getElem?_eq_some_iff.mp h
  refine ⟨p.1,List.mem_range.mpr (by rw [<-o.size];exact hjs),?_⟩
  have e2:ow.getD p.1 none=ow[p.1]:=by simp [Array.getD,hjs]
  rw [e2,e];rfl
theorem znh {f:Nat->Option (Nat × Nat)}(hf:∀j p,f j=some p->p.1=j):∀(n s:Nat),((List.range' s n).filterMap f).Pairwise (λp q=>p.1<q.1)/\∀p∈(List.range' s n).filterMap f,s<=p.1
 | 0,s=>⟨.nil,λp hp=>by simp at hp⟩
 | n+1,s=>by
  obtain ⟨h1,h2⟩:=znh hf n (s+1)
  rw [List.range'_succ]
  cases e:f s with
  | none=>rw [List.filterMap_cons_none e];exact ⟨h1,λp hp=>by have:=h2 p hp;lia⟩
  | some q =>
   rw [List.filterMap_cons_some e]
   have hq:=hf s q e
   refine ⟨List.pairwise_cons.mpr ⟨λp hp=>by have:=h2 p hp;lia,h1⟩,λp hp=>?_⟩
   rcases List.mem_cons.mp hp with rfl|hp
   ·lia
   ·have:=h2 p hp;lia
theorem zni (mask:Nat) (ow:Array (Option Nat)):(lv mask ow).Pairwise λp q=>p.1<q.1:=by
 unfold lv
 rw [List.range_eq_range']
 refine (znh (λj p e=>?_) _ _).1
 cases c:ow.getD j none with
 | none=>rw [c] at e;cases e
 | some i=>rw [c] at e;cases e;rfl
theorem zt5:∀(l:List (Nat × Nat)) (n:Nat),(∀(a b:Nat) p q,l[a]? = some p->l[b]? = some q->p.2=q.2->a=b)->(∀p∈l,p.2<n)->(∀i,i<n->∃p∈l,p.2=i)->l.length=n:=by
 intro l n inj lt all
 rcases Nat.lt_trichotomy l.length n with h|h|h
 ·exfalso
  have key:∀i,i<n->∃a:Nat,∃p,l[a]? = some p/\p.2=i:=λi hi=>by
   obtain ⟨p,hp,e⟩:=all i hi
   obtain ⟨a,ha⟩:=List.mem_iff_getElem?.mp hp
   exact ⟨a,p,ha,e⟩
  obtain ⟨f,hf⟩:∃f:Nat->Nat,∀i,i<n->∃p,l[f i]? = some p/\p.2=i:=⟨λi=>if hi:i<n then (key i hi).choose else 0,λi hi=>by dsimp only;rw [dif_pos hi];exact (key i hi).choose_spec⟩
  refine pigeon l.length (λi=>some (f i)) (λi hi=>⟨f i,rfl,?_⟩) λi j a l1 l2 e1 e2=>?_
  ·obtain ⟨p,hp,_⟩:=hf i (by lia)
   exact (qme hp).1
  ·obtain ⟨p,hp,hpi⟩:=hf i (by lia)
   obtain ⟨q,hq,hqj⟩:=hf j (by lia)
   cases e1
   rw [qoi e2,hp] at hq
   cases hq
   lia
 ·exact h
 ·exfalso
  refine pigeon n (λa=>(l[a]?).map (·.2)) (λa ha=>?_) λa b i l1 l2 e1 e2=>?_
  ·have:a<l.length:=by lia
   exact ⟨l[a].2,by rw [qge this];rfl,lt _ (List.getElem_mem this)⟩
  ·have h1:a<l.length:=by lia
   have h2:b<l.length:=by lia
   rw [qge h1] at e1
   rw [qge h2] at e2
   exact inj a b l[a] l[b] (qge h1) (qge h2) ((qoi e1).trans (qoi e2).symm)
theorem zt6 {t:SetTable}{es:Array (Int × Value)}(hz:0<es.size) (hs:es.size<=1000) :
  ∃t' order es',t.relaid (es.map (·.1)) (grown es.size)=some (t',order)/\order.filterMap (es[·]?)=es'/\es'.size=es.size/\TOk t' es'/\∀e,e∈es'.toList↔e∈es.toList:=by
 have hg:grown es.size=es.size*4:=by unfold grown;rw [if_neg (by lia)]
 obtain ⟨k,hk3,hsa,hlt,hle⟩:=znd (n:=es.size*4) (by lia)
 unfold relaid
 rw [hg,hsa]
 generalize hm:2 ^ k-1=mask
 have hk:mask+1=2 ^ k:=by lia
 obtain ⟨ow,hl,o⟩:=znf hk (es.map (·.1)) (by rw [Array.size_map];lia)
 unfold laid
 rw [hl]
 have hlen:(es.map (·.1)).toList.length=es.size:=by simp
 have mem:=zng o
 have srt:=zni mask ow
 have e2lt:∀p∈lv mask ow,p.2<es.size:=λp hp=>by
  obtain ⟨h,e,_⟩:=o.pr p.1 p.2 ((mem p).mp hp)
  rw [<-hlen];exact (qme e).1
 have inj2:∀(a b:Nat) p q,(lv mask ow)[a]? = some p->(lv mask ow)[b]? = some q->p.2=q.2->a=b:=λa b p q ha hb e=>by
  have m1:=(mem p).mp (qmg ha)
  have m2:=(mem q).mp (qmg hb)
  rw [e] at m1
  have e1:=o.inj _ _ _ m1 m2
  rcases Nat.lt_trichotomy a b with h|h|h
  ·have:=(List.pairwise_iff_getElem.mp srt) a b (qme ha).1 (qme hb).1 h
   rw [(qme ha).2,(qme hb).2] at this
   lia
  ·exact h
  ·have:=(List.pairwise_iff_getElem.mp srt) b a (qme hb).1 (qme ha).1 h
   rw [(qme ha).2,(qme hb).2] at this
   lia
 have len:(lv mask ow).length=es.size:=zt5 _ _ inj2 e2lt λi hi=>by
  obtain ⟨j,hj⟩:=o.all i (by rw [hlen];exact hi)
  exact ⟨(j,i),(mem (j,i)).mpr hj,rfl⟩
 have fm:∀l:List (Nat × Nat),(∀p∈l,p.2<es.size)->(l.map (·.2)).filterMap (es[·]?)=l.map λp=>es.getD p.2 (0,.none):=by
  intro l
  induction l with
  | nil=>intro _;rfl
  | cons p l ih =>
   intro h
   have hp:=h p (.head _)
   rw [List.map_cons,List.filterMap_cons_some (b:=es[p.2]) (Array.getElem?_eq_getElem hp),ih (λq hq=>h q (.tail _ hq)),List.map_cons]
   congr 1
   simp [Array.getD,hp]
 refine ⟨_,_,_,rfl,rfl,?_⟩
 show (Array.filterMap (es[·]?) ((lv mask ow).map (·.2)).toArray).size=es.size/\TOk { mask:=mask,place:=((lv mask ow).map (·.1)).toArray,dummies:=#[],finger:=t.finger,led:=t.led,moves:=t.movedTo mask,plain:=t.plain } (Array.filterMap (es[·]?) ((lv mask ow).map (·.2)).toArray)/\_
 have efm:Array.filterMap (es[·]?) ((lv mask ow).map (·.2)).toArray=((lv mask ow).map λp=>es.getD p.2 (0,.none)).toArray:=by
  apply Array.toList_inj.mp
  rw [Array.toList_filterMap]
  exact fm _ e2lt
 have inn:∀j,In { mask:=mask,place:=((lv mask ow).map (·.1)).toArray,dummies:=#[],finger:=t.finger,led:=t.led,moves:=t.movedTo mask,plain:=t.plain } j↔Occ ow j:=λj=>by
  constructor
  ·rintro ⟨i,hi⟩
   have hi:(((lv mask ow).map (·.1)).toArray)[i]? = some j:=hi
   rw [List.getElem?_toArray,qgm] at hi
   cases c:(lv mask ow)[i]? with
   | none=>rw [c] at hi;cases hi
   | some p =>
    rw [c] at hi
    have hi:p.1=j:=qoi hi
    subst hi
    exact ⟨p.2,(mem p).mp (qmg c)⟩
  ·rintro ⟨i,hi⟩
   obtain ⟨a,ha⟩:=List.mem_iff_getElem?.mp ((mem (j,i)).mpr hi)
   refine ⟨a,?_⟩
   show (((lv mask ow).map (·.1)).toArray)[a]? = some j
   rw [List.getElem?_toArray,qgm,ha];rfl
 rw [efm]
 refine ⟨by simp [len],⟨rfl,by simp,⟨k,hk,hk3⟩,λi j hij hj=>?_,λj hj=>?_,?_,by show mask<8192;lia,λi h v hi=>?_⟩,λe=>?_⟩
 ·have hj:j<(lv mask ow).length:=by simpa using hj
  show (((lv mask ow).map (·.1)).toArray).getD i 0<(((lv mask ow).map (·.1)).toArray).getD j 0
  have h1:i<(lv mask ow).length:=by lia
  have:=(List.pairwise_iff_getElem.mp srt) i j h1 hj hij
  simpa [Array.getD,h1,hj] using this
 ·obtain ⟨i,hi⟩:=(inn j).mp hj
  have:=(Array.getElem?_eq_some_iff.mp hi).1
  rw [o.size] at this
  show j<=mask
  lia
 ·show (((lv mask ow).map λp=>es.getD p.2 (0,.none)).toArray).size*5<mask*3
  simp [len];lia
 ·have hi:(((lv mask ow).map λp=>es.getD p.2 (0,.none)).toArray)[i]? = some (h,v):=hi
  rw [List.getElem?_toArray,qgm] at hi
  cases c:(lv mask ow)[i]? with
  | none=>rw [c] at hi;cases hi
  | some p =>
   rw [c] at hi
   have hi:es.getD p.2 (0,.none)=(h,v):=qoi hi
   have hp:=qmg c
   have hps:=e2lt p hp
   obtain ⟨h',e1,n,e3,e4⟩:=o.pr p.1 p.2 ((mem p).mp hp)
   have eh:h' = h:=by
    rw [Array.toList_map,qgm,Array.getElem?_toList,Array.getElem?_eq_getElem hps] at e1
    have e1:es[p.2].1=h':=qoi e1
    rw [<-e1]
    have:es.getD p.2 (0,.none)=es[p.2]:=by simp [Array.getD,hps]
    rw [<-this,hi]
   subst eh
   refine ⟨n,?_,λm hm=>(inn _).mpr (e4 m hm)⟩
   show (((lv mask ow).map (·.1)).toArray)[i]? = some _
   rw [List.getElem?_toArray,qgm,c,e3];rfl
 ·show e∈(Array.filterMap (es[·]?) ((lv mask ow).map (·.2)).toArray).toList↔_
  rw [efm]
  show e∈(lv mask ow).map (λp=>es.getD p.2 (0,.none))↔_
  rw [List.mem_map]
  constructor
  ·rintro ⟨p,hp,rfl⟩
   have hps:=e2lt p hp
   have:es.getD p.2 (0,.none)=es[p.2]:=by simp [Array.getD,hps]
   rw [this]
   exact Array.mem_toList_iff.mpr (Array.getElem_mem hps)
  ·intro he
   obtain ⟨i,hi,rfl⟩:=List.mem_iff_getElem.mp he
   rw [Array.length_toList] at hi
   obtain ⟨j,hj⟩:=o.all i (by rw [hlen];exact hi)
   refine ⟨(j,i),(mem (j,i)).mpr hj,?_⟩
   simp [Array.getD,hi]
theorem zt7 (k:TOk t es) (hN:¬In t (pn t.mask h N).j) (hl:∀m,m<N->In t (pn t.mask h m).j) (hb:N<10*(t.mask+14)) (hm:m<=N)
  (hq:t.probe ha h p=r) (hp:p=pn t.mask h m) :
   (∃m' i,m<=m'/\m' < N/\t.place[i]? = some (pn t.mask h m').j/\ha i=h/\(∀m'' i',m<=m''->m'' < m'->t.place[i']? = some (pn t.mask h m'').j->ha i'≠h)/\r=some (.candidate (pn t.mask h m').j i (pn t.mask h (m' + 1)))) \/
   ((∀m'' i',m<=m''->m'' < N->t.place[i']? = some (pn t.mask h m'').j->ha i'≠h)/\r=some (.empty (pn t.mask h N).j none)):=by
 subst hq hp
 exact ztw k h hN hl ha _ m hm (by unfold turns;lia)
noncomputable def znj (ks:List Int):Int:=reduceHash (Builtin.Tuple.tupleHashOf (ks.map hashInt))
section
structure Els (es:Array (Int × Value)) (xs:List (List Int × Addr)):Prop where
 sub:∀e∈es.toList,∃p∈xs,e=(znj p.1,.ref p.2)
 sup:∀p∈xs,(znj p.1,Value.ref p.2)∈es.toList
 len:es.size=xs.length
end
def zt8 (o:Obj) (xs:List (List Int × Addr)):Prop:=o.ExactSet/\∃es ep t,o.data=.set es ep t/\TOk t es/\Els es xs
def TSet (a:Addr) (xs:List (List Int × Addr)) (h:Heap):Prop:=∃o,h.get? a=some o/\zt8 o xs
section
variable {prog:Program}{w:World}{A:Around}{E:Value->Shared->Prop}{s:Shared}{a x:Addr}{k:List Int}{xs:List (List Int × Addr)}
end
end TS
namespace BF
def lx:List Nat->List Nat->Prop
 | a :: u,b :: v=>a<b\/(a=b/\lx u v)
 | _,_=>False
def sl (u v:List Nat):Prop:=u.length<v.length\/(u.length=v.length/\lx u v)
def le (u v:List Nat):Prop:=sl u v\/u=v
abbrev P:=Nat × Nat
section
variable (A:Nat) (step:P->Nat->Option P) (fail:P->Nat->Bool)
noncomputable def walk:P->List Nat->Option P
 | p,[]=>some p
 | p,a :: w=>(step p a).bind λq=>walk q w
def Fails (p:P) (w:List Nat):Prop:=∃u b q,w=u++[b]/\b<A/\(∀a∈u,a<A)/\walk step p u=some q/\fail q b=true
end
section
structure Bf (A:Nat) (step:P->Nat->Option P) (fail:P->Nat->Bool) (p0:P) (ps:List P) (ws:List (List Nat)) (i c:Nat):Prop where
 len:ws.length=ps.length
 z:ps[0]? = some p0/\ws[0]? = some []
 wk:∀(k:Nat) q w,ps[k]? = some q->ws[k]? = some w->walk step p0 w=some q/\∀a∈w,a<A
 inc:∀(k l:Nat) u v,k<l->ws[k]? = some u->ws[l]? = some v->sl u v
 cl:∀(k:Nat) q w a q',((k<i/\a<A)\/(k=i/\a<c))->ps[k]? = some q->ws[k]? = some w->step q a=some q'->∃(l:Nat) (u:List Nat),ps[l]? = some q'/\ws[l]? = some u/\le u (w++[a])
 nf:∀(k:Nat) q a,((k<i/\a<A)\/(k=i/\a<c))->ps[k]? = some q->fail q a=false
 top:∀(k:Nat) w u,ws[k]? = some w->ws[i]? = some u->sl w (u++[c])
 nd:ps.Nodup
section
end
def Fn (A:Nat) (step:P->Nat->Option P) (fail:P->Nat->Bool) (n:Nat) (p:P):Prop:=∃w,Fails A step fail p w/\w.length=n
def Ds (A:Nat) (step:P->Nat->Option P) (fail:P->Nat->Bool) (p:P) (n:Nat):Prop:=Fn A step fail n p/\∀m,m<n->¬Fn A step fail m p
theorem fails_cons {p q:P}{a:Nat}{w:List Nat}(ha:a<A) (hs:step p a=some q) (h:Fails A step fail q w):Fails A step fail p (a :: w):=by
 obtain ⟨u,b,r,rfl,h1,h2,h3,h4⟩:=h
 refine ⟨a :: u,b,r,rfl,h1,λx hx=>?_,by show (step p a).bind _=_;rw [hs];exact h3,h4⟩
 rcases List.mem_cons.mp hx with rfl|hx
 ·exact ha
 ·exact h2 x hx
theorem fails_inv {p:P}{a:Nat}{w:List Nat}(h:Fails A step fail p (a :: w)):(w=[]/\a<A/\fail p a=true)\/∃q,a<A/\step p a=some q/\Fails A step fail q w:=by
 obtain ⟨u,b,r,e,h1,h2,h3,h4⟩:=h
 cases u with
 | nil =>
  cases e
  cases h3
  exact .inl ⟨rfl,h1,h4⟩
 | cons x u =>
  cases e
  cases hs:step p a with
  | none=>rw [show walk step p (a :: u)=(step p a).bind _ from rfl,hs] at h3;cases h3
  | some q =>
   rw [show walk step p (a :: u)=(step p a).bind _ from rfl,hs] at h3
   exact .inr ⟨q,h2 a (by simp),rfl,u,b,r,rfl,h1,λx hx=>h2 x (by simp [hx]),h3,h4⟩
theorem fails_ne {p:P}:¬Fails A step fail p []:=by
 rintro ⟨u,b,r,e,_⟩
 simp at e
theorem Fn.one {p:P}:Fn A step fail 1 p↔∃a,a<A/\fail p a=true:=by
 constructor
 ·rintro ⟨w,h,hl⟩
  cases w with
  | nil=>simp at hl
  | cons a w =>
   have:w=[]:=List.length_eq_zero_iff.mp (by simpa using hl)
   subst this
   rcases fails_inv h with ⟨_,h1,h2⟩|⟨q,_,_,h3⟩
   ·exact ⟨a,h1,h2⟩
   ·exact absurd h3 fails_ne
 ·rintro ⟨a,h1,h2⟩
  exact ⟨[a],⟨[],a,p,rfl,h1,λx hx=>by simp at hx,rfl,h2⟩,rfl⟩
theorem Fn.zero {p:P}:¬Fn A step fail 0 p:=by
 rintro ⟨w,h,hl⟩
 have:w=[]:=List.length_eq_zero_iff.mp hl
 subst this
 exact fails_ne h
theorem Ds.one {p:P}:Ds A step fail p 1↔∃a,a<A/\fail p a=true:=by
 constructor
 ·exact λh=>Fn.one.mp h.1
 ·refine λh=>⟨Fn.one.mpr h,λm hm=>?_⟩
  have:m=0:=by lia
  subst this;exact Fn.zero
theorem zt9 {Q:Nat->Prop}{n:Nat}(h:Q n):∃m,m<=n/\Q m/\∀k,k<m->¬Q k:=by
 induction n using Nat.strongRecOn with
 | _ n ih =>
  by_cases c:∃k,k<n/\Q k
  ·obtain ⟨k,hk,q⟩:=c
   obtain ⟨m,h1,h2⟩:=ih k hk q
   exact ⟨m,by lia,h2⟩
  ·exact ⟨n,qlr _,h,λk hk q=>c ⟨k,hk,q⟩⟩
theorem Ds.of {p:P}{n:Nat}(h:Fn A step fail n p):∃m,m<=n/\Ds A step fail p m:=by
 obtain ⟨m,h1,h2,h3⟩:=zt9 (Q:=λn=>Fn A step fail n p) h
 exact ⟨m,h1,h2,h3⟩
end
theorem few {n:Nat}:∀(l:List Nat),l.Nodup->(∀x∈l,x<n)->l.length<=n:=by
 intro l hd hl
 rcases Nat.lt_or_ge n l.length with h|h
 ·exfalso
  refine TS.pigeon n (λa=>l[a]?) (λa ha=>?_) λa b i l1 l2 e1 e2=>?_
  ·have:a<l.length:=by lia
   exact ⟨l[a],qge this,hl _ (List.getElem_mem this)⟩
  ·have h1:a<l.length:=by lia
   exact (List.getElem?_inj h1 hd).mp (e1.trans e2.symm)
 ·exact h
theorem few2 {n m:Nat}(l:List P) (hd:l.Nodup) (hl:∀x∈l,x.1<n/\x.2<m):l.length<=n*m:=by
 have:=few (n:=n*m) (l.map λx=>x.1*m+x.2) (by
  unfold List.Nodup
  rw [List.pairwise_map]
  refine List.Pairwise.imp_of_mem (λ{x y} hx hy hne e=>hne ?_) hd
  ·skip
   obtain ⟨h1,h2⟩:=hl x hx
   obtain ⟨h3,h4⟩:=hl y hy
   have e1:x.2=y.2:=by
    have a1:(x.1*m+x.2) % m=x.2:=by rw [Nat.mul_comm,Nat.mul_add_mod];exact Nat.mod_eq_of_lt h2
    have a2:(y.1*m+y.2) % m=y.2:=by rw [Nat.mul_comm,Nat.mul_add_mod];exact Nat.mod_eq_of_lt h4
    rw [<-a1,<-a2];exact congrArg (· % m) e
   have e2:x.1=y.1:=by
    have:x.1*m=y.1*m:=by lia
    exact Nat.eq_of_mul_eq_mul_right (by lia) this
   exact Prod.ext e2 e1) (λz hz=>by
  obtain ⟨x,hx,rfl⟩:=List.mem_map.mp hz
  obtain ⟨h1,h2⟩:=hl x hx
  calc x.1*m+x.2<x.1*m+m:=by lia
   _=(x.1+1)*m:=by rw [Nat.add_mul,Nat.one_mul]
   _<=n*m:=Nat.mul_le_mul_right m h1)
 simpa using this
end BF
namespace SP
open PySem PySem.W PyProof.Rows
inductive Ok (lt:Nat->Nat->Bool) (n:Nat) {α:Type} (G:α->Prop):KasT α->Prop where
 | ret {a:α} (h:G a):Ok lt n G (.ret a)
 | ask {i j:Nat} {k:Bool->KasT α} (hi:i<n) (hj:j<n) (h:Ok lt n G (k (lt i j))):Ok lt n G (.ask i j k)
section
noncomputable def lt (r:Nat->Int) (i j:Nat):Bool:=decide (r i<r j)
noncomputable def at' (r:Nat->Int) (p:Array Nat) (k:Nat):Int:=r (p.getD k 0)
end
open PySem.Calls
abbrev Pr:=Int × Int
noncomputable def plt (p q:Pr):Bool:=decide (p.1<q.1) || (decide (p.1=q.1) && decide (p.2<q.2))
section
end
noncomputable def rk (ps:List Pr) (i:Nat):Int:=(ps.countP (λq=>plt q (ps.getD i (0,0))):Nat)
section
end
end SP
namespace L2
open PySem PySem.Spec PyProof.Rows
abbrev Key:=Sum Int Str
noncomputable def zgo:Key->Value->Bool
 | .inl k,v=>Value.isInt k v
 | .inr x,v=>Value.isStrOf x v
noncomputable def zua (w:World):Key->Int
 | .inl k=>hashInt k
 | .inr x=>hashStr w x
theorem zd5:∀{k:Key}{v:Value},zgo k v=true->(∃i t,k=Sum.inl i/\v=Value.int i t)\/(∃x t,k=Sum.inr x/\v=Value.str x t)
 | .inl i,v,h=>by
  obtain ⟨t,e⟩:=Value.isInt_shape (k:=i) (v:=v) h
  exact .inl ⟨i,t,rfl,e⟩
 | .inr x,v,h=>by
  obtain ⟨t,e⟩:=Value.isStrOf_shape (x:=x) (v:=v) h
  exact .inr ⟨x,t,rfl,e⟩
theorem zub (i:Int) (t:Tok):zgo (.inl i) (.int i t)=true:=by simp [zgo,Value.isInt]
theorem zuc (x:Str) (t:Tok):zgo (.inr x) (.str x t)=true:=by simp [zgo,Value.isStrOf]
theorem zud (a b:Int):decide ((Sum.inl a:Key)=Sum.inl b)=(a == b):=by
 by_cases e:a=b
 ·subst e;simp
 ·have h:¬(Sum.inl a:Key)=Sum.inl b:=λq=>e (Sum.inl.inj q)
  rw [decide_eq_false h]
  exact (beq_eq_false_iff_ne.mpr e).symm
theorem zue (a b:Str):decide ((Sum.inr a:Key)=Sum.inr b)=decide (a=b):=by
 by_cases e:a=b
 ·subst e;simp
 ·have h:¬(Sum.inr a:Key)=Sum.inr b:=λq=>e (Sum.inr.inj q)
  rw [decide_eq_false h,decide_eq_false e]
theorem zuf (a:Int) (b:Str):decide ((Sum.inl a:Key)=Sum.inr b)=false:=decide_eq_false (λq=>nomatch q)
theorem zug (a:Str) (b:Int):decide ((Sum.inr a:Key)=Sum.inl b)=false:=decide_eq_false (λq=>nomatch q)
noncomputable def zcc (prog:Program) (w:World):PySem.KeyKind prog w Key where
 is:=zgo
 hash:=zua w
 inj:=λv a b ha hb=>by
  rcases zd5 ha with ⟨i,t,rfl,rfl⟩|⟨x,t,rfl,rfl⟩
  ·rcases zd5 hb with ⟨j,u,rfl,e⟩|⟨y,u,rfl,e⟩
   ·injection e with e1 _;rw [e1]
   ·exact nomatch e
  ·rcases zd5 hb with ⟨j,u,rfl,e⟩|⟨y,u,rfl,e⟩
   ·exact nomatch e
   ·injection e with e1 _;rw [e1]
 byValue:=λk v h=>by
  rcases zd5 h with ⟨i,t,rfl,rfl⟩|⟨x,t,rfl,rfl⟩ <;> rfl
 pyHash:=λhv h=>by
  rcases zd5 hv with ⟨i,t,rfl,rfl⟩|⟨x,t,rfl,rfl⟩
  ·exact wpAny_pyHash_int h
  ·exact wpAny_pyHash_str h
 eqBool:=λhu hv h=>by
  rcases zd5 hu with ⟨i,t,rfl,rfl⟩|⟨x,t,rfl,rfl⟩
  ·rcases zd5 hv with ⟨j,u,rfl,rfl⟩|⟨y,u,rfl,rfl⟩
   ·rw [zud] at h;exact wpAny_eqBool_int h
   ·rw [zuf] at h;exact SeqAt.EqAt.int_str i t y u _ _ _ _ h
  ·rcases zd5 hv with ⟨j,u,rfl,rfl⟩|⟨y,u,rfl,rfl⟩
   ·rw [zug] at h;exact SeqAt.EqAt.str_int x t j u _ _ _ _ h
   ·rw [zue] at h;exact wpAny_eqBool_str h
 «strs»:=λk x t v h=>by
  rcases zd5 h with ⟨i,u,rfl,e⟩|⟨y,u,rfl,e⟩
  ·exact nomatch e
  ·injection e with e1 _
   subst e1
   cases v <;> rfl
theorem zuh (prog:Program) (w:World) (i:Int) (t:Tok):(zcc prog w).is (.inl i) (.int i t)=true:=zub i t
theorem zui (prog:Program) (w:World) (x:Str) (t:Tok):(zcc prog w).is (.inr x) (.str x t)=true:=zuc x t
inductive V where
 | non|bl (b:Bool)|int (i:Int)|str (x:Str)|byt (b:Array UInt8)|flt (b:UInt64)|ref (a:Addr)|ty (n:String)
 deriving DecidableEq
def RelV:V->Value->Prop
 | .non,u=>u=Value.none
 | .bl b,u=>u=Value.bool b
 | .int i,u=>∃t,u=Value.int i t
 | .str x,u=>∃t,u=Value.str x t
 | .byt b,u=>∃t,u=Value.bytes b t
 | .flt b,u=>∃t,u=Value.float b t
 | .ref a,u=>u=Value.ref a
 | .ty n,u=>u=Value.type n
abbrev Vals:List V->List Value->Prop:=Paired RelV
theorem Vals.length {xs:List V}{us:List Value}(r:Vals xs us):xs.length=us.length:=Paired.length r
theorem Vals.get:∀{xs:List V}{us:List Value}{i:Nat}{x:V},Vals xs us->xs[i]? = some x->∃u,us[i]? = some u/\RelV x u
 | _,_,_,_,.nil,e=>by simp at e
 | _,_,0,_,.cons r _,e=>by simp at e;subst e;exact ⟨_,rfl,r⟩
 | _,_,i+1,x,.cons _ t,e=>by
  obtain ⟨u,h1,h2⟩:=Vals.get (i:=i) (x:=x) t (by simpa using e)
  exact ⟨u,by simpa using h1,h2⟩
theorem Vals.set {x:V}{u:Value}(r:RelV x u):∀{xs:List V}{us:List Value}(i:Nat),Vals xs us->Vals (xs.set i x) (us.set i u)
 | _,_,_,.nil=>.nil
 | _,_,0,.cons _ t=>.cons r t
 | _,_,i+1,.cons q t=>.cons q (Vals.set r i t)
theorem Vals.append:∀{xs ys:List V}{us ws:List Value},Vals xs us->Vals ys ws->Vals (xs++ys) (us++ws)
 | _,_,_,_,.nil,s=>s
 | _,_,_,_,.cons r t,s=>.cons r (Vals.append t s)
theorem Vals.take:∀{xs:List V}{us:List Value}(n:Nat),Vals xs us->Vals (xs.take n) (us.take n)
 | _,_,0,_=>.nil
 | _,_,_+1,.nil=>.nil
 | _,_,n+1,.cons r t=>.cons r (Vals.take n t)
theorem Vals.drop:∀{xs:List V}{us:List Value}(n:Nat),Vals xs us->Vals (xs.drop n) (us.drop n)
 | _,_,0,r=>r
 | _,_,_+1,.nil=>.nil
 | _,_,n+1,.cons _ t=>Vals.drop n t
def RelO:Option V->Option Value->Prop
 | some v,some u=>RelV v u
 | none,none=>True
 | _,_=>False
def KV {κ:Type}:List (κ × V)->List (κ × Value)->Prop:=Paired λ(p:κ × V) (q:κ × Value)=>p.1=q.1/\RelV p.2 q.2
noncomputable def kV:Key->V
 | .inl i=>.int i
 | .inr x=>.str x
inductive HO where
 | lst (xs:List V)
 | tup (xs:List V)
 | dK (kvs:List (Key × V))|dT (kvs:List (List Key × V))
 | set (S:Int->Bool) (n:Nat)
 | ins (C dx:Addr) (fs:List (Str × V))
 | own (x:Addr)
 | xd (fs:List (Str × V))
 | met (f x:Addr)
 | rng (lo hi:Int)
 | frz (o:Obj) (u:HO)
 | tbl (ps:Array Value)
 | ext (φ:Heap->Prop)
abbrev Hp:=Addr->Option HO
noncomputable def upd (H:Hp) (a:Addr) (o:HO):Hp:=λb=>if b=a then some o else H b
theorem zbw {H:Hp}{a:Addr}{o:HO}:upd H a o a=some o:=by unfold upd;rw [if_pos rfl]
theorem zap {H:Hp}{a b:Addr}{o:HO}(h:b≠a):upd H a o b=H b:=by unfold upd;rw [if_neg h]
theorem zc8 {H:Hp}{a b:Addr}{o u:HO}(h:H a=some o) (h':H b=some u) (d:o≠u):a≠b:=by
 intro e;subst e;rw [h] at h';exact d (qoi h')
theorem zbc {H:Hp}{a b:Addr}{o:HO}(h:H a=some o) (h':H b=none):a≠b:=by
 intro e;subst e;rw [h] at h';cases h'
def IsTD (h:Heap) (a:Addr) (items:Array Value):Prop:=∃o,h.get? a=some o/\o.cls=.type "tuple"/\∃n,o.data=.seq items n/\o.dict=none
theorem IsTD.tup {h:Heap}{a:Addr}{items:Array Value}(x:IsTD h a items):IsTup h a items:=by
 obtain ⟨o,e,c,n,d,_⟩:=x
 exact ⟨o,e,c,n,d⟩
theorem IsTD.new (h:Heap) (items:Array Value):IsTD (h.push { cls:=.type "tuple",data:=.seq items }) h.objs.size items:=⟨_,Heap.get?_push_size _ rfl,rfl,_,rfl,rfl⟩
section
variable (P:Program) (w:World)
def ObjOk (H:Hp) (h:Heap) (a:Addr):HO->Prop
 | .lst xs=>xs.length<=sizeLine/\∃(its:List Value) (n:Nat),Vals xs its/\h.get? a=some { cls:=.type "list",data:=.seq its.toArray n }
 | .tup xs=>xs.length<=sizeLine/\∃its:List Value,Vals xs its/\IsTD h a its.toArray
 | .dK kvs=>kvs.length<=sizeLine/\(a == sysModules)=false/\∃vs,KV kvs vs/\h.DictOf (zcc P w) a vs
 | .dT kvs=>kvs.length<=sizeLine/\(a == sysModules)=false/\∃xs:List (List Key × Addr × Value),
   Paired (λ(p:List Key × V) (q:List Key × Addr × Value)=>p.1=q.1/\H q.2.1=some (.tup (p.1.map kV))/\RelV p.2 q.2.2) kvs xs /\
   ∃o es ep,h.get? a=some o/\o.ExactDict/\o.data=.dict es ep/\es.toList=xs.map (entryOfKey (tupleKind (zcc P w)))/\(xs.map (·.1)).Nodup
 | .set S n=>h.SetOf (intKind P w) a S n
 | .ins C dx fs=>H dx=some (.own a)/\fs.length<=1000/\dx≠a/\h.get? a=some (PySem.W.instObj C dx) /\
   ∃mA,h.Ns1 dx mA/\(∀f,RelO (fs.lookup f) (mA f))/\PySem.Within mA (fs.map (·.1))
 | .own _=>∃o,h.get? a=some o
 | .xd fs=>∃mA,h.Ns1 a mA/\∀f,RelO (fs.lookup f) (mA f)
 | .rng lo hi=>∃t u v,h.get? a=some { cls:=.type "range",data:=.fields #[.int lo t,.int hi u,.int 1 v] }
 | .frz o u=>h.get? a=some o/\ObjOk H h a u
 | .tbl ps=>h.get? a=some { cls:=.none,data:=.fields ps }
 | .met f x=>h.get? a=some (PySem.W.methodObj (.ref f) (.ref x))
 | .ext φ=>φ h/\(∃o,h.get? a=some o)/\∀h1 h2:Heap,φ h1->(∀o,h1.get? a=some o->h2.get? a=some o)->φ h2
def HOk (H:Hp) (h:Heap):Prop:=∀a o,H a=some o->ObjOk P w H h a o
end
section
variable {P:Program}{w:World}{H H':Hp}{h h':Heap}{a:Addr}{o:HO}
theorem ObjOk.lt (x:ObjOk P w H h a o):a<h.objs.size:=by
 cases o with
 | lst xs=>obtain ⟨_,_,_,_,e⟩:=x;exact Heap.lt_size e
 | tup xs=>obtain ⟨_,_,_,p⟩:=x;exact p.tup.lt
 | dK kvs=>obtain ⟨_,_,_,_,o,_,_,e,_⟩:=x;exact Heap.lt_size e
 | dT kvs=>obtain ⟨_,_,_,_,o,_,_,e,_⟩:=x;exact Heap.lt_size e
 | set S n=>obtain ⟨o,_,_,_,e,_⟩:=x;exact Heap.lt_size e
 | ins C dx fs=>obtain ⟨_,_,_,e,_⟩:=x;exact Heap.lt_size e
 | own y=>obtain ⟨_,e⟩:=x;exact Heap.lt_size e
 | xd fs=>obtain ⟨_,⟨_,_,_,e,_⟩,_⟩:=x;exact Heap.lt_size e
 | rng lo hi=>obtain ⟨_,_,_,e⟩:=x;exact Heap.lt_size e
 | frz ob u=>obtain ⟨e,_⟩:=x;exact Heap.lt_size e
 | tbl ps=>exact Heap.lt_size (show h.get? a=some _ from x)
 | met f y=>exact Heap.lt_size (show h.get? a=some _ from x)
 | ext φ=>obtain ⟨_,⟨_,e⟩,_⟩:=x;exact Heap.lt_size e
theorem Paired.mapP {α β:Type}{F G:α->β->Prop}:∀{l₁:List α}{l₂:List β},Paired F l₁ l₂->(∀a b,F a b->G a b)->Paired G l₁ l₂
 | _,_,.nil,_=>.nil
 | _,_,.cons r t,f=>.cons (f _ _ r) (Paired.mapP t f)
theorem ObjOk.stay (x:ObjOk P w H h a o) (k:∀b u,(b=a\/H b=some (.own a))->h.get? b=some u->h'.get? b=some u)
  (ho:∀b,H b=some (.own a)->H' b=some (.own a)) (ht:∀b xs,H b=some (.tup xs)->H' b=some (.tup xs)):ObjOk P w H' h' a o:=by
 induction o with
 | lst xs=>obtain ⟨z,its,n,r,e⟩:=x;exact ⟨z,its,n,r,k _ _ (.inl rfl) e⟩
 | tup xs=>obtain ⟨z,its,r,ob,e,c⟩:=x;exact ⟨z,its,r,ob,k _ _ (.inl rfl) e,c⟩
 | dK kvs=>obtain ⟨z,y,vs,r,ob,es,ep,e,c⟩:=x;exact ⟨z,y,vs,r,ob,es,ep,k _ _ (.inl rfl) e,c⟩
 | dT kvs =>
  obtain ⟨z,y,xs,r,ob,es,ep,e,c⟩:=x
  exact ⟨z,y,xs,Paired.mapP r λp q z=>⟨z.1,ht _ _ z.2.1,z.2.2⟩,ob,es,ep,k _ _ (.inl rfl) e,c⟩
 | set S n=>obtain ⟨ob,es,ep,t,e,c⟩:=x;exact ⟨ob,es,ep,t,k _ _ (.inl rfl) e,c⟩
 | ins C dx fs =>
  obtain ⟨d,z,ne,e,mA,⟨od,es,ep,e2,c⟩,r⟩:=x
  exact ⟨ho _ d,z,ne,k _ _ (.inl rfl) e,mA,⟨od,es,ep,k _ _ (.inr d) e2,c⟩,r⟩
 | own y=>obtain ⟨ob,e⟩:=x;exact ⟨ob,k _ _ (.inl rfl) e⟩
 | xd fs=>obtain ⟨mA,⟨od,es,ep,e,c⟩,r⟩:=x;exact ⟨mA,⟨od,es,ep,k _ _ (.inl rfl) e,c⟩,r⟩
 | rng lo hi=>obtain ⟨t,u,v,e⟩:=x;exact ⟨t,u,v,k _ _ (.inl rfl) e⟩
 | frz ob u ih=>obtain ⟨e,q⟩:=x;exact ⟨k _ _ (.inl rfl) e,ih q⟩
 | tbl ps =>
  have e:h.get? a=some { cls:=.none,data:=.fields ps }:=x
  show h'.get? a=some { cls:=.none,data:=.fields ps }
  exact k a _ (.inl rfl) e
 | met f y =>
  have e:h.get? a=some (PySem.W.methodObj (.ref f) (.ref y)):=x
  show h'.get? a=some (PySem.W.methodObj (.ref f) (.ref y))
  exact k a _ (.inl rfl) e
 | ext φ=>obtain ⟨p,⟨o,e⟩,st⟩:=x;exact ⟨st _ _ p λo q=>k _ _ (.inl rfl) q,⟨o,k _ _ (.inl rfl) e⟩,st⟩
theorem HOk.lt (x:HOk P w H h) (e:H a=some o):a<h.objs.size:=(x a o e).lt
theorem HOk.fresh (x:HOk P w H h) (e:h.objs.size<=a):H a=none:=by
 cases q:H a with
 | none=>rfl
 | some u=>exact absurd (Nat.lt_of_lt_of_le (x.lt q) e) (Nat.lt_irrefl _)
theorem HOk.kept (x:HOk P w H h) (k:∀b u,h.get? b=some u->h'.get? b=some u):HOk P w H h':=λa o e =>
 (x a o e).stay (λb u _ q=>k b u q) (λ_ q=>q) λ_ _ q=>q
theorem HOk.laid (x:HOk P w H h) (k:∀b u,h.get? b=some u->h'.get? b=some u) (hp:h.objs.size<=a) (new:ObjOk P w (upd H a o) h' a o):HOk P w (upd H a o) h':=λb u e=>by
 have hn:=x.fresh hp
 by_cases hb:b=a
 ·subst hb;rw [zbw] at e;cases e;exact new
 ·rw [zap hb] at e
  exact (x b u e).stay (λc v _ q=>k c v q) (λc q=>by rw [zap (zbc q hn)];exact q) λc xs q=>by rw [zap (zbc q hn)];exact q
end
def Rd (H:Hp) (a:Addr) (u:HO):Prop:=H a=some u\/∃o,H a=some (.frz o u)
theorem Rd.ok {P:Program}{w:World}{H:Hp}{h:Heap}{a:Addr}{u:HO}(r:Rd H a u) (x:HOk P w H h):ObjOk P w H h a u:=by
 rcases r with r|⟨o,r⟩
 ·exact x a u r
 ·obtain ⟨_,q⟩:=x a _ r
  exact q
def Mut:Option HO->Prop
 | some (.lst _)=>True
 | some (.dK _)=>True
 | some (.dT _)=>True
 | some (.set _ _)=>True
 | some (.ins _ _ _)=>True
 | some (.ext _)=>True
 | _=>False
section
variable {P:Program}{w:World}{H:Hp}{h h':Heap}{x e:Addr}{o':HO}
theorem HOk.write (ok:HOk P w H h) (mu:Mut (H x)) (he:e=x\/H e=some (.own x)) (k:∀b u,b≠e->h.get? b=some u->h'.get? b=some u) (heo:∃u,h'.get? e=some u)
  (new:ObjOk P w (upd H x o') h' x o'):HOk P w (upd H x o') h':=λb u q=>by
 have nown:∀c y,H c=some (.own y)->c≠x:=λc y r z=>by subst z;rw [r] at mu;exact mu
 have ntup:∀c xs,H c=some (.tup xs)->c≠x:=λc xs r z=>by subst z;rw [r] at mu;exact mu
 by_cases hb:b=x
 ·subst hb;rw [zbw] at q;cases q;exact new
 ·rw [zap hb] at q
  by_cases hbe:b=e
  ·have q':H b=some (.own x):=by
    rcases he with z|z
    ·exact absurd (hbe.trans z) hb
    ·rw [hbe];exact z
   rw [q] at q';cases q'
   obtain ⟨v,hv⟩:=heo
   exact ⟨v,by rw [hbe];exact hv⟩
  ·refine (ok b u q).stay (λc v hc r=>k c v ?_ r) (λc r=>by rw [zap (nown c b r)];exact r) λc xs r=>by rw [zap (ntup c xs r)];exact r
   rcases hc with rfl|hc
   ·exact hbe
   ·rintro rfl
    rcases he with z|z
    ·exact nown c b hc z
    ·rw [hc] at z;cases z;exact hb rfl
end
structure Un (fs ex:List Addr) (H H':Hp) (h h':Heap):Prop where
 keep:∀b o,h.get? b=some o->H b=none->b ∉ fs->b ∉ ex->h'.get? b=some o
 slot:∀b o,h.get? b=some o->H b=none->b∈fs->b ∉ ex->∃sl,h'.get? b=some { o with slots:=sl }
 free:∀b o,h.get? b=some o->H b=none->b ∉ ex->H' b=none
 there:∀b o,h.get? b=some o->b ∉ ex->∃o',h'.get? b=some o'
 tups:∀b xs,H b=some (.tup xs)->H' b=some (.tup xs)
 frzs:∀b o u,H b=some (.frz o u)->H' b=some (.frz o u)
 tbls:∀b ps,H b=some (.tbl ps)->∃more,H' b=some (.tbl (ps++more))
section
variable {fs fs' ex ex':List Addr}{H H1 H2:Hp}{h h1 h2 h':Heap}{a x e:Addr}{o:HO}
theorem Un.any (u:Un fs ex H H1 h h1) {b:Addr}{ob:Obj}(q:h.get? b=some ob) (n:H b=none) (hx:b ∉ ex):∃sl,h1.get? b=some { ob with slots:=sl }:=by
 by_cases hb:b∈fs
 ·exact u.slot b ob q n hb hx
 ·exact ⟨ob.slots,u.keep b ob q n hb hx⟩
theorem Un.kept (k:∀b u,h.get? b=some u->h'.get? b=some u):Un fs ex H H h h' :=
 ⟨λb ob q _ _ _=>k b ob q,λb ob q _ _ _=>⟨ob.slots,k b ob q⟩,λ_ _ _ n _=>n,λb ob q _=>⟨ob,k b ob q⟩,λ_ _ q=>q,λ_ _ _ q=>q,λ_ ps q=>⟨#[],by rw [q];simp⟩⟩
theorem Un.refl:Un fs ex H H h h:=Un.kept λ_ _ q=>q
theorem Un.laid (k:∀b u,h.get? b=some u->h'.get? b=some u) (hp:h.objs.size<=a) (hn:H a=none):Un fs ex H (upd H a o) h h' where
 keep:=λb u q _ _ _=>k b u q
 slot:=λb u q _ _ _=>⟨u.slots,k b u q⟩
 free:=λb u q n _=>by rw [zap (Nat.ne_of_lt (Nat.lt_of_lt_of_le (Heap.lt_size q) hp))];exact n
 there:=λb u q _=>⟨u,k b u q⟩
 tups:=λb xs q=>by rw [zap (zbc q hn)];exact q
 frzs:=λb u xs q=>by rw [zap (zbc q hn)];exact q
 tbls:=λb ps q=>⟨#[],by rw [zap (zbc q hn),q];simp⟩
theorem Un.write (mu:Mut (H x)) (he:e=x\/H e=some (.own x)) (k:∀b u,b≠e->h.get? b=some u->h'.get? b=some u) (heo:∃u,h'.get? e=some u):Un fs ex H (upd H x o) h h':=by
 have hx:∀b,H b=none->b≠x:=λb n z=>by subst z;rw [n] at mu;exact mu
 have hb:∀b,H b=none->b≠e:=λb n z=>by
  subst z
  rcases he with r|r
  ·exact hx b n r
  ·rw [n] at r;cases r
 have hm:∀b u,H b=some u->¬Mut (some u)->b≠x:=λb u q nm z=>by subst z;rw [q] at mu;exact nm mu
 refine ⟨λb u q n _ _=>k b u (hb b n) q,λb u q n _ _=>⟨u.slots,k b u (hb b n) q⟩,λb u q n _=>by rw [zap (hx b n)];exact n,λb u q _=>?_,
  λb xs q=>by rw [zap (hm b _ q λz=>z)];exact q,λb u xs q=>by rw [zap (hm b _ q λz=>z)];exact q,λb ps q=>⟨#[],by rw [zap (hm b _ q λz=>z),q];simp⟩⟩
 by_cases hbe:b=e
 ·subst hbe;exact heo
 ·exact ⟨u,k b u hbe q⟩
end
noncomputable def trk (h:Heap) (H:Hp):List Addr:=(List.range h.objs.size).filter λa=>(H a).isSome
noncomputable def zd6 (h:Heap) (H:Hp):Heap:=PySem.W.hideAll h (trk h H)
theorem zuj (h:Heap) (H:Hp):(zd6 h H).objs.size=h.objs.size:=PySem.W.hideAll_size _ _
theorem zuk {h:Heap}{H:Hp}{b:Addr}{o:Obj}(e:h.get? b=some o) (n:H b=none):(zd6 h H).get? b=some o :=
 PySem.W.hideAll_get _ e λhm=>by
  have q:(H b).isSome=true:=(List.mem_filter.mp hm).2
  rw [n] at q;simp at q
theorem zul {h:Heap}{H:Hp}{b:Addr}{o:Obj}(e:(zd6 h H).get? b=some o):h.get? b=some o/\H b=none:=by
 have e':h.get? b=some o:=PySem.W.of_hideAll (trk h H) e
 refine ⟨e',?_⟩
 cases q:H b with
 | none=>rfl
 | some x =>
  have hm:b∈trk h H:=List.mem_filter.mpr ⟨List.mem_range.mpr (Heap.lt_size e'),by simp [q]⟩
  have z:(zd6 h H).get? b=none:=PySem.W.hideAll_none (trk h H) hm
  rw [z] at e;cases e
noncomputable def zum (g h:Heap) (L:Addr):List (Addr × Obj):=(List.range h.objs.size).filterMap λa=>if a=L\/(g.get? a).isSome=true then none else (h.get? a).map λo=>(a,o)
noncomputable def rest (g h:Heap) (L d:Addr):List (Addr × Obj):=(zum g h L).filter λp=>decide (p.1≠d)
def BMd (mg:Str->Option Value) (h:Heap):Prop:=∃bm ob,mg "__builtins__" = some (.ref bm)/\bm≠builtinsNs/\h.get? bm=some ob/\ob.cls=.type "module"/\ob.dict=some builtinsNs/\ob.data=.plain
structure Mod (K:QFg) (mg:Str->Option Value) (base:Heap):Prop where
 kin:K.In base
 glob:base.Ns mainGlobals mg
 blt:∃mb,base.Ns builtinsNs mb/\∀x:Str,x≠"__name__"->mb x=bootBuiltins x
 nolimit:base.NoLimit
 bm:BMd mg base
structure Cx where
 prog:Program
 w:World
 K:QFg
 mg:Str->Option Value
 base:Heap
 A:Around
 N:List Str
 s₀:Shared
 H₀:Hp
 env:Env
 outer:List Env
 stack:List Env
 ex:List Addr
 fn:Str->Bool
 calm:Bool
 pn:List (Addr × Obj)
 xe:Value->Shared->Prop
noncomputable def frs (l:List Env):List Addr:=l.filterMap (·.frame)
noncomputable abbrev Cx.fs (X:Cx):List Addr:=frs X.outer
def Vis (sc:Scope) (x:Str):Prop:=sc.names.lookup x=some .local\/sc.names.lookup x=some .cell\/sc.names.lookup x=some .free
def Loc (sc:Scope) (x:Str):Prop:=sc.names.lookup x=some .local\/sc.names.lookup x=some .cell
def zun (env:Env) (h:Heap) (m:Str->Option Value) (x:Str) (u:Value):Prop :=
 (env.kindOf x=some .local/\m x=some u)\/((env.kindOf x=some .cell\/env.kindOf x=some .free)/\∃c,env.cells.lookup x=some c/\h.IsCell c (some u))
structure Cx.Ok (X:Cx):Prop where
 mod:Mod X.K X.mg X.base
 kind:X.env.scope.kind=.function
 glob:X.env.globals=mainGlobals
 blt:X.env.builtins=builtinsNs
 above:X.s₀.heap.objs.size<=X.env.locals
 inj:∀x y c,X.env.cells.lookup x=some c->X.env.cells.lookup y=some c->x=y
 has:∀x,(X.env.kindOf x=some .cell\/X.env.kindOf x=some .free)->∃c,X.env.cells.lookup x=some c
 cab:∀x c,X.fn x=true->X.env.cells.lookup x=some c->X.s₀.heap.objs.size<=c
 hd:X.calm=true->X.A.handled=none
 frames:X.A.frames=some X.stack
 stk:X.stack=X.outer\/(X.stack=X.env :: X.outer/\X.env.frame=some X.env.locals)
 exf:∀b∈X.ex,b≠X.env.locals/\∀x c,X.env.cells.lookup x=some c->c≠b
 bs:∀b o,X.base.get? b=some o->X.s₀.heap.get? b=some o/\X.H₀ b=none
 bsz:X.base.objs.size<=X.s₀.heap.objs.size
 noex:∀b o,X.base.get? b=some o->b ∉ X.ex
 exfs:∀b∈X.ex,b ∉ X.fs
 funs:X.s₀.heap.FunFrames X.base X.outer
 frf:∀b∈X.fs,X.H₀ b=none
structure Inv (X:Cx) (pins:List (Addr × Obj)) (σ:List (Option V)) (H:Hp) (s:Shared):Prop where
 ok:X.Ok
 os:s.os=X.s₀.os
 bare:AllBare s.gens
 base:Un X.fs X.ex X.H₀ H X.s₀.heap s.heap
 loc:∃m,s.heap.Ns X.env.locals m/\∀(i:Nat) (x:Str) (v:V),X.N[i]? = some x->σ[i]? = some (some v)->Vis X.env.scope x->∃u,RelV v u/\zun X.env s.heap m x u
 cell:∀x c,X.env.cells.lookup x=some c->∃v,s.heap.IsCell c v
 free:H X.env.locals=none
 freeC:∀x c,X.env.cells.lookup x=some c->H c=none
 pin:∀p∈X.pn++pins,s.heap.get? p.1=some p.2/\H p.1=none/\p.1≠X.env.locals/\p.1 ∉ X.fs/\∀v,p.2.data≠.cell v
 hok:HOk X.prog X.w H s.heap
 len:σ.length=X.N.length
section
variable {X:Cx}{pins:List (Addr × Obj)}{σ:List (Option V)}{H H':Hp}{s:Shared}{h':Heap}
theorem Cx.Ok.nofr (ok:X.Ok) {b:Addr}{o:Obj}(e:X.base.get? b=some o):b ∉ X.fs:=λhb=>by
 have:=(ok.funs.mem hb).1
 rw [e] at this;cases this
theorem Inv.bs (I:Inv X pins σ H s):∀b o,X.base.get? b=some o->s.heap.get? b=some o/\H b=none:=λb o e =>
 ⟨I.base.keep b o (I.ok.bs b o e).1 (I.ok.bs b o e).2 (I.ok.nofr e) (I.ok.noex b o e),I.base.free b o (I.ok.bs b o e).1 (I.ok.bs b o e).2 (I.ok.noex b o e)⟩
theorem Inv.bk (I:Inv X pins σ H s):∀b o,X.base.get? b=some o->s.heap.get? b=some o:=λb o e=>(I.bs b o e).1
theorem Inv.mod (I:Inv X pins σ H s):Mod X.K X.mg X.base:=I.ok.mod
theorem Inv.kIn (I:Inv X pins σ H s):X.K.In s.heap:=I.ok.mod.kin.keeps I.bk
theorem Inv.lt (I:Inv X pins σ H s):X.env.locals<s.heap.objs.size:=let ⟨_,hn,_⟩:=I.loc;hn.lt
theorem Inv.sz (I:Inv X pins σ H s):X.s₀.heap.objs.size<=s.heap.objs.size:=Nat.le_trans I.ok.above (Nat.le_of_lt I.lt)
theorem Inv.nofs (I:Inv X pins σ H s) {a:Addr}(h:s.heap.objs.size<=a):a ∉ X.fs:=λhb=>by
 obtain ⟨_,o,ho,_⟩:=I.ok.funs.mem hb
 exact absurd (Nat.lt_of_lt_of_le (Heap.lt_size ho) (Nat.le_trans I.sz h)) (Nat.lt_irrefl _)
theorem Inv.cne (I:Inv X pins σ H s):∀x c,X.env.cells.lookup x=some c->c≠X.env.locals:=λx c e z=>by
 obtain ⟨v,o,ho,hd⟩:=I.cell x c e
 obtain ⟨m,⟨o',es,ep,ho',hd',_⟩,_⟩:=I.loc
 rw [z,ho'] at ho;cases ho;rw [hd'] at hd;cases hd
theorem Inv.funs (I:Inv X pins σ H s):s.heap.FunFrames X.base X.outer:=by
 have all:∀(l:List Env),(∀b∈frs l,b∈X.fs)->X.s₀.heap.FunFrames X.base l->s.heap.FunFrames X.base l:=by
  intro l
  induction l with
  | nil=>intro _ _;trivial
  | cons env r ih =>
   intro hs hl
   obtain ⟨hk,⟨L,o,hf,hn,ho,hd⟩,hr⟩:=hl
   have hL:L∈X.fs:=hs L (by unfold frs;rw [List.filterMap_cons,hf];exact List.mem_cons_self)
   obtain ⟨sl,e⟩:=I.base.slot L o ho (I.ok.frf L hL) hL λz=>I.ok.exfs L z hL
   exact ⟨hk,⟨L,_,hf,hn,e,hd⟩,ih (λb hb=>hs b (by unfold frs;rw [List.filterMap_cons,hf];exact List.mem_cons_of_mem _ hb)) hr⟩
 exact all X.outer (λ_ hb=>hb) I.ok.funs
theorem Inv.stack (I:Inv X pins σ H s):s.heap.FunFrames X.base X.stack:=by
 rcases I.ok.stk with e|⟨e,hf⟩
 ·rw [e];exact I.funs
 ·rw [e]
  obtain ⟨m,hn,_⟩:=I.loc
  refine .cons (by rw [I.ok.kind];decide) hf hn ?_ I.funs
  exact Heap.get?_none_of_le (Nat.le_trans I.ok.bsz I.ok.above)
theorem Inv.stkSub (I:Inv X pins σ H s):∀b∈frs X.stack,b∈X.env.locals :: X.fs:=λb hb=>by
 rcases I.ok.stk with e|⟨e,hf⟩
 ·rw [e] at hb;exact List.mem_cons_of_mem _ hb
 ·rw [e] at hb
  unfold frs at hb
  rw [List.filterMap_cons,hf] at hb
  exact hb
theorem Inv.stkFree (I:Inv X pins σ H s):∀b∈frs X.stack,H b=none:=λb hb=>by
 rcases List.mem_cons.mp (I.stkSub b hb) with e|hb
 ·rw [e];exact I.free
 ·obtain ⟨_,o,ho,_⟩:=I.ok.funs.mem hb
  exact I.base.free b o ho (I.ok.frf b hb) λz=>I.ok.exfs b z hb
theorem Inv.step {g':Array GenState}{t':Nat}{d':Drawn}{ch:List Addr}(I:Inv X pins σ H s)
  (hch:∀b∈ch,(b∈X.ex\/X.s₀.heap.objs.size<=b)/\b≠X.env.locals/\(∀x c,X.env.cells.lookup x=some c->c≠b)/\∀p∈X.pn++pins,p.1≠b)
  (keep:∀b o,b≠X.env.locals->b ∉ X.fs->b ∉ ch->s.heap.get? b=some o->H b=none->h'.get? b=some o)
  (slot:∀b o,b≠X.env.locals->b∈X.fs->b ∉ ch->s.heap.get? b=some o->H b=none->∃sl,h'.get? b=some { o with slots:=sl }) (free:∀b o,b ∉ ch->s.heap.get? b=some o->H b=none->H' b=none)
  (there:∀b o,b ∉ ch->s.heap.get? b=some o->∃o',h'.get? b=some o')
  (tups:∀b xs,H b=some (.tup xs)->H' b=some (.tup xs)) (frzs:∀b o u,H b=some (.frz o u)->H' b=some (.frz o u)) (tbls:∀b ps,H b=some (.tbl ps)->∃more,H' b=some (.tbl (ps++more)))
  (ns:∀m,s.heap.Ns X.env.locals m->h'.Ns X.env.locals m) (hok:HOk X.prog X.w H' h') (hg:AllBare g') :
  Inv X pins σ H' { s with heap:=h',gens:=g',drawn:=d',toks:=t' }:=by
 have neL:∀b o,X.s₀.heap.get? b=some o->b≠X.env.locals:=λb o e=>Nat.ne_of_lt (Nat.lt_of_lt_of_le (Heap.lt_size e) I.ok.above)
 have neC:∀b o,X.s₀.heap.get? b=some o->b ∉ X.ex->b ∉ ch:=λb o e hx hb=>by
  rcases (hch b hb).1 with z|z
  ·exact hx z
  ·exact absurd (Nat.lt_of_lt_of_le (Heap.lt_size e) z) (Nat.lt_irrefl _)
 have cellK:∀x c,X.env.cells.lookup x=some c->∀v,s.heap.IsCell c v->h'.IsCell c v:=λx c e v hx1_=>by
  obtain ⟨o,ho,hd⟩:=hx1_
  have nch:c ∉ ch:=λz=>(hch c z).2.2.1 x c e rfl
  by_cases hc:c∈X.fs
  ·obtain ⟨sl,q⟩:=slot c o (I.cne x c e) hc nch ho (I.freeC x c e)
   exact ⟨_,q,hd⟩
  ·exact ⟨o,keep c o (I.cne x c e) hc nch ho (I.freeC x c e),hd⟩
 refine ⟨I.ok,I.os,hg,⟨λb o e n hb hx=>?_,λb o e n hb hx=>?_,λb o e n hx=>?_,λb o e hx=>?_,λb xs e=>tups b xs (I.base.tups b xs e),λb o xs e=>frzs b o xs (I.base.frzs b o xs e),λb ps e=>?_⟩,?_,λx c e=>?_,?_,λx c e=>?_,λp hp=>?_,hok,I.len⟩
 ·exact keep b o (neL b o e) hb (neC b o e hx) (I.base.keep b o e n hb hx) (I.base.free b o e n hx)
 ·obtain ⟨sl,e1⟩:=I.base.slot b o e n hb hx
  obtain ⟨sl',e2⟩:=slot b _ (neL b o e) hb (neC b o e hx) e1 (I.base.free b o e n hx)
  exact ⟨sl',e2⟩
 ·obtain ⟨o',e1⟩:=I.base.there b o e hx
  exact free b o' (neC b o e hx) e1 (I.base.free b o e n hx)
 ·obtain ⟨o',e1⟩:=I.base.there b o e hx
  exact there b o' (neC b o e hx) e1
 ·obtain ⟨m1,e1⟩:=I.base.tbls b ps e
  obtain ⟨m2,e2⟩:=tbls b _ e1
  exact ⟨m1++m2,by rw [e2,Array.append_assoc]⟩
 ·obtain ⟨m,hn,hl⟩:=I.loc
  refine ⟨m,ns m hn,λi x v e1 e2 e3=>?_⟩
  obtain ⟨u,r,l⟩:=hl i x v e1 e2 e3
  refine ⟨u,r,?_⟩
  rcases l with l|⟨k,c,e,z⟩
  ·exact .inl l
  ·exact .inr ⟨k,c,e,cellK x c e _ z⟩
 ·obtain ⟨v,z⟩:=I.cell x c e
  exact ⟨v,cellK x c e v z⟩
 ·obtain ⟨m,⟨o,_,_,ho,_⟩,_⟩:=I.loc
  exact free _ o (λz=>(hch _ z).2.1 rfl) ho I.free
 ·obtain ⟨v,o,ho,hd⟩:=I.cell x c e
  exact free c o (λz=>(hch c z).2.2.1 x c e rfl) ho (I.freeC x c e)
 ·obtain ⟨e,n,ne,nf,d⟩:=I.pin p hp
  have nch:p.1 ∉ ch:=λz=>(hch p.1 z).2.2.2 p hp rfl
  exact ⟨keep p.1 p.2 ne nf nch e n,free p.1 p.2 nch e n,ne,nf,d⟩
theorem Inv.un {t':Nat}(I:Inv X pins σ H s) (u:Un X.fs [] H H' s.heap h') (hok:HOk X.prog X.w H' h'):Inv X pins σ H' { s with heap:=h',toks:=t' }:=by
 obtain ⟨m,⟨o,es,ep,ho,r⟩,_⟩:=id I.loc
 obtain ⟨sl,hL⟩:=u.any ho I.free (by simp)
 exact I.step (g':=s.gens) (d':=s.drawn) (ch:=[]) (λ_ z=>nomatch z) (λb o _ hb _ e n=>u.keep b o e n hb (by simp)) (λb o _ hb _ e n=>u.slot b o e n hb (by simp)) (λb o _ e n=>u.free b o e n (by simp)) (λb o _ e=>u.there b o e (by simp)) u.tups u.frzs u.tbls (λm' hm=>by
  obtain ⟨o',es',ep',ho',r'⟩:=hm
  rw [ho] at ho';cases ho'
  exact ⟨_,es',ep',hL,r'⟩) hok I.bare
theorem Inv.call {g':Array GenState}{t':Nat}{d':Drawn}{ch:List Addr}(I:Inv X pins σ H s) (u:Un (frs X.stack) ch H H' s.heap h') (hok:HOk X.prog X.w H' h') (hg:AllBare g')
  (hch:∀b∈ch,(b∈X.ex\/X.s₀.heap.objs.size<=b)/\b≠X.env.locals/\(∀x c,X.env.cells.lookup x=some c->c≠b)/\∀p∈X.pn++pins,p.1≠b) :
  Inv X pins σ H' { s with heap:=h',gens:=g',drawn:=d',toks:=t' }:=by
 obtain ⟨m,⟨o,es,ep,ho,r⟩,_⟩:=id I.loc
 obtain ⟨sl,hL⟩:=u.any ho I.free λz=>(hch _ z).2.1 rfl
 exact I.step (ch:=ch) hch (λb o hL hb hc e n=>u.keep b o e n (λz=>(List.mem_cons.mp (I.stkSub b z)).elim hL hb) hc) (λb o _ _ hc e n=>u.any e n hc) (λb o hc e n=>u.free b o e n hc) (λb o hc e=>u.there b o e hc) u.tups u.frzs u.tbls (λm' hm=>by
  obtain ⟨o',es',ep',ho',r'⟩:=hm
  rw [ho] at ho';cases ho'
  exact ⟨_,es',ep',hL,r'⟩) hok hg
theorem Inv.turned {t':Nat}{it:Addr}(I:Inv X pins σ H s) (k:∀b o,b≠it->s.heap.get? b=some o->h'.get? b=some o) (hn:H it=none) (hL:it≠X.env.locals)
  (h1:it∈X.ex\/X.s₀.heap.objs.size<=it) (h2:∀x c,X.env.cells.lookup x=some c->c≠it) (h3:∀p∈X.pn++pins,p.1≠it):Inv X pins σ H { s with heap:=h',toks:=t' }:=by
 have nit:∀b u,H b=some u->b≠it:=λb u e z=>by rw [z,hn] at e;cases e
 refine I.step (g':=s.gens) (d':=s.drawn) (ch:=[it]) (λb hb=>?_) (λb o _ _ hc e _=>k b o (λz=>hc (by simp [z])) e) (λb o _ _ hc e _=>⟨o.slots,k b o (λz=>hc (by simp [z])) e⟩) (λ_ _ _ _ n=>n)
  (λb o hc e=>⟨o,k b o (λz=>hc (by simp [z])) e⟩) (λ_ _ e=>e) (λ_ _ _ e=>e) (λb ps e=>⟨#[],by rw [e];simp⟩) (λm hm=>?_) (λb u e=>?_) I.bare
 ·have e:b=it:=by simpa using hb
  subst e
  exact ⟨h1,hL,h2,h3⟩
 ·obtain ⟨o,es,ep,ho,r⟩:=hm
  exact ⟨o,es,ep,k _ o (Ne.symm hL) ho,r⟩
 ·refine (I.hok b u e).stay (λc v hc q=>k c v ?_ q) (λ_ q=>q) λ_ _ q=>q
  rcases hc with z|z
  ·rw [z];exact nit b u e
  ·exact nit c _ z
theorem Inv.tok (I:Inv X pins σ H s) (t:Nat):Inv X pins σ H { s with toks:=t }:=I.un (h':=s.heap) (t':=t) Un.refl I.hok
theorem Inv.kept {t':Nat}(I:Inv X pins σ H s) (k:∀b u,s.heap.get? b=some u->h'.get? b=some u):Inv X pins σ H { s with heap:=h',toks:=t' }:=I.un (Un.kept k) (I.hok.kept k)
theorem Inv.laid {a:Addr}{o:HO}{t':Nat}(I:Inv X pins σ H s) (k:∀b u,s.heap.get? b=some u->h'.get? b=some u) (hp:s.heap.objs.size<=a) (new:ObjOk X.prog X.w (upd H a o) h' a o) :
  Inv X pins σ (upd H a o) { s with heap:=h',toks:=t' }:=I.un (Un.laid k hp (I.hok.fresh hp)) (I.hok.laid k hp new)
theorem Inv.write {x e:Addr}{o:HO}{t':Nat}(I:Inv X pins σ H s) (mu:Mut (H x)) (he:e=x\/H e=some (.own x)) (k:∀b u,b≠e->s.heap.get? b=some u->h'.get? b=some u) (heo:∃u,h'.get? e=some u)
  (new:ObjOk X.prog X.w (upd H x o) h' x o):Inv X pins σ (upd H x o) { s with heap:=h',toks:=t' }:=I.un (Un.write mu he k heo) (I.hok.write mu he k heo new)
theorem Inv.pins_of {pins':List (Addr × Obj)}(I:Inv X pins σ H s) (h:∀p∈pins',s.heap.get? p.1=some p.2/\H p.1=none/\p.1≠X.env.locals/\p.1 ∉ X.fs/\∀v,p.2.data≠.cell v):Inv X pins' σ H s :=
 ⟨I.ok,I.os,I.bare,I.base,I.loc,I.cell,I.free,I.freeC,λp hp=>(List.mem_append.mp hp).elim (λz=>I.pin p (List.mem_append_left _ z)) (h p),I.hok,I.len⟩
theorem znk {N:List Str}(hN:N.Nodup) {i j:Nat}{x:Str}(a:N[i]? = some x) (b:N[j]? = some x):i=j:=by
 obtain ⟨h1,e1⟩:=qme a
 obtain ⟨h2,e2⟩:=qme b
 exact (List.getElem_inj hN).mp (e1.trans e2.symm)
theorem zku {M:Model}{A:Around}{E:Value->Shared->Prop}{i:Nat}{x:Str}{v:V}{u:Value}{Q:Unit->Shared->Prop}(I:Inv X pins σ H s) (hN:X.N.Nodup) (hi:X.N[i]? = some x) (hx:Loc X.env.scope x) (r:RelV v u)
  (h:∀s',Inv X pins (σ.set i (some v)) H s'->(∃a,Heap.SameBut a s.heap s'.heap/\(a=X.env.locals\/X.env.cells.lookup x=some a))->Q () s') (hf:X.fn x=true\/X.env.scope.names.lookup x=some .local:=by first|exact .inl rfl|exact .inr rfl|assumption):wpAny M A (storeName X.env x u) Q E s:=by
 obtain ⟨m,hn,hl⟩:=id I.loc
 have hcls:(X.env.scope.kind == .class || (X.env.scope.kind == .module && X.env.locals != X.env.globals))=false:=by rw [I.ok.kind];rfl
 have hiσ:i<σ.length:=by rw [I.len];exact (qme hi).1
 have cne:=I.cne
 have tracked:∀{a:Addr} {h':Heap},(∃o,s.heap.get? a=some o/\H a=none)->Heap.SameBut a s.heap h'->HOk X.prog X.w H h':=λ{a h'} ha hs b ob e=>by
  obtain ⟨_,_,hfree⟩:=ha
  refine (I.hok b ob e).stay (λc w' hc q=>(hs.2 c ?_).trans q) (λ_ q=>q) λ_ _ q=>q
  rintro rfl
  rcases hc with rfl|hc
  ·rw [hfree] at e;cases e
  ·rw [hfree] at hc;cases hc
 rcases hx with hk|hk
 ·refine wpAny_storeName_local hk hn (λh' hn' hs=>?_) hcls
  obtain ⟨oL,_,_,hoL,_⟩:=id hn
  refine h _ ⟨I.ok,I.os,I.bare,⟨λb o e n hb hx=>?_,λb o e n hb hx=>?_,I.base.free,λb o e hx=>?_,I.base.tups,I.base.frzs,I.base.tbls⟩,⟨_,hn',λj y v' e1 e2 e3=>?_⟩,λy c e=>?_,I.free,I.freeC,λp hp=>?_,tracked ⟨oL,hoL,I.free⟩ hs,by simpa using I.len⟩ ⟨_,hs,.inl rfl⟩
  ·exact (hs.2 b (Nat.ne_of_lt (Nat.lt_of_lt_of_le (Heap.lt_size e) I.ok.above))).trans (I.base.keep b o e n hb hx)
  ·obtain ⟨sl,e1⟩:=I.base.slot b o e n hb hx
   exact ⟨sl,(hs.2 b (Nat.ne_of_lt (Nat.lt_of_lt_of_le (Heap.lt_size e) I.ok.above))).trans e1⟩
  ·obtain ⟨o',e1⟩:=I.base.there b o e hx
   exact ⟨o',(hs.2 b (Nat.ne_of_lt (Nat.lt_of_lt_of_le (Heap.lt_size e) I.ok.above))).trans e1⟩
  ·by_cases hj:j=i
   ·subst hj
    rw [hi] at e1;cases e1
    rw [List.getElem?_set_self hiσ] at e2
    cases e2
    exact ⟨u,r,.inl ⟨hk,by simp⟩⟩
   ·rw [List.getElem?_set_ne (Ne.symm hj)] at e2
    obtain ⟨u',r',q⟩:=hl j y v' e1 e2 e3
    refine ⟨u',r',?_⟩
    rcases q with ⟨k,e⟩|⟨k,c,e,z⟩
    ·refine .inl ⟨k,?_⟩
     have:y≠x:=λe=>hj (znk hN e1 (e ▸ hi))
     simp [this,e]
    ·exact .inr ⟨k,c,e,z.sameBut hs (cne y c e)⟩
  ·obtain ⟨w',z⟩:=I.cell y c e
   exact ⟨w',z.sameBut hs (cne y c e)⟩
  ·obtain ⟨e,n,ne,nf,d⟩:=I.pin p hp
   exact ⟨(hs.2 p.1 ne).trans e,n,ne,nf,d⟩
 ·have hfn:X.fn x=true:=by
   rcases hf with z|z
   ·exact z
   ·rw [z] at hk;cases hk
  obtain ⟨c,hc⟩:=I.ok.has x (.inl hk)
  obtain ⟨w',z⟩:=I.cell x c hc
  refine wpAny_storeName_cell I.ok.kind hk hc z (λh' hc' hs=>?_)
  obtain ⟨oc,hoc,hocd⟩:=id z
  refine h { s with heap:=h' } ⟨I.ok,I.os,I.bare,⟨λb o e n hb hx=>?_,λb o e n hb hx=>?_,I.base.free,λb o e hx=>?_,I.base.tups,I.base.frzs,I.base.tbls⟩,⟨m,hn.sameBut hs (Ne.symm (cne x c hc)),λj y v' e1 e2 e3=>?_⟩,λy c' e=>?_,I.free,I.freeC,λp hp=>?_,tracked ⟨oc,hoc,I.freeC x c hc⟩ hs,by simpa using I.len⟩ ⟨c,hs,.inr hc⟩
  ·exact (hs.2 b (Nat.ne_of_lt (Nat.lt_of_lt_of_le (Heap.lt_size e) (I.ok.cab x c hfn hc)))).trans (I.base.keep b o e n hb hx)
  ·obtain ⟨sl,e1⟩:=I.base.slot b o e n hb hx
   exact ⟨sl,(hs.2 b (Nat.ne_of_lt (Nat.lt_of_lt_of_le (Heap.lt_size e) (I.ok.cab x c hfn hc)))).trans e1⟩
  ·obtain ⟨o',e1⟩:=I.base.there b o e hx
   exact ⟨o',(hs.2 b (Nat.ne_of_lt (Nat.lt_of_lt_of_le (Heap.lt_size e) (I.ok.cab x c hfn hc)))).trans e1⟩
  ·by_cases hj:j=i
   ·subst hj
    rw [hi] at e1;cases e1
    rw [List.getElem?_set_self hiσ] at e2
    cases e2
    exact ⟨u,r,.inr ⟨.inl hk,c,hc,hc'⟩⟩
   ·rw [List.getElem?_set_ne (Ne.symm hj)] at e2
    obtain ⟨u',r',q⟩:=hl j y v' e1 e2 e3
    refine ⟨u',r',?_⟩
    rcases q with q|⟨k,c',e,z'⟩
    ·exact .inl q
    ·refine .inr ⟨k,c',e,z'.sameBut hs ?_⟩
     rintro rfl
     exact hj (znk hN e1 (I.ok.inj _ _ _ e hc ▸ hi))
  ·by_cases hcc:c' = c
   ·subst hcc;exact ⟨_,hc'⟩
   ·obtain ⟨w2,z2⟩:=I.cell y c' e
    exact ⟨w2,z2.sameBut hs hcc⟩
  ·obtain ⟨e,n,ne,nf,d⟩:=I.pin p hp
   refine ⟨(hs.2 p.1 ?_).trans e,n,ne,nf,d⟩
   intro q
   rw [q,hoc] at e
   have q':oc=p.2:=qoi e
   exact d w' (by rw [<-q'];exact hocd)
theorem znl {M:Model}{A:Around}{E:Value->Shared->Prop}{i:Nat}{x:Str}{v:V}{u:Value}{Q:Unit->Shared->Prop}(I:Inv X pins σ H s) (hN:X.N.Nodup) (hi:X.N[i]? = some x) (hx:Loc X.env.scope x) (r:RelV v u)
  (h:∀s',Inv X pins (σ.set i (some v)) H s'->Q () s') (hf:X.fn x=true\/X.env.scope.names.lookup x=some .local:=by first|exact .inl rfl|exact .inr rfl|assumption):wpAny M A (storeName X.env x u) Q E s :=
 zku I hN hi hx r (λs' I' _=>h s' I') hf
theorem Inv.call' {s':Shared}{ch:List Addr}(I:Inv X pins σ H s) (ho:s'.os=s.os) (u:Un (frs X.stack) ch H H' s.heap s'.heap) (hok:HOk X.prog X.w H' s'.heap) (hg:AllBare s'.gens)
  (hch:∀b∈ch,(b∈X.ex\/X.s₀.heap.objs.size<=b)/\b≠X.env.locals/\(∀x c,X.env.cells.lookup x=some c->c≠b)/\∀p∈X.pn++pins,p.1≠b):Inv X pins σ H' s':=by
 obtain ⟨h',g',d',t',o'⟩:=s'
 have e:o' = s.os:=ho
 subst e
 exact I.call (g':=g') (t':=t') (d':=d') u hok hg hch
end
abbrev XK:=Value->Option Addr->Hp->Prop
abbrev St:=List (Option V)
abbrev VK:=V->Hp->Prop
abbrev TE:=St->Hp->VK->Prop
abbrev TT:=St->Hp->(Bool->Hp->Prop)->Prop
abbrev TA:=St->Hp->(List V->Hp->Prop)->Prop
structure Ends where
 nx:St->Hp->Prop
 rt:VK
 bk:St->Hp->Prop:=λ_ _=>False
 ct:St->Hp->Prop:=λ_ _=>False
abbrev TS:=Ends->St->Hp->Prop
def EP (X:Cx) (pins:List (Addr × Obj)) (σ:St) (Q:VK) (u:Value) (s':Shared):Prop:=∃v H',Inv X pins σ H' s'/\RelV v u/\Q v H'
def TP (X:Cx) (pins:List (Addr × Obj)) (σ:St) (Q:Bool->Hp->Prop) (b:Bool) (s':Shared):Prop:=∃H',Inv X pins σ H' s'/\Q b H'
def AP (X:Cx) (pins:List (Addr × Obj)) (σ:St) (Q:List V->Hp->Prop) (us:List Value) (s':Shared):Prop:=∃vs H',Inv X pins σ H' s'/\Vals vs us/\Q vs H'
def SP (X:Cx) (pins:List (Addr × Obj)) (D:Ends) (f:Flow) (s':Shared):Prop :=
 match f with
 | .next=>∃σ' H',Inv X pins σ' H' s'/\D.nx σ' H'
 | .brk=>∃σ' H',Inv X pins σ' H' s'/\D.bk σ' H'
 | .cont=>∃σ' H',Inv X pins σ' H' s'/\D.ct σ' H'
 | .ret u=>∃v σ' H',Inv X pins σ' H' s'/\RelV v u/\D.rt v H'
def PE (X:Cx) (e:Expr) (t:TE):Prop :=
 ∀(pins:List (Addr × Obj)) (s:Shared) (σ:St) (H:Hp) (Q:VK),Inv X pins σ H s->t σ H Q->wpAny (model X.prog X.w) X.A (eval e X.env) (EP X pins σ Q) X.xe s
def PT (X:Cx) (e:Expr) (t:TT):Prop :=
 ∀(pins:List (Addr × Obj)) (s:Shared) (σ:St) (H:Hp) (Q:Bool->Hp->Prop),Inv X pins σ H s->t σ H Q->wpAny (model X.prog X.w) X.A (isTrue e X.env (eval e X.env)) (TP X pins σ Q) X.xe s
def PW (X:Cx) (e:Expr) (t:TT):Prop :=
 ∀(whole:Sem Value) (pins:List (Addr × Obj)) (s:Shared) (σ:St) (H:Hp) (Q:Bool->Hp->Prop),Inv X pins σ H s->t σ H Q->wpAny (model X.prog X.w) X.A (isTrue e X.env whole) (TP X pins σ Q) X.xe s
theorem PW.pt {X:Cx}{e:Expr}{t:TT}(h:PW X e t):PT X e t:=h _
def PA (X:Cx) (es:List Expr) (t:TA):Prop :=
 ∀(pos:Pos) (pins:List (Addr × Obj)) (s:Shared) (σ:St) (H:Hp) (Q:List V->Hp->Prop),Inv X pins σ H s->t σ H Q->wpAny (model X.prog X.w) X.A (spliced (backTo pos (starEach es X.env))) (AP X pins σ Q) X.xe s
def PS (X:Cx) (st:Stmt) (t:TS):Prop :=
 ∀(pins:List (Addr × Obj)) (s:Shared) (σ:St) (H:Hp) (D:Ends),Inv X pins σ H s->t D σ H->wpAny (model X.prog X.w) X.A (exec st X.env) (SP X pins D) X.xe s
def PSs (X:Cx) (st:List Stmt) (t:TS):Prop :=
 ∀(pins:List (Addr × Obj)) (s:Shared) (σ:St) (H:Hp) (D:Ends),Inv X pins σ H s->t D σ H->wpAny (model X.prog X.w) X.A (execs st X.env) (SP X pins D) X.xe s
theorem thn {α:Type}{t:Sem α}{Q Q':α->Shared->Prop}{M:Model}{A:Around}{E:Value->Shared->Prop}{s:Shared}(h:wpAny M A t Q E s) (hQ:∀a s,Q a s->Q' a s):wpAny M A t Q' E s:=wpAny_mono h hQ λ_ _ x=>x
section
variable {X:Cx}
def zuo (i:Nat):TE:=λσ H Q=>∃v,σ[i]? = some (some v)/\Q v H
def tC (v:V):TE:=λ_ H Q=>Q v H
theorem zup {i:Nat}{x:Str}{pos:Pos}(hN:X.N[i]? = some x) (hv:Vis X.env.scope x) (hd:(x == ("__debug__":Str))=false:=by decide) (hcd:(x == ("__classdict__":Str))=false:=by decide):PE X (.Name x pos) (zuo i):=by
 intro pins s σ H Q I h
 obtain ⟨v,e,h⟩:=h
 obtain ⟨m,hn,hl⟩:=I.loc
 obtain ⟨u,r,l⟩:=hl i x v hN e hv
 have fin:EP X pins σ Q u s:=⟨v,H,I,r,h⟩
 rcases l with ⟨hk,hm⟩|⟨hk,c,hc,hcell⟩
 ·exact wpAny_Name (wpAny_loadName_local I.ok.kind hk hn hm fin) hd
 ·rcases hk with hk|hk
  ·exact wpAny_Name (wpAny_loadName_cell I.ok.kind hk hc hcell fin) hd
  ·exact wpAny_Name (wpAny_loadName_free I.ok.kind hk hc hcell fin hcd) hd
theorem znm {i j pos}:PE X (.Constant (.int i) j pos) (tC (.int i)):=λ_ _ _ H _ I h=>wpAny_Constant_int ⟨.int i,H,I.tok _,⟨_,rfl⟩,h⟩
theorem zuq {b j pos}:PE X (.Constant (.bool b) j pos) (tC (.bl b)):=λ_ _ _ H _ I h=>Constant_bool ⟨.bl b,H,I,rfl,h⟩
theorem zur {j pos}:PE X (.Constant .none j pos) (tC .non):=λ_ _ _ H _ I h=>Constant_none ⟨.non,H,I,rfl,h⟩
def Gl (X:Cx) (x:Str):Prop:=X.env.kindOf x=some .globalImplicit
theorem zus {E:Value->Shared->Prop}{pins:List (Addr × Obj)}{s:Shared}{σ:St}{H:Hp}{x:Str}{u:Value}{pos:Pos}{Q:Value->Shared->Prop}(I:Inv X pins σ H s) (hg:Gl X x) (hm:X.mg x=some u) (h:Q u s)
  (hd:(x == ("__debug__":Str))=false:=by decide):wpAny (model X.prog X.w) X.A (eval (.Name x pos) X.env) Q E s :=
 Calls.Name_function_global I.ok.kind hg (Calls.loadGlobal_global (by rw [I.ok.glob];exact I.mod.glob.keeps I.bk) hm h) hd
theorem zd7 {E:Value->Shared->Prop}{pins:List (Addr × Obj)}{s:Shared}{σ:St}{H:Hp}{x:Str}{u:Value}{pos:Pos}{Q:Value->Shared->Prop}(I:Inv X pins σ H s) (hg:Gl X x) (hm:X.mg x=none) (hv:bootBuiltins x=some u) (h:Q u s)
  (hn:x≠"__name__":=by decide) (hd:(x == ("__debug__":Str))=false:=by decide):wpAny (model X.prog X.w) X.A (eval (.Name x pos) X.env) Q E s:=by
 obtain ⟨mb,h1,h2⟩:=I.mod.blt
 exact Calls.Name_function_global I.ok.kind hg (Calls.loadGlobal_builtin (by rw [I.ok.glob];exact I.mod.glob.keeps I.bk) hm (by rw [I.ok.blt];exact h1.keeps I.bk) ((h2 x hn).trans hv) h) hd
theorem zut {x:Str}{v:V}{u:Value}{pos:Pos}(hg:Gl X x) (hm:X.mg x=none) (hv:bootBuiltins x=some u) (r:RelV v u) (hn:x≠"__name__":=by decide) (hd:(x == ("__debug__":Str))=false:=by decide):PE X (.Name x pos) (tC v) :=
 λ_ _ _ H _ I h=>zd7 I hg hm hv ⟨v,H,I,r,h⟩ hn hd
variable {a b:Expr}{ta tb:TE}{pos:Pos}
def tB (t:TE):TT:=λσ H Q=>t σ H λx H1=>∃c,x=.bl c/\Q c H1
theorem zuu {e:Expr}{t:TE}(h:PE X e t) (he:∀whole,isTrue e X.env whole=(do let v <-whole;standAt e.pos;holding [v] (truthy v)):=by intro _;rfl):PT X e (tB t):=by
 intro pins s σ H Q I hw
 refine isTrue_plain (thn (h pins s σ H _ I hw) λv s1 ⟨x,H1,I1,r1,q1⟩=>?_) (he _)
 obtain ⟨d,rfl,q⟩:=q1
 cases r1
 exact wpAny_truthy_bool ⟨H1,I1,q⟩
variable {tA tB':TT}{rest:List Expr}
def tAnd (t u:TT):TT:=λσ H Q=>t σ H λc H1=>if c=true then u σ H1 Q else Q false H1
def tOr (t u:TT):TT:=λσ H Q=>t σ H λc H1=>if c=true then Q true H1 else u σ H1 Q
def zuv (t:TT):TT:=λσ H Q=>t σ H λc H1=>Q (!c) H1
theorem zuw (ha:PT X a tA):PW X (.BoolOp .And [a] pos) tA:=by
 intro wh pins s σ H Q I h
 refine isTrue_and (thn (ha pins s σ H Q I h) λc s1 e=>?_)
 cases c with
 | true=>exact isTrue_and_nil e
 | false=>exact e
theorem zux (ha:PT X a tA):PW X (.BoolOp .Or [a] pos) tA:=by
 intro wh pins s σ H Q I h
 refine isTrue_or (thn (ha pins s σ H Q I h) λc s1 e=>?_)
 cases c with
 | false=>exact isTrue_or_nil e
 | true=>exact e
theorem zuy (ha:PT X a tA) (hb:PW X (.BoolOp .And (b :: rest) pos) tB'):PW X (.BoolOp .And (a :: b :: rest) pos) (tAnd tA tB'):=by
 intro wh pins s σ H Q I h
 refine isTrue_and (thn (ha pins s σ H _ I h) λc s1 ⟨H1,I1,q1⟩=>?_)
 cases c with
 | true=>exact hb wh pins s1 σ H1 Q I1 q1
 | false=>exact ⟨H1,I1,q1⟩
theorem zuz (ha:PT X a tA) (hb:PW X (.BoolOp .Or (b :: rest) pos) tB'):PW X (.BoolOp .Or (a :: b :: rest) pos) (tOr tA tB'):=by
 intro wh pins s σ H Q I h
 refine isTrue_or (thn (ha pins s σ H _ I h) λc s1 ⟨H1,I1,q1⟩=>?_)
 cases c with
 | true=>exact ⟨H1,I1,q1⟩
 | false=>exact hb wh pins s1 σ H1 Q I1 q1
theorem zu0 (ha:PT X a tA):PT X (.UnaryOp .Not a pos) (zuv tA):=by
 intro pins s σ H Q I h
 exact isTrue_not (ha pins s σ H (λc H1=>Q (!c) H1) I h)
def zu1 (ta tb:TE):TE:=λσ H Q=>ta σ H λx H1=>∃c,x=.bl c/\if c=true then tb σ H1 Q else Q (.bl false) H1
def zu2 (ta:TE):TE:=λσ H Q=>ta σ H λx H1=>∃c,x=.bl c/\Q (.bl (!c)) H1
theorem zu3 {op}{t:TE}(h:PE X a t):PE X (.BoolOp op [a] pos) t:=λpins s σ H Q I hw=>BoolOp_one (h pins s σ H Q I hw)
theorem zu4 (ha:PE X a ta) (hb:PE X (.BoolOp .And (b :: rest) pos) tb):PE X (.BoolOp .And (a :: b :: rest) pos) (zu1 ta tb):=by
 intro pins s σ H Q I h
 refine BoolOp_and (thn (ha pins s σ H _ I h) λv s1 ⟨x,H1,I1,r1,q1⟩=>?_)
 obtain ⟨c,rfl,q1⟩:=q1
 cases r1
 refine wpAny_truthy_bool ?_
 cases c with
 | true=>exact hb pins s1 σ H1 Q I1 q1
 | false=>exact ⟨.bl false,H1,I1,rfl,q1⟩
theorem zu5 (ha:PE X a ta):PE X (.UnaryOp .Not a pos) (zu2 ta):=by
 intro pins s σ H Q I h
 refine UnaryOp_ (thn (ha pins s σ H _ I h) λv s1 ⟨x,H1,I1,r1,q1⟩=>?_)
 obtain ⟨c,rfl,q1⟩:=q1
 cases r1
 exact not_of (wpAny_truthy_bool ⟨.bl (!c),H1,I1,rfl,q1⟩)
end
def SqL (K:QFg) (H:Hp) (a:Addr) (xs:List V):Prop :=
 Rd H a (.lst xs) \/
  ∃(o:Obj) (its:Array Value) (n:Nat),K.lookup a=some o/\o.cls=.type "list"/\o.dict=none/\o.data=.seq its n/\its.size<=sizeLine/\Vals xs its.toList
def SqT (K:QFg) (H:Hp) (a:Addr) (xs:List V):Prop :=
 Rd H a (.tup xs) \/
  ∃(o:Obj) (its:Array Value) (n:Nat),K.lookup a=some o/\o.cls=.type "tuple"/\o.data=.seq its n/\its.size<=sizeLine/\Vals xs its.toList
noncomputable def zu6:Value->Option V
 | .none=>some .non
 | .bool b=>some (.bl b)
 | .int i _=>some (.int i)
 | .str x _=>some (.str x)
 | .bytes b _=>some (.byt b)
 | .float b _=>some (.flt b)
 | .ref a=>some (.ref a)
 | .type n=>some (.ty n)
 | _=>none
theorem RelV.abs {x:V}{u:Value}(r:RelV x u):zu6 u=some x:=by
 cases x with
 | non=>cases r;rfl
 | bl _=>cases r;rfl
 | int _=>obtain ⟨t,rfl⟩:=r;rfl
 | str _=>obtain ⟨t,rfl⟩:=r;rfl
 | byt _=>obtain ⟨t,rfl⟩:=r;rfl
 | flt _=>obtain ⟨t,rfl⟩:=r;rfl
 | ref _=>cases r;rfl
 | ty _=>cases r;rfl
theorem RelV.inj {x y:V}{u:Value}(r:RelV x u) (q:RelV y u):x=y:=qoi (r.abs.symm.trans q.abs)
theorem Vals.inj:∀{xs ys:List V}{us:List Value},Vals xs us->Vals ys us->xs=ys
 | _,_,_,.nil,.nil=>rfl
 | _,_,_,.cons r t,.cons r' t'=>by rw [r.inj r',Vals.inj t t']
section
variable {X:Cx}{pins:List (Addr × Obj)}{σ:St}{H:Hp}{s:Shared}{a:Addr}{xs ys:List V}
theorem SqT.of {K:QFg}(h:H a=some (.tup xs)):SqT K H a xs:=.inl (.inl h)
theorem Inv.list (I:Inv X pins σ H s) (h:SqL X.K H a xs):∃its:List Value,Vals xs its/\PlainL s.heap a its.toArray/\xs.length<=sizeLine:=by
 rcases h with h|⟨o,its,n,hk,hc,hd,hs,hz,r⟩
 ·obtain ⟨z,its,n,r,e⟩:=h.ok I.hok
  exact ⟨its,r,⟨_,n,e,rfl,rfl,rfl⟩,z⟩
 ·refine ⟨its.toList,r,⟨o,n,I.kIn a o hk,hc,hd,by simpa using hs⟩,?_⟩
  have e:=r.length
  simp only [Array.length_toList] at e
  omega
theorem Inv.tuple (I:Inv X pins σ H s) (h:SqT X.K H a xs):∃its:List Value,Vals xs its/\IsTup s.heap a its.toArray/\xs.length<=sizeLine:=by
 rcases h with h|⟨o,its,n,hk,hc,hs,hz,r⟩
 ·obtain ⟨z,its,r,p⟩:=h.ok I.hok
  exact ⟨its,r,p.tup,z⟩
 ·refine ⟨its.toList,r,⟨o,I.kIn a o hk,hc,n,by simpa using hs⟩,?_⟩
  have e:=r.length
  simp only [Array.length_toList] at e
  omega
theorem Inv.list_inj (I:Inv X pins σ H s) (h:SqL X.K H a xs) (h':SqL X.K H a ys):xs=ys:=by
 obtain ⟨its,r,⟨o,n,e,_,_,d⟩,_⟩:=I.list h
 obtain ⟨its',r',⟨o',n',e',_,_,d'⟩,_⟩:=I.list h'
 rw [e] at e';cases e'
 rw [d] at d'
 injection d' with d1 _
 have:its=its':=by simpa using congrArg Array.toList d1
 subst this
 exact r.inj r'
theorem Inv.tuple_inj (I:Inv X pins σ H s) (h:SqT X.K H a xs) (h':SqT X.K H a ys):xs=ys:=by
 obtain ⟨its,r,⟨o,e,_,n,d⟩,_⟩:=I.tuple h
 obtain ⟨its',r',⟨o',e',_,n',d'⟩,_⟩:=I.tuple h'
 rw [e] at e';cases e'
 rw [d] at d'
 injection d' with d1 _
 have:its=its':=by simpa using congrArg Array.toList d1
 subst this
 exact r.inj r'
end
noncomputable abbrev Cx.wish (X:Cx) (E:Value->Shared->Prop):Cx:={ X with xe:=E }
noncomputable abbrev Cx.nox (X:Cx):Cx:=X.wish λ_ _=>False
theorem Cx.Ok.wish {X:Cx}(ok:X.Ok) (E:Value->Shared->Prop):(X.wish E).Ok :=
 ⟨ok.mod,ok.kind,ok.glob,ok.blt,ok.above,ok.inj,ok.has,ok.cab,ok.hd,ok.frames,ok.stk,ok.exf,ok.bs,ok.bsz,ok.noex,ok.exfs,ok.funs,ok.frf⟩
theorem Cx.Ok.unwish {X:Cx}{E:Value->Shared->Prop}(ok:(X.wish E).Ok):X.Ok :=
 ⟨ok.mod,ok.kind,ok.glob,ok.blt,ok.above,ok.inj,ok.has,ok.cab,ok.hd,ok.frames,ok.stk,ok.exf,ok.bs,ok.bsz,ok.noex,ok.exfs,ok.funs,ok.frf⟩
section
variable {X:Cx}{pins:List (Addr × Obj)}{σ:St}{H:Hp}{s:Shared}{E:Value->Shared->Prop}
theorem Inv.wish (I:Inv X pins σ H s) (E:Value->Shared->Prop):Inv (X.wish E) pins σ H s:=⟨I.ok.wish E,I.os,I.bare,I.base,I.loc,I.cell,I.free,I.freeC,I.pin,I.hok,I.len⟩
theorem Inv.unwish (I:Inv (X.wish E) pins σ H s):Inv X pins σ H s:=⟨I.ok.unwish,I.os,I.bare,I.base,I.loc,I.cell,I.free,I.freeC,I.pin,I.hok,I.len⟩
theorem SP.unwish {D:Ends}{f:Flow}{s':Shared}(h:SP (X.wish E) pins D f s'):SP X pins D f s':=by
 cases f with
 | next=>obtain ⟨σ',H',I,q⟩:=h;exact ⟨σ',H',I.unwish,q⟩
 | brk=>obtain ⟨σ',H',I,q⟩:=h;exact ⟨σ',H',I.unwish,q⟩
 | cont=>obtain ⟨σ',H',I,q⟩:=h;exact ⟨σ',H',I.unwish,q⟩
 | ret u=>obtain ⟨v,σ',H',I,r,q⟩:=h;exact ⟨v,σ',H',I.unwish,r,q⟩
theorem PSs.nox {st:List Stmt}{t:TS}(h:PSs X.nox st t):PSs X st t:=λpins s σ H D I hw =>
 wpAny_mono (h pins s σ H D (I.wish _) hw) (λ_ _ q=>q.unwish) λ_ _ z=>False.elim z
end
section
variable {X:Cx}{st:Stmt}{rest:List Stmt}{t u:TS}{e:Expr}{te:TE}{pos:Pos}
def zu7:TS:=λD σ H=>D.nx σ H
def zu8 (t u:TS):TS:=λD σ H=>t { D with nx:=u D } σ H
theorem zu9:PSs X [] zu7:=λ_ _ σ H _ I h=>wpAny_execs_nil ⟨σ,H,I,h⟩
theorem zva (h1:PS X st t) (h2:PSs X rest u):PSs X (st :: rest) (zu8 t u):=by
 intro pins s σ H D I h
 refine wpAny_execs_cons (thn (h1 pins s σ H { D with nx:=u D } I h) λf s1 q=>?_)
 cases f with
 | next =>
  obtain ⟨σ',H',I',q⟩:=q
  exact h2 pins s1 σ' H' D I' q
 | ret v=>exact q
 | brk=>exact q
 | cont=>exact q
theorem zvb (h1:PS X st t):PSs X [st] t:=by
 intro pins s σ H D I h
 refine wpAny_execs_cons (thn (h1 pins s σ H D I h) λf s1 q=>?_)
 cases f with
 | next=>exact wpAny_execs_nil q
 | ret v=>exact q
 | brk=>exact q
 | cont=>exact q
theorem Inv.quiet {pins:List (Addr × Obj)}{σ:St}{H:Hp}{s:Shared}(I:Inv X pins σ H s):interactive X.env=false:=by simp [interactive,I.ok.kind]
def zvc (te:TE):TS:=λD σ H=>te σ H λ_ H1=>D.nx σ H1
theorem zvd (he:PE X e te) (hs:swapsWith e none pos.line X.env=pure false:=by rfl):PS X (.Expr e pos) (zvc te):=by
 intro pins s σ H D I h
 exact wpAny_Expr_any (thn (he pins s σ H _ I h) λv s1 ⟨x,H1,I1,r1,q1⟩=>⟨σ,H1,I1,q1⟩) I.quiet hs
def zve (te:TE):TS:=λD σ H=>te σ H D.rt
theorem zvf (he:PE X e te):PS X (.Return (some e) pos) (zve te):=by
 intro pins s σ H D I h
 exact wpAny_Return_some (thn (he pins s σ H _ I h) λv s1 ⟨x,H1,I1,r1,q1⟩=>⟨x,σ,H1,I1,r1,q1⟩)
def zvg (c:TT) (t u:TS):TS:=λD σ H=>c σ H λb H1=>if b=true then t D σ H1 else u D σ H1
theorem zvh {c:Expr}{a b:List Stmt}{tc:TT}(hc:PT X c tc) (ha:PSs X a t) (hb:PSs X b u):PS X (.If c a b pos) (zvg tc t u):=by
 intro pins s σ H D I h
 refine wpAny_If (thn (hc pins s σ H _ I h) λd s1 ⟨H1,I1,q1⟩=>?_)
 cases d with
 | true=>exact ha pins s1 σ H1 D I1 q1
 | false=>exact hb pins s1 σ H1 D I1 q1
end
abbrev TG:=V->St->Hp->(St->Hp->Prop)->Prop
abbrev TGs:=List V->St->Hp->(St->Hp->Prop)->Prop
def PG (X:Cx) (target:Expr) (t:TG):Prop :=
 ∀(pins:List (Addr × Obj)) (s:Shared) (σ:St) (H:Hp) (v:V) (u:Value) (Q:St->Hp->Prop),Inv X pins σ H s->RelV v u->t v σ H Q ->
  wpAny (model X.prog X.w) X.A (assign target X.env u) (λ_ s'=>∃σ' H',Inv X pins σ' H' s'/\Q σ' H') X.xe s
def PGs (X:Cx) (ts:List Expr) (t:TGs):Prop :=
 ∀(pins:List (Addr × Obj)) (s:Shared) (σ:St) (H:Hp) (vs:List V) (us:List Value) (Q:St->Hp->Prop),Inv X pins σ H s->Vals vs us->t vs σ H Q ->
  wpAny (model X.prog X.w) X.A (assignInOrder ((assignEach ts X.env).map (·.2)) us) (λ_ s'=>∃σ' H',Inv X pins σ' H' s'/\Q σ' H') X.xe s
abbrev TSet:=V->V->V->Hp->(Hp->Prop)->Prop
def znn (X:Cx) (t:TSet):Prop :=
 ∀(pins:List (Addr × Obj)) (s:Shared) (σ:St) (H:Hp) (o i v:V) (ov iv u:Value) (Q:Hp->Prop),Inv X pins σ H s->RelV o ov->RelV i iv->RelV v u->t o i v H Q ->
  wpAny (model X.prog X.w) X.A (setItem ov iv u) (λ_ s'=>∃H',Inv X pins σ H' s'/\Q H') X.xe s
section
variable {X:Cx}{pos:Pos}
def ziv (i:Nat):TG:=λv σ H Q=>Q (σ.set i (some v)) H
theorem zvi {i:Nat}{x:Str}(hN:X.N.Nodup) (hi:X.N[i]? = some x) (hx:Loc X.env.scope x) (hf:X.fn x=true\/X.env.scope.names.lookup x=some .local:=by first|exact .inl rfl|exact .inr rfl|assumption):PG X (.Name x pos) (ziv i):=by
 intro pins s σ H v u Q I r h
 exact wpAny_assign_Name (znl I hN hi hx r (λs' I'=>⟨_,H,I',h⟩) hf)
def zvj:TGs:=λvs σ H Q=>vs=[]/\Q σ H
def zvk (t:TG) (u:TGs):TGs:=λvs σ H Q=>∃v r,vs=v :: r/\t v σ H λσ' H'=>u r σ' H' Q
theorem zvl:PGs X [] zvj:=by
 intro pins s σ H vs us Q I r h
 obtain ⟨e,h⟩:=h
 subst e
 cases r
 exact assignInOrder_nil ⟨σ,H,I,h⟩
theorem zvm {e:Expr}{es:List Expr}{t:TG}{u:TGs}(h1:PG X e t) (h2:PGs X es u)
  (hs:(assignEach (e :: es) X.env).map (·.2)=assign e X.env :: (assignEach es X.env).map (·.2):=by rfl):PGs X (e :: es) (zvk t u):=by
 intro pins s σ H vs us Q I r h
 obtain ⟨v,vr,e1,h⟩:=h
 subst e1
 cases r with
 | cons r rr =>
  rw [hs]
  refine assignInOrder_cons (thn (h1 pins s σ H _ _ _ I r h) λ_ s1 ⟨σ1,H1,I1,q1⟩=>?_)
  exact h2 pins s1 σ1 H1 _ _ Q I1 rr q1
def zvn (K:QFg) (n:Nat) (t:TGs):TG:=λv σ H Q=>∃a xs,v=.ref a/\SqT K H a xs/\xs.length=n/\t xs σ H Q
theorem zvo {es:List Expr}{k:Nat}{t:TGs}{n:Nat}(hc:X.calm=true) (h:PGs X es t)
  (hn:(assignEach es X.env).length=n:=by rfl) (hst:(assignEach es X.env).findIdx? (·.1)=none:=by rfl):PG X (.Tuple es k pos) (zvn X.K n t):=by
 intro pins s σ H v u Q I r hw
 obtain ⟨a,xs,e1,hq,hl,hw⟩:=hw
 subst e1
 cases r
 obtain ⟨its,rv,ht,hz⟩:=I.tuple hq
 refine assign_Tuple_tuple (I.ok.hd hc) ht (by simp [hn,<-hl,rv.length]) hst λh' hx=>?_
 have I1:Inv X pins σ H { s with heap:=h' }:=I.kept (t':=s.toks) λb o e=>hx b o (Nat.ne_of_lt (Heap.lt_size e)) e
 exact h pins _ σ H xs _ Q I1 (by simpa using rv) hw
def zvp (to ti:TE) (t:TSet):TG:=λv σ H Q=>to σ H λo H1=>ti σ H1 λi H2=>t o i v H2 λH3=>Q σ H3
theorem zvq {o i:Expr}{to ti:TE}{t:TSet}(ho:PE X o to) (hi:PE X i ti) (hs:znn X t)
  (ha:∀v,assign (.Subscript o i pos) X.env v=(do
   let ov <-holding [v] (eval o X.env)
   let iv <-holding [v,ov] (eval i X.env)
   standAt pos
   holding [v,ov,iv] (setItem ov iv v)
   release [v,ov,iv] []):=by intro _;rfl):PG X (.Subscript o i pos) (zvp to ti t):=by
 intro pins s σ H v u Q I r h
 rw [ha]
 refine qwb (wpAny_holding (thn (ho pins s σ H _ I h) λov s1 ⟨x,H1,I1,r1,q1⟩=>?_))
 refine qwb (wpAny_holding (thn (hi pins s1 σ H1 _ I1 q1) λiv s2 ⟨y,H2,I2,r2,q2⟩=>?_))
 refine qwb (wpAny_standAt (qwb (wpAny_holding (thn (hs pins s2 σ H2 x y v ov iv u _ I2 r1 r2 r q2) λ_ s3 ⟨H3,I3,q3⟩=>?_))))
 exact wpAny_release ⟨σ,H3,I3,q3⟩
def ziw (te:TE) (g:TG):TS:=λD σ H=>te σ H λx H1=>g x σ H1 D.nx
theorem zvr {tg e:Expr}{te:TE}{g:TG}(he:PE X e te) (hg:PG X tg g) (hs:swapsWithSole [tg] e pos.line X.env=pure false:=by rfl) (hw:swappedStores [tg] e X.env=pure none:=by rfl)
  (h1:(assignEach [tg] X.env).map (·.2)=[assign tg X.env]:=by rfl):PS X (.Assign [tg] e pos) (ziw te g):=by
 intro pins s σ H D I h
 refine wpAny_Assign_stores (thn (he pins s σ H _ I h) λv s1 ⟨x,H1,I1,r1,q1⟩=>?_) hs hw
 rw [h1]
 exact thn (hg pins s1 σ H1 x v _ I1 r1 q1) λ_ s2 q=>q
theorem zvs {i:Nat}{x:Str}{e:Expr}{te:TE}{pos':Pos}(hN:X.N.Nodup) (hi:X.N[i]? = some x) (hx:Loc X.env.scope x) (he:PE X e te) (hs:swapsWith e (some (.Name x pos')) pos.line X.env=pure false:=by rfl) (hf:X.fn x=true\/X.env.scope.names.lookup x=some .local:=by first|exact .inl rfl|exact .inr rfl|assumption) :
  PS X (.Assign [.Name x pos'] e pos) (ziw te (ziv i)):=by
 intro pins s σ H D I h
 refine wpAny_Assign_Name (thn (he pins s σ H _ I h) λv s1 ⟨y,H1,I1,r1,q1⟩=>?_) hs
 exact znl I1 hN hi hx r1 (λs2 I2=>⟨_,H1,I2,q1⟩) hf
end
section
variable {X:Cx}{pos:Pos}
def zvt (c:TT) (tb:TS):TS:=λD σ H=>∃W:Nat->St->Hp->Prop,(∃m,W m σ H)/\∀m σ H,W m σ H ->
 c σ H λb H1=>if b=true then ∃N:St->Hp->Prop,(∀σ' H',N σ' H'->∃m',m' < m/\W m' σ' H')/\tb { D with nx:=N,ct:=N,bk:=D.nx } σ H1 else D.nx σ H1
theorem zvu {c:Expr}{body:List Stmt}{tc:TT}{tb:TS}(hp:PassesOwn (model X.prog X.w) X.A X.env X.xe) (hc:PT X c tc) (hb:PSs X body tb):PS X (.While c body [] pos) (zvt tc tb):=by
 intro pins s σ H D I h
 obtain ⟨W,⟨m0,w0⟩,turn⟩:=h
 refine wpAny_While (codeAny_whileLoop (λn s'=>∃σ' H',Inv X pins σ' H' s'/\W n σ' H') ?_ m0 ⟨σ,H,I,w0⟩)
 rintro n s1 ⟨σ1,H1,I1,w1⟩
 refine wpAny_passesOwn hp (thn (hc pins s1 σ1 H1 _ I1 (turn n σ1 H1 w1)) λb s2 ⟨H2,I2,q2⟩=>?_)
 cases b with
 | true =>
  obtain ⟨N,hN,q2⟩:=q2
  rw [if_pos rfl]
  refine wpAny_passesOwn hp (thn (hb pins s2 σ1 H2 _ I2 q2) λf s3 q3=>?_)
  cases f with
  | next =>
   obtain ⟨σ3,H3,I3,n3⟩:=q3
   obtain ⟨m',hm,w3⟩:=hN σ3 H3 n3
   exact ⟨m',hm,σ3,H3,I3,w3⟩
  | cont =>
   obtain ⟨σ3,H3,I3,n3⟩:=q3
   obtain ⟨m',hm,w3⟩:=hN σ3 H3 n3
   exact ⟨m',hm,σ3,H3,I3,w3⟩
  | brk=>exact q3
  | ret v=>exact q3
 | false =>
  rw [if_neg Bool.false_ne_true]
  exact wpAny_execs_nil ⟨σ1,H2,I2,q2⟩
end
structure It where
 go:Nat->Hp->Prop
 yld:Nat->Hp->V->Hp->Prop
 stop:Nat->Hp->Prop
def zby (X:Cx) (pins:List (Addr × Obj)) (H:Hp) (b:Addr):Prop :=
 H b=none/\b≠X.env.locals/\b ∉ X.fs/\(b∈X.ex\/X.s₀.heap.objs.size<=b)/\(∀x c,X.env.cells.lookup x=some c->c≠b)/\∀p∈X.pn++pins,p.1≠b
theorem Inv.fpOk {X:Cx}{pins:List (Addr × Obj)}{σ:St}{H H':Hp}{s:Shared}{b:Addr}(I:Inv X pins σ H s) (hb:s.heap.objs.size<=b) (hn:H' b=none):zby X pins H' b:=by
 refine ⟨hn,Nat.ne_of_gt (Nat.lt_of_lt_of_le I.lt hb),I.nofs hb,.inr (Nat.le_trans I.sz hb),λx c e z=>?_,λp hp z=>?_⟩
 ·obtain ⟨v,q⟩:=I.cell x c e
  exact absurd (Nat.lt_of_lt_of_le q.lt (by rw [z];exact hb)) (Nat.lt_irrefl _)
 ·exact absurd (Nat.lt_of_lt_of_le (Heap.lt_size (I.pin p hp).1) (by rw [z];exact hb)) (Nat.lt_irrefl _)
structure Turn (P:Program) (w:World) (K:QFg) (tg:Expr) (J:It) (fp:List Addr) (it:Addr) (tn:Nat->Heap->Prop):Prop where
 mem:it∈fp
 obj:∀i h,tn i h->∀b∈fp,∃o,h.get? b=some o/\∀v,o.data≠.cell v
 keep:∀i h h',tn i h->(∀b∈fp,∀o,h.get? b=some o->h'.get? b=some o)->tn i h'
 item:∀(X:Cx),X.prog=P->X.w=w->X.K=K->X.calm=true->∀(i:Nat) (pins:List (Addr × Obj)) (s:Shared) (σ:St) (H:Hp) (E:Value->Shared->Prop),Inv X pins σ H s->(∀b∈fp,zby X pins H b)->tn i s.heap->J.go i H ->
  wpAny (model P w) X.A (pyNext (.ref it)) (λr s1=>∃u,r=some u /\
   wpAny (model P w) X.A (letOwnedTupleGo tg (.ref it) u) (λ_ s2=>∃x H',Inv X pins σ H' s2/\RelV x u/\J.yld i H x H'/\tn (i+1) s2.heap/\∀b∈fp,H' b=none) E s1) E s
 done:∀(X:Cx),X.prog=P->X.w=w->X.K=K->X.calm=true->∀(i:Nat) (pins:List (Addr × Obj)) (s:Shared) (σ:St) (H:Hp) (E:Value->Shared->Prop),Inv X pins σ H s->(∀b∈fp,zby X pins H b)->tn i s.heap->J.stop i H ->
  wpAny (model P w) X.A (pyNext (.ref it)) (λr s1=>r=none/\Inv X pins σ H s1) E s
 self:∀(A:Around) (i:Nat) (s:Shared) (Q:Value->Shared->Prop) (E:Value->Shared->Prop),tn i s.heap->Q (.ref it) s->wpAny (model P w) A (pyIter (.ref it)) Q E s
abbrev TI:=St->Hp->(It->Hp->Prop)->Prop
def PIE (X:Cx) (pins:List (Addr × Obj)) (σ:St) (tg:Expr) (R:It->Hp->Prop) (itv:Value) (s2:Shared):Prop :=
 ∃(it:Addr) (fp:List Addr) (tn:Nat->Heap->Prop) (J:It) (H':Hp),itv=.ref it/\Inv X pins σ H' s2/\Turn X.prog X.w X.K tg J fp it tn/\tn 0 s2.heap/\(∀b∈fp,zby X pins H' b)/\R J H'
def PI (X:Cx) (tg iter:Expr) (wi:TI):Prop :=
 ∀(pins:List (Addr × Obj)) (s:Shared) (σ:St) (H:Hp) (R:It->Hp->Prop),Inv X pins σ H s->wi σ H R ->
  wpAny (model X.prog X.w) X.A (eval iter X.env) (λv s1=>wpAny (model X.prog X.w) X.A (pyIter v) (PIE X pins σ tg R) X.xe s1) X.xe s
theorem zkv {M:Model}{A:Around}{E:Value->Shared->Prop}{s:Shared}{tg:Expr}{it:Addr}{u:Value}{o:Obj}{n:String}{vs:Array Value}{Q:Unit->Shared->Prop}(ho:s.heap.get? it=some o) (hc:o.cls=.type n) (hd:o.data=.fields vs)
  (hn:["enumerate","zip","dict_itemiterator","dict_reverseitemiterator","odict_iterator","itertools.zip_longest","itertools.pairwise"].contains n=false) (hQ:Q () s):wpAny M A (letOwnedTupleGo tg (.ref it) u) Q E s:=by
 unfold letOwnedTupleGo
 cases tg <;> first
  | exact qwp hQ
  | (cases u <;> first
    | exact qwp hQ
    | (refine qwb (wpAny_load ho ?_)
       rw [hc,hd]
       show wpAny M A (if (["enumerate","zip","dict_itemiterator","dict_reverseitemiterator","odict_iterator","itertools.zip_longest","itertools.pairwise"].contains n && vs[0]? == some (rawInt _))=true then _ else _) Q E s
       rw [if_neg (by intro h;rw [hn,Bool.false_and] at h;cases h)]
       exact qwp hQ))
noncomputable def Itl (K:QFg) (a:Addr):It :=
 ⟨λi H=>∃xs x,SqL K H a xs/\xs[i]? = some x,λi H x H'=>H' = H/\∀xs,SqL K H a xs->xs[i]? = some x,λi H=>∃xs,SqL K H a xs/\xs.length<=i⟩
noncomputable def Itt (K:QFg) (a:Addr):It :=
 ⟨λi H=>∃xs x,SqT K H a xs/\xs[i]? = some x,λi H x H'=>H' = H/\∀xs,SqT K H a xs->xs[i]? = some x,λi H=>∃xs,SqT K H a xs/\xs.length<=i⟩
noncomputable def Itr (lo:Int) (n:Nat):It:=⟨λi _=>i<n,λi H x H'=>H' = H/\x=.int (lo+i),λi _=>n<=i⟩
theorem zvv {P:Program}{w:World}{K:QFg}{tg:Expr}(a it:Addr):Turn P w K tg (Itl K a) [it] it (λi h=>h.IsListIter it a i) where
 mem:=by simp
 obj:=λi h st b hb=>by
  have e:b=it:=by simpa using hb
  subst e
  obtain ⟨o,e,c,d⟩:=st
  exact ⟨o,e,λv z=>by rw [d] at z;cases z⟩
 keep:=λi h h' st k=>st.at λo e=>k it (by simp) o e
 item:=by
  intro X hP hw hK hc i pins s σ H E I hf st hg
  subst hP hw hK
  obtain ⟨xs,x,hq,hx⟩:=hg
  obtain ⟨its,rv,p,hz⟩:=I.list hq
  obtain ⟨u,hu,ru⟩:=rv.get hx
  obtain ⟨f0,f1,f2,f3,f4,f5⟩:=hf it (by simp)
  refine wpAny_pyNext_list_item st p.isList (x:=u) (by simpa using hu) λh' st' sb=>?_
  have I1:Inv X pins σ H { s with heap:=h' }:=I.turned (t':=s.toks) (λb o hb e=>(sb.2 b hb).trans e) f0 f1 f3 f4 f5
  obtain ⟨o,e,c,d⟩:=id st'
  exact ⟨u,rfl,zkv (s:={ s with heap:=h' }) e c d (by decide) ⟨x,H,I1,ru,⟨rfl,λys hy=>by rw [I.list_inj hy hq];exact hx⟩,st',λb hb=>(hf b hb).1⟩⟩
 done:=by
  intro X hP hw hK hc i pins s σ H E I hf st hg
  subst hP hw hK
  obtain ⟨xs,hq,hx⟩:=hg
  obtain ⟨its,rv,p,hz⟩:=I.list hq
  obtain ⟨f0,f1,f2,f3,f4,f5⟩:=hf it (by simp)
  have hl:=rv.length
  exact wpAny_pyNext_list_end (I.ok.hd hc) st p.isList (by simp;omega) λh' eb=>⟨rfl,I.turned (t':=s.toks) (λb o hb e=>eb b o hb e) f0 f1 f3 f4 f5⟩
 self:=λ_ _ _ _ _ st h=>wpAny_pyIter_listiter st h
theorem zvw {P:Program}{w:World}{K:QFg}{tg:Expr}(a it:Addr):Turn P w K tg (Itt K a) [it] it (λi h=>h.IsTupleIter it a i) where
 mem:=by simp
 obj:=λi h st b hb=>by
  have e:b=it:=by simpa using hb
  subst e
  obtain ⟨o,e,c,d⟩:=st
  exact ⟨o,e,λv z=>by rw [d] at z;cases z⟩
 keep:=λi h h' st k=>st.at λo e=>k it (by simp) o e
 item:=by
  intro X hP hw hK hc i pins s σ H E I hf st hg
  subst hP hw hK
  obtain ⟨xs,x,hq,hx⟩:=hg
  obtain ⟨its,rv,p,hz⟩:=I.tuple hq
  obtain ⟨u,hu,ru⟩:=rv.get hx
  obtain ⟨f0,f1,f2,f3,f4,f5⟩:=hf it (by simp)
  refine wpAny_pyNext_tuple_item st (show s.heap.IsTuple a its.toArray from p) (x:=u) (by simpa using hu) λh' st' sb=>?_
  have I1:Inv X pins σ H { s with heap:=h' }:=I.turned (t':=s.toks) (λb o hb e=>(sb.2 b hb).trans e) f0 f1 f3 f4 f5
  obtain ⟨o,e,c,d⟩:=id st'
  exact ⟨u,rfl,zkv (s:={ s with heap:=h' }) e c d (by decide) ⟨x,H,I1,ru,⟨rfl,λys hy=>by rw [I.tuple_inj hy hq];exact hx⟩,st',λb hb=>(hf b hb).1⟩⟩
 done:=by
  intro X hP hw hK hc i pins s σ H E I hf st hg
  subst hP hw hK
  obtain ⟨xs,hq,hx⟩:=hg
  obtain ⟨its,rv,p,hz⟩:=I.tuple hq
  obtain ⟨f0,f1,f2,f3,f4,f5⟩:=hf it (by simp)
  have hl:=rv.length
  exact wpAny_pyNext_tuple_end (I.ok.hd hc) st (show s.heap.IsTuple a its.toArray from p) (by simp;omega) λh' eb=>⟨rfl,I.turned (t':=s.toks) (λb o hb e=>eb b o hb e) f0 f1 f3 f4 f5⟩
 self:=λ_ _ _ _ _ st h=>wpAny_pyIter_tupleiter st h
theorem zvx {P:Program}{w:World}{K:QFg}{tg:Expr}(it:Addr) (lo:Int) (n:Nat):Turn P w K tg (Itr lo n) [it] it (λi h=>IsRangeIter h it (lo+(i:Nat)*1) ((n:Int)-(i:Nat)) 1) where
 mem:=by simp
 obj:=λi h st b hb=>by
  have e:b=it:=by simpa using hb
  subst e
  exact ⟨_,st,λv z=>by
   have z':Data.fields _=Data.cell v:=z
   cases z'⟩
 keep:=λi h h' st k=>k it (by simp) _ st
 item:=by
  intro X hP hw hK hc i pins s σ H E I hf st hg
  subst hP hw hK
  obtain ⟨f0,f1,f2,f3,f4,f5⟩:=hf it (by simp)
  have W:=Walks.range (prog:=X.prog) (w:=X.w) (I.ok.hd hc) it lo 1 n
  refine W.item i s _ _ hg st λv h' tk hv st' kk=>?_
  obtain ⟨t,rfl⟩:=hv
  have I1:Inv X pins σ H { s with heap:=h',toks:=tk }:=I.turned (λb o hb e=>kk b o (by simpa using hb) e) f0 f1 f3 f4 f5
  refine ⟨_,rfl,zkv (s:={ s with heap:=h',toks:=tk }) (n:="range_iterator") st' rfl rfl (by decide) ⟨.int (lo+i),H,I1,⟨t,?_⟩,⟨rfl,rfl⟩,st',λb hb=>(hf b hb).1⟩⟩
  rw [Int.mul_one]
 done:=by
  intro X hP hw hK hc i pins s σ H E I hf st hg
  subst hP hw hK
  obtain ⟨f0,f1,f2,f3,f4,f5⟩:=hf it (by simp)
  exact wpAny_pyNext_range_end (I.ok.hd hc) st (by have:n<=i:=hg;omega) λh' eb=>⟨rfl,I.turned (t':=s.toks) (λb o hb e=>eb b o hb e) f0 f1 f3 f4 f5⟩
 self:=λ_ _ _ _ _ st h=>wpAny_pyIter_rangeiter st h
section
variable {X:Cx}{tg:Expr}
def zvy (K:QFg) (tl:TE):TI:=λσ H R=>tl σ H λx H1=>∃a,x=.ref a/\(∃xs,SqL K H1 a xs)/\R (Itl K a) H1
def zvz (K:QFg) (tl:TE):TI:=λσ H R=>tl σ H λx H1=>∃a,x=.ref a/\(∃xs,SqT K H1 a xs)/\R (Itt K a) H1
theorem zno {l:Expr}{tl:TE}(hl:PE X l tl):PI X tg l (zvy X.K tl):=by
 intro pins s σ H R I h
 refine thn (hl pins s σ H _ I h) λv s1 ⟨x,H1,I1,r1,q1⟩=>?_
 obtain ⟨a,e,⟨xs,hq⟩,q⟩:=q1
 subst e
 cases r1
 obtain ⟨its,rv,p,hz⟩:=I1.list hq
 refine wpAny_pyIter_list p.isList ?_
 refine ⟨s1.heap.objs.size,[s1.heap.objs.size],_,_,H1,rfl,I1.kept (t':=s1.toks) λb o e=>qps _ e,zvv a _,⟨_,Heap.get?_push_size _ rfl,rfl,rfl⟩,λb hb=>?_,q⟩
 have e:b=s1.heap.objs.size:=by simpa using hb
 subst e
 exact I1.fpOk (qlr _) (I1.hok.fresh (qlr _))
theorem znp {l:Expr}{tl:TE}(hl:PE X l tl):PI X tg l (zvz X.K tl):=by
 intro pins s σ H R I h
 refine thn (hl pins s σ H _ I h) λv s1 ⟨x,H1,I1,r1,q1⟩=>?_
 obtain ⟨a,e,⟨xs,hq⟩,q⟩:=q1
 subst e
 cases r1
 obtain ⟨its,rv,p,hz⟩:=I1.tuple hq
 refine wpAny_pyIter_tuple (show s1.heap.IsTuple a its.toArray from p) ?_
 refine ⟨s1.heap.objs.size,[s1.heap.objs.size],_,_,H1,rfl,I1.kept (t':=s1.toks) λb o e=>qps _ e,zvw a _,⟨_,Heap.get?_push_size _ rfl,rfl,rfl⟩,λb hb=>?_,q⟩
 have e:b=s1.heap.objs.size:=by simpa using hb
 subst e
 exact I1.fpOk (qlr _) (I1.hok.fresh (qlr _))
theorem znq {pins:List (Addr × Obj)}{σ:St}{H:Hp}{s:Shared}{R:It->Hp->Prop}{E:Value->Shared->Prop}{lo hi:Int}{t u v:Tok}{tk:Nat}(I:Inv X pins σ H s) (h1:-(2 ^ 62)<=lo) (h2:lo<2 ^ 62) (h3:-(2 ^ 62)<=hi) (h4:hi<2 ^ 62)
  (q:R (Itr lo (hi-lo).toNat) H):wpAny (model X.prog X.w) X.A (pyIter (.ref s.heap.objs.size)) (PIE X pins σ tg R) E { s with heap:=s.heap.push { cls:=.type "range",data:=.fields #[.int lo t,.int hi u,.int 1 v] },toks:=tk }:=by
 refine wpAny_pyIter_range (IsRange.new ..) (small_one h1 h2 h3 h4) ?_
 have I1:Inv X pins σ H { s with heap:=s.heap.push { cls:=.type "range",data:=.fields #[.int lo t,.int hi u,.int 1 v] },toks:=tk }:=I.kept λb o e=>qps _ e
 refine ⟨(s.heap.push { cls:=.type "range",data:=.fields #[.int lo t,.int hi u,.int 1 v] }).objs.size,[(s.heap.push { cls:=.type "range",data:=.fields #[.int lo t,.int hi u,.int 1 v] }).objs.size],_,_,H,rfl,
  I1.kept (t':=tk) λb o e=>qps _ e,zvx _ lo (hi-lo).toNat,?_,λb hb=>?_,q⟩
 ·have e1:lo+((0:Nat):Int)*1=lo:=by simp
  have e2:(((hi-lo).toNat:Nat):Int)-((0:Nat):Int)=Builtin.Range.rangeSize lo hi 1:=by rw [rangeSize_one];split <;> omega
  show IsRangeIter _ _ (lo+((0:Nat):Int)*1) ((((hi-lo).toNat:Nat):Int)-((0:Nat):Int)) 1
  rw [e1,e2]
  exact Heap.get?_push_size _ rfl
 ·have e:b=(s.heap.push { cls:=.type "range",data:=.fields #[.int lo t,.int hi u,.int 1 v] }).objs.size:=by simpa using hb
  subst e
  exact I1.fpOk (qlr _) (I1.hok.fresh (qlr _))
def zv0 (ta:TA):TI:=λσ H R=>ta σ H λvs H1=>∃j:Int,vs=[.int j]/\-(2 ^ 62)<=j/\j<2 ^ 62/\R (Itr 0 j.toNat) H1
def zv1 (ta:TA):TI:=λσ H R=>ta σ H λvs H1=>∃i j:Int,vs=[.int i,.int j]/\(-(2 ^ 62)<=i/\i<2 ^ 62/\-(2 ^ 62)<=j/\j<2 ^ 62)/\R (Itr i (j-i).toNat) H1
theorem znr {a:Expr}{ta:TA}{p pos:Pos}(hg:Gl X "range") (hm:X.mg "range" = none) (ha:PA X [a] ta) (hs:starEach [a] X.env=[(false,eval a X.env)]:=by rfl):PI X tg (.Call (.Name "range" p) [a] [] pos) (zv0 ta):=by
 intro pins s σ H R I h
 refine Call_ (zd7 I hg hm boot_range (PyProof.Rows.callWith_type1 (thn (ha pos pins s σ H _ I h) λus s1 ⟨vs,H1,I1,r1,q1⟩=>?_) hs rfl))
 obtain ⟨j,e,q1,q2,q⟩:=q1
 subst e
 cases r1 with
 | cons r rr =>
  cases rr
  obtain ⟨t,rfl⟩:=r
  exact call_range_1 (znq I1 (by omega) (by omega) q1 q2 (by simpa using q))
theorem zv2 {a b:Expr}{ta:TA}{p pos:Pos}(hg:Gl X "range") (hm:X.mg "range" = none) (ha:PA X [a,b] ta) (hs:starEach [a,b] X.env=[(false,eval a X.env),(false,eval b X.env)]:=by rfl) (hs2:starEach [b] X.env=[(false,eval b X.env)]:=by rfl) :
  PI X tg (.Call (.Name "range" p) [a,b] [] pos) (zv1 ta):=by
 intro pins s σ H R I h
 refine Call_ (zd7 I hg hm boot_range (PyProof.Rows.callWith_type1 (thn (ha pos pins s σ H _ I h) λus s1 ⟨vs,H1,I1,r1,q1⟩=>?_) (by rw [hs,hs2]) (by rw [hs2];rfl)))
 obtain ⟨i,j,e,⟨q1,q2,q3,q4⟩,q⟩:=q1
 subst e
 cases r1 with
 | cons r rr =>
  cases rr with
  | cons r' rr =>
   cases rr
   obtain ⟨t,rfl⟩:=r
   obtain ⟨t',rfl⟩:=r'
   exact call_range_2 (znq I1 q1 q2 q3 q4 q)
def zv3 (wi:TI) (g:TG) (tb:TS):TS:=λD σ H=>wi σ H λJ H1=>∃W:Nat->Nat->St->Hp->Prop,(∃m,W 0 m σ H1)/\∀i m σ H,W i m σ H ->
 (J.stop i H/\D.nx σ H)\/(J.go i H/\∃N:St->Hp->Prop,(∀σ' H',N σ' H'->∃m',m' < m/\W (i+1) m' σ' H')/\∀x H',J.yld i H x H'->g x σ H' λσ2 H2=>tb { D with nx:=N,ct:=N,bk:=D.nx } σ2 H2)
noncomputable def zcz (fp:List Addr) (h:Heap):List (Addr × Obj):=fp.filterMap λb=>(h.get? b).map λo=>(b,o)
theorem zc9 {fp:List Addr}{h:Heap}{b:Addr}{o:Obj}(hb:b∈fp) (e:h.get? b=some o):(b,o)∈zcz fp h:=List.mem_filterMap.mpr ⟨b,hb,by rw [e];rfl⟩
theorem zv4 {fp:List Addr}{h:Heap}{p:Addr × Obj}(hp:p∈zcz fp h):p.1∈fp/\h.get? p.1=some p.2:=by
 obtain ⟨b,hb,e⟩:=List.mem_filterMap.mp hp
 cases q:h.get? b with
 | none=>rw [q] at e;cases e
 | some o =>
  rw [q] at e
  have e':(b,o)=p:=qoi e
  subst e'
  exact ⟨hb,q⟩
theorem Inv.pinned {pins:List (Addr × Obj)}{σ:St}{H:Hp}{s:Shared}{fp:List Addr}(I:Inv X pins σ H s) (hf:∀b∈fp,zby X pins H b) (ho:∀b∈fp,∃o,s.heap.get? b=some o/\∀v,o.data≠.cell v):Inv X (pins++zcz fp s.heap) σ H s :=
 I.pins_of λp hp=>(List.mem_append.mp hp).elim (λz=>I.pin p (List.mem_append_right _ z)) λz=>by
  obtain ⟨hb,e⟩:=zv4 z
  obtain ⟨f0,f1,f2,_⟩:=hf p.1 hb
  obtain ⟨o,e',d⟩:=ho p.1 hb
  rw [e] at e';cases e'
  exact ⟨e,f0,f1,f2,d⟩
theorem Inv.unpinned {pins pl:List (Addr × Obj)}{σ:St}{H:Hp}{s:Shared}(I:Inv X (pins++pl) σ H s):Inv X pins σ H s:=I.pins_of λp hp=>I.pin p (List.mem_append_right _ (List.mem_append_left _ hp))
theorem zkw {iter:Expr}{body:List Stmt}{wi:TI}{g:TG}{tb:TS}{pos:Pos}(hp:PassesOwn (model X.prog X.w) X.A X.env X.xe) (hc:X.calm=true) (hi:PI X tg iter wi) (hg:PG X tg g) (hb:PSs X body tb)
  (hs:∀x,foldedSetIterable iter X.env x=pure x:=by intro _;rfl):PS X (.For tg iter body [] pos) (zv3 wi g tb):=by
 intro pins s σ H D I h
 refine wpAny_For (thn (hi pins s σ H _ I h) λv s1 h1=>thn h1 λitv s2 h2=>?_) hs
 obtain ⟨it,fp,tn,J,H2,e,I2,T,st2,f2,W,⟨m0,w0⟩,turn⟩:=h2
 subst e
 have stat:∀{H':Hp},(∀b∈fp,H' b=none)->∀b∈fp,zby X pins H' b:=λhn b hb=>⟨hn b hb,(f2 b hb).2⟩
 refine codeAny_forLoop_any (λn s'=>∃i σ' H',Inv X pins σ' H' s'/\tn i s'.heap/\(∀b∈fp,H' b=none)/\W i n σ' H') ?_ m0 ⟨0,σ,H2,I2,st2,λb hb=>(f2 b hb).1,w0⟩
 rintro n s3 ⟨i,σ3,H3,I3,st3,fr3,w3⟩
 rcases turn i n σ3 H3 w3 with ⟨stop,qn⟩|⟨go,N,hN,step⟩
 ·refine wpAny_passesOwn hp (thn (T.done X rfl rfl rfl hc i pins s3 σ3 H3 X.xe I3 (stat fr3) st3 stop) λr s4 ⟨hr,I4⟩=>?_)
  subst hr
  exact wpAny_execs_nil ⟨σ3,H3,I4,qn⟩
 ·refine wpAny_passesOwn hp (thn (T.item X rfl rfl rfl hc i pins s3 σ3 H3 X.xe I3 (stat fr3) st3 go) λr s4 ⟨u,hr,h4⟩=>?_)
  subst hr
  refine wpAny_passesOwn hp (thn h4 λ_ s5 ⟨x,H5,I5,r5,y5,st5,fr5⟩=>?_)
  have I5':=I5.pinned (stat fr5) (T.obj _ _ st5)
  refine wpAny_passesOwn hp (thn (hg _ s5 σ3 H5 x u _ I5' r5 (step x H5 y5)) λ_ s6 ⟨σ6,H6,I6,q6⟩=>?_)
  refine wpAny_passesOwn hp (thn (hb _ s6 σ6 H6 _ I6 q6) λf s7 q7=>?_)
  have again:∀{σ7:St} {H7:Hp},Inv X (pins++zcz fp s5.heap) σ7 H7 s7->N σ7 H7->∃m,m<n/\∃i σ' H',Inv X pins σ' H' s7/\tn i s7.heap/\(∀b∈fp,H' b=none)/\W i m σ' H':=λ{σ7 H7} I7 n7=>by
   obtain ⟨m',hm,w7⟩:=hN σ7 H7 n7
   refine ⟨m',hm,i+1,σ7,H7,I7.unpinned,T.keep _ _ _ st5 λb hb o e=>(I7.pin (b,o) (List.mem_append_right _ (List.mem_append_right _ (zc9 hb e)))).1,λb hb=>?_,w7⟩
   obtain ⟨o,e,d⟩:=T.obj _ _ st5 b hb
   exact (I7.pin (b,o) (List.mem_append_right _ (List.mem_append_right _ (zc9 hb e)))).2.1
  cases f with
  | next=>obtain ⟨σ7,H7,I7,n7⟩:=q7;exact again I7 n7
  | cont=>obtain ⟨σ7,H7,I7,n7⟩:=q7;exact again I7 n7
  | brk=>obtain ⟨σ7,H7,I7,q7⟩:=q7;exact ⟨σ7,H7,I7.unpinned,q7⟩
  | ret v=>obtain ⟨x7,σ7,H7,I7,r7,q7⟩:=q7;exact ⟨x7,σ7,H7,I7.unpinned,r7,q7⟩
end
abbrev R2:=V->V->Hp->VK->Prop
def OpR (X:Cx) (f:Value->Value->Sem Value) (r:R2):Prop :=
 ∀(pins:List (Addr × Obj)) (s:Shared) (σ:St) (H:Hp) (x y:V) (v u:Value) (Q:VK),Inv X pins σ H s->RelV x v->RelV y u->r x y H Q ->
  wpAny (model X.prog X.w) X.A (f v u) (EP X pins σ Q) X.xe s
def UnR (X:Cx) (f:Value->Sem Value) (r:V->Hp->VK->Prop):Prop :=
 ∀(pins:List (Addr × Obj)) (s:Shared) (σ:St) (H:Hp) (x:V) (v:Value) (Q:VK),Inv X pins σ H s->RelV x v->r x H Q ->
  wpAny (model X.prog X.w) X.A (f v) (EP X pins σ Q) X.xe s
def CallR (X:Cx) (f:Value) (r:List V->Hp->VK->Prop):Prop :=
 ∀(pins:List (Addr × Obj)) (s:Shared) (σ:St) (H:Hp) (xs:List V) (us:List Value) (Q:VK),Inv X pins σ H s->Vals xs us->r xs H Q ->
  wpAny (model X.prog X.w) X.A (call f us) (EP X pins σ Q) X.xe s
def zv5 (X:Cx) (r:V->Hp->(Bool->Hp->Prop)->Prop):Prop :=
 ∀(pins:List (Addr × Obj)) (s:Shared) (σ:St) (H:Hp) (x:V) (v:Value) (Q:Bool->Hp->Prop),Inv X pins σ H s->RelV x v->r x H Q ->
  wpAny (model X.prog X.w) X.A (truthy v) (TP X pins σ Q) X.xe s
def tOp (r:R2) (ta tb:TE):TE:=λσ H Q=>ta σ H λx H1=>tb σ H1 λy H2=>r x y H2 Q
def tUn (r:V->Hp->VK->Prop) (ta:TE):TE:=λσ H Q=>ta σ H λx H1=>r x H1 Q
def rI (C:Int->Int->Prop) (g:Int->Int->V):R2:=λx y H Q=>∃i j,x=.int i/\y=.int j/\C i j/\Q (g i j) H
def rI0 (g:Int->Int->V):R2:=λx y H Q=>∃i j,x=.int i/\y=.int j/\Q (g i j) H
def rU (g:Int->V):V->Hp->VK->Prop:=λx H Q=>∃i,x=.int i/\Q (g i) H
section
variable {X:Cx}{a b c:Expr}{ta tb tc:TE}{pos:Pos}
theorem zkx (ha:PE X a ta) (hb:PE X b tb) {pins:List (Addr × Obj)}{s:Shared}{σ:St}{H:Hp}{R:V->V->Hp->Prop}(I:Inv X pins σ H s)
  (h:ta σ H λx H1=>tb σ H1 λy H2=>R x y H2) {Q:Value->Shared->Prop} {f:Value->Value->Sem Value}
  (hf:∀v u s2 x y H2,Inv X pins σ H2 s2->RelV x v->RelV y u->R x y H2->wpAny (model X.prog X.w) X.A (f v u) Q X.xe s2) :
  wpAny (model X.prog X.w) X.A (eval a X.env) (λv s₁=>wpAny (model X.prog X.w) X.A (eval b X.env) (λu s₂=>wpAny (model X.prog X.w) X.A (f v u) Q X.xe s₂) X.xe s₁) X.xe s:=by
 refine thn (ha pins s σ H _ I h) λv s1 ⟨x,H1,I1,r1,q1⟩=>?_
 refine thn (hb pins s1 σ H1 _ I1 q1) λu s2 ⟨y,H2,I2,r2,q2⟩=>?_
 exact hf v u s2 x y H2 I2 r1 r2 q2
theorem zv6 {op:Operator}{r:R2}(ho:OpR X (binaryOp op) r) (ha:PE X a ta) (hb:PE X b tb):PE X (.BinOp a op b pos) (tOp r ta tb):=by
 intro pins s σ H Q I h
 exact wpAny_BinOp (zkx ha hb I h λv u s2 x y H2 I2 rx ry q=>ho pins s2 σ H2 x y v u Q I2 rx ry q)
theorem zv7 {op:UnaryOp}{r:V->Hp->VK->Prop}(ho:UnR X (unaryOp op) r) (ha:PE X a ta):PE X (.UnaryOp op a pos) (tUn r ta):=by
 intro pins s σ H Q I h
 exact UnaryOp_ (thn (ha pins s σ H _ I h) λv s1 ⟨x,H1,I1,r1,q1⟩=>ho pins s1 σ H1 x v Q I1 r1 q1)
theorem opI {f:Value->Value->Sem Value}{C:Int->Int->Prop}{g:Int->Int->Int}
  (rule:∀(i j:Int) (t u:Tok) (s:Shared) (Q:Value->Shared->Prop) (E:Value->Shared->Prop),C i j->Q (.int (g i j) s.toks) { s with toks:=s.toks+1 }->wpAny (model X.prog X.w) X.A (f (.int i t) (.int j u)) Q E s) :
  OpR X f (rI C λi j=>.int (g i j)):=by
 intro pins s σ H x y v u Q I rx ry h
 obtain ⟨i,j,rfl,rfl,hc,q⟩:=h
 obtain ⟨t,rfl⟩:=rx
 obtain ⟨t',rfl⟩:=ry
 exact rule i j t t' s _ _ hc ⟨.int (g i j),H,I.tok _,⟨_,rfl⟩,q⟩
theorem zv8 {f:Value->Value->Sem Value}{g:Int->Int->Int}
  (rule:∀(i j:Int) (t u:Tok) (s:Shared) (Q:Value->Shared->Prop) (E:Value->Shared->Prop),Q (.int (g i j) s.toks) { s with toks:=s.toks+1 }->wpAny (model X.prog X.w) X.A (f (.int i t) (.int j u)) Q E s) :
  OpR X f (rI0 λi j=>.int (g i j)):=by
 intro pins s σ H x y v u Q I rx ry h
 obtain ⟨i,j,rfl,rfl,q⟩:=h
 obtain ⟨t,rfl⟩:=rx
 obtain ⟨t',rfl⟩:=ry
 exact rule i j t t' s _ _ ⟨.int (g i j),H,I.tok _,⟨_,rfl⟩,q⟩
theorem zky {f:Value->Value->Sem Value}{g:Int->Int->Bool}
  (rule:∀(i j:Int) (t u:Tok) (s:Shared) (Q:Value->Shared->Prop) (E:Value->Shared->Prop),Q (.bool (g i j)) s->wpAny (model X.prog X.w) X.A (f (.int i t) (.int j u)) Q E s) :
  OpR X f (rI0 λi j=>.bl (g i j)):=by
 intro pins s σ H x y v u Q I rx ry h
 obtain ⟨i,j,rfl,rfl,q⟩:=h
 obtain ⟨t,rfl⟩:=rx
 obtain ⟨t',rfl⟩:=ry
 exact rule i j t t' s _ _ ⟨.bl (g i j),H,I,rfl,q⟩
def zix (i j:Int):Prop:=0<j/\j<1073741824
def ziy (i j:Int):Prop:=0<=j/\j<=1000000/\i.natAbs<2 ^ 64
def CMul (i j:Int):Prop:=(-(2 ^ 64)<i/\i<2 ^ 64)\/(-(2 ^ 64)<j/\j<2 ^ 64)
theorem CMul.ok {i j:Int}(h:CMul i j):IntMulOk i j:=by
 rcases h with ⟨h1,h2⟩|⟨h1,h2⟩
 ·exact .of_left (intBits_le_64 h1 h2)
 ·exact .of_right (intBits_le_64 h1 h2)
theorem op_add:OpR X (binaryOp .Add) (rI0 λi j=>.int (i+j)):=zv8 λ_ _ _ _ _ _ _ q=>add_int q
theorem op_mul:OpR X (binaryOp .Mult) (rI CMul λi j=>.int (i*j)):=opI λ_ _ _ _ _ _ _ hc q=>mul_int q hc.ok
theorem zv9:OpR X (binaryOp .FloorDiv) (rI zix λi j=>.int (i / j)):=opI λi j _ _ _ _ _ hc q=>by
 have h1:(0:Int)<j:=hc.1
 have h2:j<1073741824:=hc.2
 exact floordiv_int (by omega) (by rw [Int.fdiv_eq_ediv_of_nonneg i (by omega)];exact q) (.inl (PyProof.noPylong_small (by omega)))
theorem zwa:OpR X (binaryOp .Mod) (rI (λ_ j=>0<j) λi j=>.int (i % j)):=opI λi j _ _ _ _ _ hc q=>by
 have h1:(0:Int)<j:=hc
 exact mod_int' (by omega) (by rw [Int.fmod_eq_emod_of_nonneg i (by omega)];exact q)
theorem zwb:OpR X (binaryOp .Pow) (rI ziy λi j=>.int (i ^ j.toNat)):=opI λ_ _ _ _ _ _ _ hc q=>pow_int_small hc.1 hc.2.1 hc.2.2 q
theorem unI {f:Value->Sem Value}{g:Int->Int}
  (rule:∀(i:Int) (t:Tok) (s:Shared) (Q:Value->Shared->Prop) (E:Value->Shared->Prop),Q (.int (g i) s.toks) { s with toks:=s.toks+1 }->wpAny (model X.prog X.w) X.A (f (.int i t)) Q E s) :
  UnR X f (rU λi=>.int (g i)):=by
 intro pins s σ H x v Q I rx h
 obtain ⟨i,rfl,q⟩:=h
 obtain ⟨t,rfl⟩:=rx
 exact rule i t s _ _ ⟨.int (g i),H,I.tok _,⟨_,rfl⟩,q⟩
theorem zwc:UnR X (unaryOp .USub) (rU λi=>.int (-i)):=unI λ_ _ _ _ _ q=>neg_int q
end
noncomputable def zkz:V->V->Bool
 | .non,.non=>true | .non,.int _=>true | .int _,.non=>true | .non,.bl _=>true | .bl _,.non=>true | .non,.str _=>true | .str _,.non=>true
 | .int _,.int _=>true | .bl _,.bl _=>true | .str _,.str _=>true | .byt _,.byt _=>true
 | .int _,.str _=>true | .str _,.int _=>true | .bl _,.str _=>true | .str _,.bl _=>true
 | _,_=>false
def rEq:R2:=λx y H Q=>zkz x y=true/\Q (.bl (decide (x=y))) H
def rNe:R2:=λx y H Q=>zkz x y=true/\Q (.bl (!decide (x=y))) H
theorem zns {i j:Int}:decide (V.int i=V.int j)=(i == j):=by
 rw [Bool.eq_iff_iff]
 simp
theorem znt {i j:Bool}:decide (V.bl i=V.bl j)=(i == j):=by
 rw [Bool.eq_iff_iff]
 simp
theorem znu {i j:Str}:decide (V.str i=V.str j)=(i == j):=by
 rw [Bool.eq_iff_iff]
 simp
theorem znv {i j:Array UInt8}:decide (V.byt i=V.byt j)=(i.toList == j.toList):=by
 rw [Bool.eq_iff_iff]
 cases i
 cases j
 simp
section
variable {X:Cx}{a b c:Expr}{ta tb tc:TE}{pos:Pos}
theorem zbd {pins:List (Addr × Obj)}{σ:St}{H:Hp}{s:Shared}{Q:VK}{k k':Bool}(I:Inv X pins σ H s) (q:Q (.bl k) H) (e:k=k'):EP X pins σ Q (.bool k') s:=by
 subst e
 exact ⟨.bl k,H,I,rfl,q⟩
theorem znw:OpR X (compareOp .Eq) rEq:=by
 intro pins s σ H x y v u Q I rx ry h
 obtain ⟨hs,q⟩:=h
 cases x with
 | non =>
  cases rx
  cases y with
  | non=>cases ry;exact PySem.EqNone.eq_none_none (zbd I q (by simp))
  | bl j=>cases ry;exact PySem.EqNone.eq_none_bool (zbd I q (by simp))
  | int j=>obtain ⟨t',rfl⟩:=ry;exact PySem.EqNone.eq_none_int (zbd I q (by simp))
  | str j=>obtain ⟨t',rfl⟩:=ry;exact PySem.EqNone.eq_none_str (zbd I q (by simp))
  | _=>exact absurd (show false=true from hs) Bool.false_ne_true
 | bl i =>
  cases rx
  cases y with
  | non=>cases ry;exact PySem.EqNone.eq_bool_none (zbd I q (by simp))
  | bl j=>cases ry;exact eq_bool (zbd I q znt)
  | str j=>obtain ⟨t',rfl⟩:=ry;exact PySem.EqMixed.eq_bool_str (zbd I q (by simp))
  | _=>exact absurd (show false=true from hs) Bool.false_ne_true
 | int i =>
  obtain ⟨t,rfl⟩:=rx
  cases y with
  | non=>cases ry;exact PySem.EqNone.eq_int_none (zbd I q (by simp))
  | int j=>obtain ⟨t',rfl⟩:=ry;exact eq_int (zbd I q zns)
  | str j=>obtain ⟨t',rfl⟩:=ry;exact PySem.EqMixed.eq_int_str (zbd I q (by simp))
  | _=>exact absurd (show false=true from hs) Bool.false_ne_true
 | str i =>
  obtain ⟨t,rfl⟩:=rx
  cases y with
  | non=>cases ry;exact PySem.EqNone.eq_str_none (zbd I q (by simp))
  | bl j=>cases ry;exact PySem.EqMixed.eq_str_bool (zbd I q (by simp))
  | int j=>obtain ⟨t',rfl⟩:=ry;exact PySem.EqMixed.eq_str_int (zbd I q (by simp))
  | str j=>obtain ⟨t',rfl⟩:=ry;exact eq_str (zbd I q znu)
  | _=>exact absurd (show false=true from hs) Bool.false_ne_true
 | byt i =>
  obtain ⟨t,rfl⟩:=rx
  cases y with
  | byt j=>obtain ⟨t',rfl⟩:=ry;exact PySem.W.eq_bytes (zbd I q znv)
  | _=>exact absurd (show false=true from hs) Bool.false_ne_true
 | _=>cases y <;> exact absurd (show false=true from hs) Bool.false_ne_true
theorem znx:OpR X (compareOp .NotEq) rNe:=by
 intro pins s σ H x y v u Q I rx ry h
 obtain ⟨hs,q⟩:=h
 cases x with
 | non =>
  cases rx
  cases y with
  | non=>cases ry;exact PySem.EqNone.ne_none_none (zbd I q (by simp))
  | bl j=>cases ry;exact PySem.EqNone.ne_none_bool (zbd I q (by simp))
  | int j=>obtain ⟨t',rfl⟩:=ry;exact PySem.EqNone.ne_none_int (zbd I q (by simp))
  | str j=>obtain ⟨t',rfl⟩:=ry;exact PySem.EqNone.ne_none_str (zbd I q (by simp))
  | _=>exact absurd (show false=true from hs) Bool.false_ne_true
 | bl i =>
  cases rx
  cases y with
  | non=>cases ry;exact PySem.EqNone.ne_bool_none (zbd I q (by simp))
  | bl j=>cases ry;exact ne_bool (zbd I q (congrArg not znt))
  | str j=>obtain ⟨t',rfl⟩:=ry;exact PySem.EqMixed.ne_bool_str (zbd I q (by simp))
  | _=>exact absurd (show false=true from hs) Bool.false_ne_true
 | int i =>
  obtain ⟨t,rfl⟩:=rx
  cases y with
  | non=>cases ry;exact PySem.EqNone.ne_int_none (zbd I q (by simp))
  | int j=>obtain ⟨t',rfl⟩:=ry;exact ne_int (zbd I q (congrArg not zns))
  | str j=>obtain ⟨t',rfl⟩:=ry;exact PySem.EqMixed.ne_int_str (zbd I q (by simp))
  | _=>exact absurd (show false=true from hs) Bool.false_ne_true
 | str i =>
  obtain ⟨t,rfl⟩:=rx
  cases y with
  | non=>cases ry;exact PySem.EqNone.ne_str_none (zbd I q (by simp))
  | bl j=>cases ry;exact PySem.EqMixed.ne_str_bool (zbd I q (by simp))
  | int j=>obtain ⟨t',rfl⟩:=ry;exact PySem.EqMixed.ne_str_int (zbd I q (by simp))
  | str j=>obtain ⟨t',rfl⟩:=ry;exact ne_str (zbd I q (congrArg not znu))
  | _=>exact absurd (show false=true from hs) Bool.false_ne_true
 | byt i =>
  obtain ⟨t,rfl⟩:=rx
  cases y with
  | byt j=>obtain ⟨t',rfl⟩:=ry;exact PySem.W.ne_bytes (zbd I q (congrArg not znv))
  | _=>exact absurd (show false=true from hs) Bool.false_ne_true
 | _=>cases y <;> exact absurd (show false=true from hs) Bool.false_ne_true
theorem zwd:OpR X (compareOp .Lt) (rI0 λi j=>.bl (decide (i<j))):=zky λ_ _ _ _ _ _ _ q=>lt_int q
theorem zwe:OpR X (compareOp .Gt) (rI0 λi j=>.bl (decide (j<i))):=zky λ_ _ _ _ _ _ _ q=>gt_int q
theorem zwf:OpR X (compareOp .GtE) (rI0 λi j=>.bl (decide (j<=i))):=zky λ_ _ _ _ _ _ _ q=>ge_int q
theorem zwg:OpR X (compareOp .Is) (λx y H Q=>y=.non/\Q (.bl (decide (x=.non))) H):=by
 intro pins s σ H x y v u Q I rx ry h
 obtain ⟨rfl,q⟩:=h
 cases ry
 refine is_none_gen (zbd I q ?_)
 cases x <;> first
  | (cases rx;rfl)
  | (obtain ⟨t,rfl⟩:=rx;rfl)
theorem zny:OpR X (compareOp .IsNot) (λx y H Q=>y=.non/\Q (.bl (!decide (x=.non))) H):=by
 intro pins s σ H x y v u Q I rx ry h
 obtain ⟨rfl,q⟩:=h
 cases ry
 refine isnot_none_gen (zbd I q ?_)
 cases x <;> first
  | (cases rx;rfl)
  | (obtain ⟨t,rfl⟩:=rx;rfl)
theorem OpR.or {f:Value->Value->Sem Value}{r r':R2}(h:OpR X f r) (h':OpR X f r'):OpR X f (λx y H Q=>r x y H Q\/r' x y H Q):=by
 intro pins s σ H x y v u Q I rx ry q
 rcases q with q|q
 ·exact h pins s σ H x y v u Q I rx ry q
 ·exact h' pins s σ H x y v u Q I rx ry q
theorem zda (b:Expr) {op:CmpOp}(h:op≠.In:=by decide) (h2:op≠.NotIn:=by decide):behindInMarks op b=false:=by
 have e1:(op == CmpOp.In)=false:=by cases op <;> first|rfl|exact absurd rfl h
 have e2:(op == CmpOp.NotIn)=false:=by cases op <;> first|rfl|exact absurd rfl h2
 cases b <;> simp [behindInMarks,e1,e2]
theorem zwh {op:CmpOp}{r:R2}(ho:OpR X (compareOp op) r) (ha:PE X a ta) (hb:PE X b tb) (hm:behindInMarks op b=false):PE X (.Compare a [op] [b] pos) (tOp r ta tb):=by
 intro pins s σ H Q I h
 exact wpAny_Compare1 (zkx ha hb I h λv u s2 x y H2 I2 rx ry q=>ho pins s2 σ H2 x y v u Q I2 rx ry q) hm
def zwi (t:TE):TT:=λσ H Q=>t σ H λx H'=>∃k,x=.bl k/\Q k H'
theorem zwj {op:CmpOp}{r:R2}(ho:OpR X (compareOp op) r) (ha:PE X a ta) (hb:PE X b tb) (hm:behindInMarks op b=false):PT X (.Compare a [op] [b] pos) (zwi (tOp r ta tb)):=by
 intro pins s σ H Q I h
 refine wpAny_isTrue_Compare1 (thn (ha pins s σ H _ I h) λv s1 ⟨x,H1,I1,r1,q1⟩=>thn (hb pins s1 σ H1 _ I1 q1) λu s2 ⟨y,H2,I2,r2,q2⟩ =>
  thn (ho pins s2 σ H2 x y v u _ I2 r1 r2 q2) λc s3 ⟨z,H3,I3,r3,k,e,q3⟩=>?_) hm
 subst e
 cases r3
 exact wpAny_truthy_bool ⟨H3,I3,q3⟩
def znz (K:QFg) (x:V) (H:Hp) (k:Bool):Prop :=
 match x with
 | .non=>k=false
 | .bl b=>k=b
 | .int i=>k=(i != 0)
 | .str y=>y.length<=sizeLine/\k=((y.length:Int) != 0)
 | .byt y=>y.size<=sizeLine/\k=((y.size:Int) != 0)
 | .ref p=>(∃xs,SqL K H p xs/\k = !xs.isEmpty)\/(∃xs,SqT K H p xs/\k = !xs.isEmpty)\/∃kvs,H p=some (.dK kvs)/\k = !kvs.isEmpty
 | _=>False
theorem zwk {κ:Type}{kvs:List (κ × V)}{vs:List (κ × Value)}(r:KV kvs vs):(!vs.isEmpty) = !kvs.isEmpty:=by
 cases r <;> rfl
theorem zn0 {xs:List V}{its:List Value}(r:Vals xs its):(!its.toArray.isEmpty) = !xs.isEmpty:=by
 cases r <;> simp
theorem zfb:(sizeLine:Nat)<2 ^ 63:=by rw [sizeLine_eq];decide
theorem zwl:zv5 X (λx H Q=>∃k,znz X.K x H k/\Q k H):=by
 intro pins s σ H x v Q I rx h
 obtain ⟨k,e,q⟩:=h
 have hl:=zfb
 have hs:sizeLine=16777216:=sizeLine_eq
 cases x with
 | non =>
  cases rx
  have e':k=false:=e
  subst e'
  exact truthy_none ⟨H,I,q⟩
 | bl b =>
  cases rx
  have e':k=b:=e
  subst e'
  exact wpAny_truthy_bool ⟨H,I,q⟩
 | int i =>
  obtain ⟨t,rfl⟩:=rx
  have e':k=(i != 0):=e
  subst e'
  exact PySem.P.truthy_int ⟨H,I,q⟩
 | str y =>
  obtain ⟨t,rfl⟩:=rx
  obtain ⟨hy,e'⟩:y.length<=sizeLine/\k=((y.length:Int) != 0):=e
  subst e'
  exact PySem.P.truthy_str (by omega) ⟨H,I.tok _,q⟩
 | byt y =>
  obtain ⟨t,rfl⟩:=rx
  obtain ⟨hy,e'⟩:y.size<=sizeLine/\k=((y.size:Int) != 0):=e
  subst e'
  exact PySem.W.truthy_bytes (by omega) ⟨H,I.tok _,q⟩
 | ref p =>
  cases rx
  have e':(∃xs,SqL X.K H p xs/\k = !xs.isEmpty)\/(∃xs,SqT X.K H p xs/\k = !xs.isEmpty)\/∃kvs,H p=some (.dK kvs)/\k = !kvs.isEmpty:=e
  rcases e' with ⟨xs,hx,e'⟩|⟨xs,hx,e'⟩|⟨kvs,hx,e'⟩
  ·subst e'
   obtain ⟨its,r,pl,hz⟩:=I.list hx
   have hlen:=r.length
   exact wpAny_truthy_list pl.isList (by simp only [List.size_toArray];omega) ⟨H,I.tok _,by rw [zn0 r];exact q⟩
  ·subst e'
   obtain ⟨its,r,pl,hz⟩:=I.tuple hx
   have hlen:=r.length
   exact truthy_tuple pl (by simp only [List.size_toArray];omega) ⟨H,I.tok _,by rw [zn0 r];exact q⟩
  ·subst e'
   obtain ⟨hz,hS,vs,r,m⟩:kvs.length<=sizeLine/\(p == sysModules)=false/\∃vs,KV kvs vs/\s.heap.DictOf (zcc X.prog X.w) p vs:=I.hok p _ hx
   have hlen:kvs.length=vs.length:=Paired.length r
   exact wpAny_truthy_dict hS m (by omega) ⟨H,I.tok _,by rw [zwk r];exact q⟩
 | _=>exact (show False from e).elim
theorem zwm (ha:PE X a ta) (he:∀whole,isTrue a X.env whole=(do let v <-whole;standAt a.pos;holding [v] (truthy v))) :
  PT X a (λσ H Q=>ta σ H λx H'=>∃k,znz X.K x H' k/\Q k H'):=by
 intro pins s σ H Q I h
 exact isTrue_plain (thn (ha pins s σ H _ I h) λv s1 ⟨x,H1,I1,r1,q1⟩=>zwl pins s1 σ H1 x v Q I1 r1 q1) (he _)
theorem op_add_str:OpR X (binaryOp .Add) (λx y H Q=>∃i j,x=.str i/\y=.str j/\i.length+j.length<=sizeLine/\Q (.str (i++j)) H):=by
 intro pins s σ H x y v u Q I rx ry h
 obtain ⟨i,j,rfl,rfl,hz,q⟩:=h
 obtain ⟨t,rfl⟩:=rx
 obtain ⟨t',rfl⟩:=ry
 exact add_str (λt' tk=>⟨.str (i++j),H,I.tok _,⟨_,rfl⟩,q⟩) hz
theorem zdy {x:V}{us:List Value}(r:Vals [x] us):∃u,us=[u]/\RelV x u:=by
 cases r with
 | cons r1 r2=>cases r2;exact ⟨_,rfl,r1⟩
theorem zwn:CallR X (.builtin "abs") (λxs H Q=>∃i,xs=[.int i]/\Q (.int (if i<0 then -i else i)) H):=by
 intro pins s σ H xs us Q I r h
 obtain ⟨i,rfl,q⟩:=h
 obtain ⟨u,rfl,t,rfl⟩:=zdy r
 exact call_abs_int λu tk=>⟨.int (if i<0 then -i else i),H,I.tok _,⟨_,rfl⟩,q⟩
end
structure ObjM (h:Heap) (x dx C:Addr) (mA:Str->Option Value):Prop where
 obj:h.get? x=some (PySem.W.instObj C dx)
 ns:h.Ns1 dx mA
 ne:dx≠x
theorem zwo {h:Heap}{dx:Addr}{mA:Str->Option Value}(n:h.Ns1 dx mA):∃od,h.get? dx=some od/\∀name,PySem.W.lookIn name od=some (mA name):=by
 obtain ⟨o,es,ep,ho,hd,hk,_,hm⟩:=n
 refine ⟨o,ho,λname=>?_⟩
 have e:=hm name
 unfold nsFind findBy at e
 rw [<-Array.find?_toList] at e
 unfold PySem.W.lookIn
 rw [hd]
 dsimp only
 split
 ·rename_i y q
  rw [q] at e
  exact congrArg some e
 ·rename_i q
  rw [q] at e
  have a:es.toList.any (·.refKey)=false:=by
   rw [List.any_eq_false]
   intro y hy
   obtain ⟨z,t,hkey⟩:=hk y (Array.mem_toList_iff.mp hy)
   simp [DictEntry.refKey,hkey]
  have a':¬es.toList.any (·.refKey)=true:=by rw [a];exact Bool.false_ne_true
  rw [if_neg a']
  exact congrArg some e
theorem ObjM.look {h:Heap}{x dx C:Addr}{mA:Str->Option Value}(I:ObjM h x dx C mA):∃od,PySem.W.InstAt h x (PySem.W.instObj C dx) C (some od)/\∀name,PySem.W.lookIn name od=some (mA name) :=
 let ⟨od,ho,hl⟩:=zwo I.ns
 ⟨od,⟨I.obj,rfl,rfl,ho⟩,hl⟩
section
variable {prog:Program}{w:World}{A:Around}{E:Value->Shared->Prop}{s:Shared}{K:QFg}{x dx C f:Addr}{mA:Str->Option Value}{name:Str}{v:Value}
end
section
variable {P:Program}{w:World}{H H':Hp}{h h':Heap}{a C dx:Addr}{fs fs':List (Str × V)}
theorem zwp (hok:HOk P w H h) (e:H a=some (.ins C dx fs)):∃mA,ObjM h a dx C mA/\(∀f,RelO (fs.lookup f) (mA f))/\PySem.Within mA (fs.map (·.1))/\fs.length<=1000/\H dx=some (.own a):=by
 obtain ⟨d,z,ne,ob,mA,n,r,q⟩:=(show ObjOk P w H h a (.ins C dx fs) from hok a _ e)
 exact ⟨mA,⟨ob,n,ne⟩,r,q,z,d⟩
end
structure Cls (K:QFg) (C:Addr):Prop where
 pg:PySem.W.plainGet K C Str.empty=true
 hd:PySem.W.hasDictIn K C=true
 po:PySem.W.plainOver K C=true
 sa:PySem.W.findIn K (.ref C) "__setattr__" = some (some (.builtin "object.__setattr__"))
theorem Cls.get {K:QFg}{C:Addr}(c:Cls K C) (f:Str):PySem.W.plainGet K C f=true:=c.pg
section
variable {X:Cx}{pins:List (Addr × Obj)}{σ:St}{H:Hp}{s:Shared}{a C dx:Addr}{fs:List (Str × V)}{f:Str}{v:V}{A:Around}{E:Value->Shared->Prop}
end
section
variable {X:Cx}{o e value:Expr}{f:Str}{pos pos' tpos:Pos}{ta tv:TE}
end
section
variable {X:Cx}{pins:List (Addr × Obj)}{σ:St}{H:Hp}{s:Shared}{A:Around}{E:Value->Shared->Prop}{Q:Value->Shared->Prop}{c:Value}{b:Bool}
inductive TyOf (K:QFg) (H:Hp):V->Value->Prop where
 | non:TyOf K H .non (.type "NoneType")
 | bl (x:Bool):TyOf K H (.bl x) (.type "bool")
 | int (i:Int):TyOf K H (.int i) (.type "int")
 | str (x:Str):TyOf K H (.str x) (.type "str")
 | flt (x:UInt64):TyOf K H (.flt x) (.type "float")
 | lst {a:Addr} {xs:List V} (e:H a=some (.lst xs)):TyOf K H (.ref a) (.type "list")
 | frz {a:Addr} {o:Obj} {xs:List V} (e:H a=some (.frz o (.lst xs))):TyOf K H (.ref a) (.type "list")
 | tup {a:Addr} {xs:List V} (e:H a=some (.tup xs)):TyOf K H (.ref a) (.type "tuple")
 | dK {a:Addr} {kvs:List (Key × V)} (e:H a=some (.dK kvs)):TyOf K H (.ref a) (.type "dict")
 | dT {a:Addr} {kvs:List (List Key × V)} (e:H a=some (.dT kvs)):TyOf K H (.ref a) (.type "dict")
 | ins {a C dx:Addr} {fs:List (Str × V)} (e:H a=some (.ins C dx fs)) (cl:Cls K C) (ha:PySem.W.findIn K (.ref C) "__class__" = some (some (.builtin "object.__class__")))
   (hn:PySem.W.specialIn K (.builtin "object.__class__") "__get__" = some (some (.builtin "getset_descriptor.__get__"))) (htk:PySem.W.takesIn K (.builtin "object.__class__")=some true)
   (hm:PySem.W.mroIn K C (.type "object")=some true):TyOf K H (.ref a) (.ref C)
theorem zwq {x:V}{u t:Value}(I:Inv X pins σ H s) (rx:RelV x u) (ty:TyOf X.K H x t) (e:PySem.W.kitOne X.K t c=some b) (h:∀tk,Q (.bool b) { s with toks:=tk }) :
  wpAny (model X.prog X.w) A (call (.builtin "isinstance") [u,c]) Q E s:=by
 cases ty with
 | non=>cases (show u=Value.none from rx);exact PySem.W.kia_one PySem.W.kitx_none I.kIn True.intro e (λz=>nomatch z) h
 | bl y=>cases (show u=Value.bool y from rx);exact PySem.W.kia_one PySem.W.kitx_bool I.kIn True.intro e (λz=>nomatch z) h
 | int i=>obtain ⟨t,q⟩:=(show ∃t,u=Value.int i t from rx);cases q;exact PySem.W.kia_one PySem.W.kitx_int I.kIn True.intro e (λz=>nomatch z) h
 | str y=>obtain ⟨t,q⟩:=(show ∃t,u=Value.str y t from rx);cases q;exact PySem.W.kia_one PySem.W.kitx_str I.kIn True.intro e (λz=>nomatch z) h
 | flt y=>obtain ⟨t,q⟩:=(show ∃t,u=Value.float y t from rx);cases q;exact PySem.W.kia_one PySem.W.kitx_float I.kIn True.intro e (λz=>nomatch z) h
 | @lst a xs ea =>
  cases (show u=Value.ref a from rx)
  obtain ⟨_,_,n,_,h1⟩:=(show ObjOk X.prog X.w H s.heap a (.lst xs) from I.hok a _ ea)
  exact PySem.W.kia_one PySem.W.kitx_list I.kIn ⟨_,h1,rfl⟩ e (λz=>nomatch z) h
 | @frz a ob xs ea =>
  cases (show u=Value.ref a from rx)
  obtain ⟨_,_,_,n,_,h1⟩:=(show ObjOk X.prog X.w H s.heap a (.frz ob (.lst xs)) from I.hok a _ ea)
  exact PySem.W.kia_one PySem.W.kitx_list I.kIn ⟨_,h1,rfl⟩ e (λz=>nomatch z) h
 | @tup a xs ea =>
  cases (show u=Value.ref a from rx)
  obtain ⟨_,_,_,p⟩:=(show ObjOk X.prog X.w H s.heap a (.tup xs) from I.hok a _ ea)
  obtain ⟨o,h1,h2,_⟩:=p
  exact PySem.W.kia_one PySem.W.kitx_tuple I.kIn ⟨o,h1,h2⟩ e (λz=>nomatch z) h
 | @dK a kvs ea =>
  cases (show u=Value.ref a from rx)
  obtain ⟨_,_,vs,_,p⟩:=(show ObjOk X.prog X.w H s.heap a (.dK kvs) from I.hok a _ ea)
  obtain ⟨o,es,ep,h1,h2,_⟩:=p
  exact PySem.W.kia_one PySem.W.kitx_dict I.kIn ⟨o,h1,h2.1⟩ e (λz=>nomatch z) h
 | @dT a kvs ea =>
  cases (show u=Value.ref a from rx)
  obtain ⟨_,_,xs,_,o,es,ep,h1,h2,_⟩:=(show ObjOk X.prog X.w H s.heap a (.dT kvs) from I.hok a _ ea)
  exact PySem.W.kia_one PySem.W.kitx_dict I.kIn ⟨o,h1,h2.1⟩ e (λz=>nomatch z) h
 | @ins a C dx fs ea cl ha hn htk hm =>
  cases (show u=Value.ref a from rx)
  obtain ⟨mA,O,_⟩:=zwp I.hok ea
  obtain ⟨od,J,_⟩:=O.look
  exact PySem.W.kia_one (PySem.W.kitx_own (cl.get _) cl.hd ha hn htk hm) I.kIn J e (λz=>nomatch z) h
end
structure Room (k:Nat) (A:Around):Prop where
 hd:A.handled=none
 dp:A.depth+3*k+5<recursionLimit
 un:A.units+16*k+200<cLine
 gd:A.guards=some []
theorem Room.mono {j k:Nat}{A:Around}(r:Room k A) (h:j<=k):Room j A:=⟨r.hd,by have:=r.dp;omega,by have:=r.un;omega,r.gd⟩
theorem Room.deeper {k:Nat}{A:Around}(r:Room (k+1) A) (env:Env):Room k (A.deeper env) :=
 ⟨r.hd,by have:=r.dp;show A.depth+1+3*k+5<_;omega,by have:=r.un;show A.units+3+16*k+200<_;omega,r.gd⟩
theorem Room.depth {k:Nat}{A:Around}(r:Room k A):A.depth<recursionLimit:=by have:=r.dp;omega
def zwr:TA:=λ_ H Q=>Q [] H
def zws (ta:TE) (tr:TA):TA:=λσ H Q=>ta σ H λx H1=>tr σ H1 λxs H2=>Q (x :: xs) H2
section
variable {X:Cx}{e:Expr}{es:List Expr}{te:TE}{t:TA}{pos:Pos}
theorem zhg:PA X [] zwr:=λ_ _ _ _ H Q I h=>Calls.spliced_nil ⟨[],H,I,.nil,h⟩
theorem zgp (ha:PE X e te) (hr:PA X es t) (hs:starEach (e :: es) X.env=(false,eval e X.env) :: starEach es X.env:=by rfl):PA X (e :: es) (zws te t):=by
 intro pos pins s σ H Q I h
 rw [hs]
 show wpAny _ _ (spliced ((false,eval e X.env) :: backTo pos (starEach es X.env))) _ _ s
 refine Calls.spliced_cons (thn (ha pins s σ H _ I h) λu s1 ⟨x,H1,I1,r1,q1⟩=>?_)
 exact thn (hr pos pins s1 σ H1 _ I1 q1) λus s2 ⟨xs,H2,I2,r2,q2⟩=>⟨x :: xs,H2,I2,.cons r1 r2,q2⟩
def zwt (t:TA):TE:=λσ H Q=>t σ H λxs H1=>xs.length<=sizeLine/\∀p,H1 p=none->Q (.ref p) (upd H1 p (.tup xs))
def zwu (t:TA):TE:=λσ H Q=>t σ H λxs H1=>xs.length<=sizeLine/\∀p,H1 p=none->Q (.ref p) (upd H1 p (.lst xs))
theorem zwv {x1}(h:PA X es t):PE X (.Tuple es x1 pos) (zwt t):=by
 intro pins s σ H Q I hq
 refine wpAny_Tuple_spliced (thn (h pos pins s σ H _ I hq) λus s1 ⟨xs,H1,I1,r,z,q⟩=>⟨by rw [<-r.length];exact z,?_⟩)
 have hf:H1 s1.heap.objs.size=none:=I1.hok.fresh (qlr _)
 refine ⟨.ref s1.heap.objs.size,upd H1 s1.heap.objs.size (.tup xs),I1.laid (t':=s1.toks) (λb u e=>qps _ e) (qlr _) ?_,rfl,q _ hf⟩
 exact ⟨z,us,r,IsTD.new _ _⟩
theorem zww (h:PA X es t):PE X (.List es pos) (zwu t):=by
 intro pins s σ H Q I hq
 refine wpAny_List_spliced (thn (h pos pins s σ H _ I hq) λus s1 ⟨xs,H1,I1,r,z,q⟩=>⟨by rw [<-r.length];exact z,?_⟩)
 have hf:H1 s1.heap.objs.size=none:=I1.hok.fresh (qlr _)
 refine ⟨.ref s1.heap.objs.size,upd H1 s1.heap.objs.size (.lst xs),I1.laid (t':=s1.toks) (λb u e=>qps _ e) (qlr _) ?_,rfl,q _ hf⟩
 exact ⟨z,us,0,r,Heap.get?_push_size _ rfl⟩
end
abbrev Sp:=List V->Hp->VK->XK->Prop
abbrev CXT:=List Env->Hp->Shared->XK->Value->Shared->Prop
structure Env0 (P:Program) (w:World) (K:QFg) (mg:Str->Option Value) (base:Heap) (A:Around) (outer:List Env) (s:Shared) (H:Hp):Prop where
 frames:A.frames=some outer
 mod:Mod K mg base
 bs:∀b o,base.get? b=some o->s.heap.get? b=some o/\H b=none
 bsz:base.objs.size<=s.heap.objs.size
 funs:s.heap.FunFrames base outer
 frf:∀b∈frs outer,H b=none
 hok:HOk P w H s.heap
 bare:AllBare s.gens
def CE (outer:List Env) (P:Program) (w:World) (H:Hp) (s:Shared) (Q:VK) (u:Value) (s':Shared):Prop :=
 ∃v H',s'.os=s.os/\AllBare s'.gens/\Un (frs outer) [] H H' s.heap s'.heap/\HOk P w H' s'.heap/\RelV v u/\Q v H'
def CR (CX:CXT) (outer:List Env) (P:Program) (w:World) (H:Hp) (s:Shared) (Q:VK) (E:XK) (r:Result) (s':Shared):Prop :=
 match r with
 | .ok (.ret u)=>CE outer P w H s Q u s'
 | .ok _=>False
 | .error e=>CX outer H s E e s'
structure FnOk (P:Program) (w:World) (K:QFg) (mg:Str->Option Value) (base:Heap) (CX:CXT) (k:Nat) (f:Addr) (fd:FuncData) (ps:List Str) (sp:Sp):Prop where
 len:∀vs H Q E,sp vs H Q E->vs.length=ps.length
 run:∀(A:Around) (outer:List Env) (s:Shared) (H:Hp) (args:Args) (us:List Value) (vs:List V) (Q:VK) (E:XK),Room k A->Env0 P w K mg base A outer s H->BindsTo s fd args (ps.zip us)->Vals vs us->sp vs H Q E ->
  codeAny (model P w) A (.call (.ref f) args) (CR CX outer P w H s Q E) s
section
variable {X:Cx}{pins:List (Addr × Obj)}{σ:St}{H:Hp}{s s':Shared}
theorem Inv.env0 (I:Inv X pins σ H s):Env0 X.prog X.w X.K X.mg X.base X.A X.stack s H :=
 ⟨I.ok.frames,I.ok.mod,I.bs,Nat.le_trans I.ok.bsz I.sz,I.stack,I.stkFree,I.hok,I.bare⟩
theorem Inv.after {Q:VK}{u:Value}(I:Inv X pins σ H s) (h:CE X.stack X.prog X.w H s Q u s'):EP X pins σ Q u s':=by
 obtain ⟨v,H',os,bare,un,hok,r,q⟩:=h
 obtain ⟨hh,g,d,t,os'⟩:=s'
 obtain rfl:os' = s.os:=os
 exact ⟨v,H',I.call (h':=hh) (g':=g) (d':=d) (t':=t) (ch:=[]) un hok bare (λb z=>absurd z (by simp)),r,q⟩
end
def zwx (sp:Sp) (dvs:List V) (E:XK) (t:TA):TE:=λσ H Q=>t σ H λvs H1=>sp (vs++dvs) H1 Q E
def Binds (K:QFg) (fd:FuncData) (ps:List Str) (ds:List Value):Prop :=
 ∀(s:Shared) (us:List Value),K.In s.heap->(us++ds).length=ps.length->BindsTo s fd ⟨us,[]⟩ (ps.zip (us++ds))
theorem Binds.all {K:QFg}{fd:FuncData}{ps:List Str}(h:∀us:List Value,us.length=ps.length->bindArgs fd ⟨us,[]⟩=pure (ps.zip us)):Binds K fd ps []:=λs us _ hl=>by
 rw [List.append_nil] at hl ⊢
 exact .of_eq (h us hl)
def zk0 (CX:CXT) (X:Cx) (E:XK):Prop:=∀(pins:List (Addr × Obj)) (σ:St) (H:Hp) (s:Shared) (e:Value) (s':Shared),Inv X pins σ H s->CX X.stack H s E e s'->X.xe e s'
section
variable {X:Cx}{CX:CXT}{k:Nat}{f C:Addr}{fd:FuncData}{ps:List Str}{sp:Sp}{dvs:List V}{ds:List Value}{E:XK}{x m:Str}{p pos apos:Pos}{e o:Expr}{es:List Expr}{ta:TE}{t:TA}
theorem zwy {pins:List (Addr × Obj)}{σ:St}{H:Hp}{s:Shared}{Q:VK}{us:List Value}{vs:List V}(F:FnOk X.prog X.w X.K X.mg X.base CX k f fd ps sp) (hr:Room k X.A) (hb:Binds X.K fd ps ds) (hd:Vals dvs ds) (hx:zk0 CX X E)
  (I:Inv X pins σ H s) (r:Vals vs us) (h:sp (vs++dvs) H Q E):wpAny (model X.prog X.w) X.A (call (.ref f) us) (EP X pins σ Q) X.xe s:=by
 have r2:Vals (vs++dvs) (us++ds):=r.append hd
 have hl:(us++ds).length=ps.length:=by rw [<-r2.length];exact F.len _ _ _ _ h
 refine wpAny_call (codeAny_mono (F.run X.A X.stack s H ⟨us,[]⟩ (us++ds) (vs++dvs) Q E hr I.env0 (hb s us I.kIn hl) r2 h) λr s' hq=>?_)
 cases r with
 | error e=>exact hx pins σ H s e s' I hq
 | ok fl =>
  cases fl with
  | ret u=>exact I.after hq
  | next=>exact False.elim hq
  | brk=>exact False.elim hq
  | cont=>exact False.elim hq
theorem zwz (F:FnOk X.prog X.w X.K X.mg X.base CX k f fd ps sp) (hr:Room k X.A) (hg:Gl X x) (hm:X.mg x=some (.ref f)) (hk:PySem.W.keepIn X.K (.ref f)=true) (hb:Binds X.K fd ps ds) (hd:Vals dvs ds) (hx:zk0 CX X E)
  (ha:PA X (e :: es) t) (hdb:(x == ("__debug__":Str))=false:=by decide) (he:starEach (e :: es) X.env=(false,eval e X.env) :: starEach es X.env:=by rfl) (hpl:(backTo pos (starEach es X.env)).any (·.1)=false:=by rfl) :
  PE X (.Call (.Name x p) (e :: es) [] pos) (zwx sp dvs E t):=by
 intro pins s σ H Q I h
 refine wpAny_Call_Name_kw (zus I hg hm ?_ hdb)
 refine PySem.W.callWith_K (h₀:=X.base) I.ok.mod.kin hk (thn (ha pos pins s σ H _ I h) λus s1 ⟨vs,H1,I1,r,q⟩=>⟨I1.kIn,?_⟩) he hpl
 exact zwy F hr hb hd hx I1 r q
end
section
variable {X:Cx}{CX:CXT}{k:Nat}{f C:Addr}{fd:FuncData}{ps ks:List Str}{sp:Sp}{E:XK}{x m:Str}{p pos apos kpos:Pos}{e o:Expr}{es:List Expr}{kws:List Keyword}{te ta:TE}{t tk:TA}{nm:Option Str}
variable {g:List Value->List Value->List Value}{gV:List V->List V->List V}
end
structure FnScope (N P:List Str) (sc:Scope):Prop where
 kind:sc.kind=.function
 co:sc.isCoroutine=false
 gen:sc.isGenerator=false
 nd:N.Nodup
 pre:N.take P.length=P
 par:∀x∈P,sc.names.lookup x=some .local\/sc.names.lookup x=some .cell
 nofree:∀y∈sc.names,y.2≠.free
theorem zn1 {kindOf:Str->Option NameKind}{x:Str}:∀{binds:List (Str × Value)}{m:Str->Option Value},(∀v,(x,v) ∉ binds)->bindL kindOf binds m x=m x
 | [],_,_=>rfl
 | (n,v) :: r,m,h=>by
  unfold bindL
  rw [zn1 λw hw=>h w (List.mem_cons_of_mem _ hw)]
  split
  ·have:x≠n:=by rintro rfl;exact h v List.mem_cons_self
   simp [this]
  ·rfl
theorem zn2 {kindOf:Str->Option NameKind}{x:Str}:∀{binds:List (Str × Value)}{m:Str->Option Value},(∀v,(x,v) ∉ binds)->bindC kindOf binds m x=m x
 | [],_,_=>rfl
 | (n,v) :: r,m,h=>by
  unfold bindC
  rw [zn2 λw hw=>h w (List.mem_cons_of_mem _ hw)]
  split
  ·rfl
  ·have:x≠n:=by rintro rfl;exact h v List.mem_cons_self
   simp [this]
theorem zn3 {kindOf:Str->Option NameKind}{x:Str}{v:Value}:∀{P:List Str}{vs:List Value}{i:Nat}{m:Str->Option Value},P.Nodup->P[i]? = some x->vs[i]? = some v->kindOf x=some .local ->
  bindL kindOf (P.zip vs) m x=some v
 | [],_,_,_,_,h,_,_=>by simp at h
 | _ :: _,[],_,_,_,_,h,_=>by simp at h
 | p :: P,w :: vs,0,m,nd,h1,h2,hk=>by
  simp at h1 h2;subst h1;subst h2
  show bindL kindOf ((p,w) :: P.zip vs) m p=_
  unfold bindL
  rw [zn1 λv hv=>(List.nodup_cons.mp nd).1 (List.of_mem_zip hv).1,if_pos hk]
  simp
 | p :: P,w :: vs,i+1,m,nd,h1,h2,hk=>by
  show bindL kindOf ((p,w) :: P.zip vs) m x=_
  unfold bindL
  exact zn3 (i:=i) (List.nodup_cons.mp nd).2 (by simpa using h1) (by simpa using h2) hk
theorem zn4 {kindOf:Str->Option NameKind}{x:Str}{v:Value}:∀{P:List Str}{vs:List Value}{i:Nat}{m:Str->Option Value},P.Nodup->P[i]? = some x->vs[i]? = some v->kindOf x≠some .local ->
  bindC kindOf (P.zip vs) m x=some v
 | [],_,_,_,_,h,_,_=>by simp at h
 | _ :: _,[],_,_,_,_,h,_=>by simp at h
 | p :: P,w :: vs,0,m,nd,h1,h2,hk=>by
  simp at h1 h2;subst h1;subst h2
  show bindC kindOf ((p,w) :: P.zip vs) m p=_
  unfold bindC
  rw [zn2 λv hv=>(List.nodup_cons.mp nd).1 (List.of_mem_zip hv).1,if_neg hk]
  simp
 | p :: P,w :: vs,i+1,m,nd,h1,h2,hk=>by
  show bindC kindOf ((p,w) :: P.zip vs) m x=_
  unfold bindC
  exact zn4 (i:=i) (List.nodup_cons.mp nd).2 (by simpa using h1) (by simpa using h2) hk
noncomputable def start (N:List Str) (vs:List V):St:=vs.map some++List.replicate (N.length-vs.length) none
noncomputable def zen (CX:CXT) (P:Program) (w:World) (K:QFg) (mg:Str->Option Value) (base:Heap) (N:List Str) (qual:Str) (scope:Scope) (f:Addr) (cd:Value) (A:Around) (outer:List Env) (s:Shared) (H:Hp) (E:XK):Cx where
 prog:=P
 w:=w
 K:=K
 mg:=mg
 base:=base
 A:=A.deeper (envOfC qual scope s.heap.objs.size f cd)
 N:=N
 s₀:=s
 H₀:=H
 env:=envOfC qual scope s.heap.objs.size f cd
 outer:=outer
 stack:=envOfC qual scope s.heap.objs.size f cd :: outer
 ex:=[]
 calm:=true
 fn:=λ_=>true
 pn:=[]
 xe:=λe s'=>wpAny (model P w) (A.deeper (envOfC qual scope s.heap.objs.size f cd)) (leaving (envOfC qual scope s.heap.objs.size f cd) e) (λ_ s''=>CX outer H s E e s'') (λe' s''=>CX outer H s E e' s'') s'
theorem zn5 {sc:Scope}{n:Nat}{x:Str}(h:sc.names.lookup x=some .cell):∃c,(cellsFrom n sc.names []).lookup x=some c:=by
 have q:=PySem.W.cellsFrom_some sc.names n [] (.inl h)
 exact Option.isSome_iff_exists.mp q
theorem zw0 {CX:CXT}{P:Program}{w:World}{K:QFg}{mg:Str->Option Value}{base:Heap}{N ps:List Str}{qual:Str}{scope:Scope}{f:Addr}{cd:Value}{A:Around}{outer:List Env}{s s1:Shared}{H:Hp}{E:XK}{us:List Value}{vs:List V}
  (S:FnScope N ps scope) (hd:A.handled=none) (e0:Env0 P w K mg base A outer s H) (hl:vs.length=ps.length) (r:Vals vs us)
  (x:InCallC s s.heap.objs.size (bindL (envOfC qual scope s.heap.objs.size f cd).kindOf (ps.zip us) λ_=>none) (cellsFrom (s.heap.objs.size+1) scope.names []) (bindC (envOfC qual scope s.heap.objs.size f cd).kindOf (ps.zip us) λ_=>none) s1) :
  Inv (zen CX P w K mg base N qual scope f cd A outer s H E) [] (start N vs) H s1:=by
 have hpl:ps.length<=N.length:=by have:=congrArg List.length S.pre;rw [List.length_take] at this;omega
 obtain ⟨h1,tk,rfl,hk⟩:=x.done
 have noA:∀b:Addr,b ∉ (zen CX P w K mg base N qual scope f cd A outer s H E).ex:=λb z=>absurd (show b∈([]:List Addr) from z) (by simp)
 refine ⟨⟨e0.mod,S.kind,rfl,rfl,qlr _,λy z c h1 h2=>?_,λy hy=>?_,λy c _ h=>?_,λ_=>hd,Around.frames_deeper e0.frames,.inr ⟨rfl,rfl⟩,λb z=>absurd z (noA b),e0.bs,e0.bsz,λb _ _=>noA b,λb z=>absurd z (noA b),e0.funs,e0.frf⟩,
  rfl,e0.bare,Un.kept hk,⟨_,x.toInCall.ns,λi y v h1 h2 h3=>?_⟩,λy c h=>⟨_,x.cell y c h⟩,e0.hok.fresh (qlr _),λy c h=>?_,λp hp=>absurd (show p∈([]:List (Addr × Obj)) from hp) (by simp),e0.hok.kept hk,?_⟩
 ·exact name_of_addr x.apart (PySem.mem_of_lookup h1) (PySem.mem_of_lookup h2)
 ·have hy:scope.names.lookup y=some .cell\/scope.names.lookup y=some .free:=hy
  rcases hy with hy|hy
  ·exact zn5 hy
  ·exact absurd rfl (S.nofree _ (PySem.mem_of_lookup hy))
 ·exact Nat.le_of_lt (x.above y c (PySem.mem_of_lookup h))
 ·have hi:i<vs.length:=by
   unfold start at h2
   by_cases hi:i<vs.length
   ·exact hi
   ·rw [List.getElem?_append_right (by simpa using hi)] at h2
    rw [List.getElem?_replicate] at h2
    split at h2 <;> cases h2
  have ha:vs[i]? = some v:=by
   unfold start at h2
   rw [List.getElem?_append_left (by simpa using hi),qgm] at h2
   cases e:vs[i]? with
   | none=>rw [e] at h2;cases h2
   | some a=>rw [e] at h2;cases h2;rfl
  obtain ⟨u,hu,rv⟩:=r.get ha
  have hp:ps[i]? = some y:=by
   rw [<-S.pre,List.getElem?_take_of_lt (by omega)];exact h1
  have ndP:ps.Nodup:=by rw [<-S.pre];exact S.nd.sublist (List.take_sublist _ _)
  refine ⟨u,rv,?_⟩
  rcases S.par y (qmg hp) with k|k
  ·exact .inl ⟨k,zn3 ndP hp hu k⟩
  ·obtain ⟨c,e⟩:=zn5 (n:=s.heap.objs.size+1) k
   refine .inr ⟨.inl k,c,e,?_⟩
   have q:=x.cell y c e
   rw [zn4 ndP hp hu (by show scope.names.lookup y≠_;rw [k];decide)] at q
   exact q
 ·exact e0.hok.fresh (Nat.le_of_lt (x.above y c (PySem.mem_of_lookup h)))
 ·unfold start
  show _=N.length
  rw [qla,qlm,List.length_replicate]
  omega
theorem zw1 {CX:CXT}{P:Program}{w:World}{K:QFg}{mg:Str->Option Value}{base:Heap}{k:Nat}{f:Addr}{name qual:Str}{params:Arguments}{body:List Stmt}{scope:Scope}{dV kV doc pm cdv ct oc:Value}{an od:Option Addr}
  {osl:Array (Option Value)} {N ps:List Str} {sp:Sp} (lk:K.lookup f=some ⟨oc,od,.func (PySem.W.fnOf name qual params body scope dV kV doc pm an cdv ct),osl⟩) (hcd:PySem.W.codeIn K cdv qual=true) (S:FnScope N ps scope)
  (len:∀vs H Q E,sp vs H Q E->vs.length=ps.length)
  (hbody:∀(A:Around) (outer:List Env) (s:Shared) (H:Hp) (vs:List V) (Q:VK) (E:XK),Room k (A.deeper (envOfC qual scope s.heap.objs.size f cdv))->sp vs H Q E ->
   ∃t,PSs (zen CX P w K mg base N qual scope f cdv A outer s H E) body t/\t { nx:=λ_ H'=>Q .non H',rt:=Q } (start N vs) H) :
  FnOk P w K mg base CX (k+1) f (PySem.W.fnOf name qual params body scope dV kV doc pm an cdv ct) ps sp:=by
 refine ⟨len,λA outer s H args us vs Q E hr e0 hb r hsp=>?_⟩
 have hl:=len _ _ _ _ hsp
 have KX:K.In s.heap:=e0.mod.kin.keeps λb o e=>(e0.bs b o e).1
 have lim:s.heap.NoLimit:=e0.mod.nolimit.keeps λb o e=>(e0.bs b o e).1
 have hkind:∀y∈ps.zip us,scope.names.lookup y.1=some .local\/(scope.names.lookup y.1=some .cell/\((cellsFrom (s.heap.objs.size+1) scope.names []).lookup y.1).isSome=true):=λhx2_ hy=>by
  obtain ⟨n,v⟩:=hx2_
  rcases S.par n (List.of_mem_zip hy).1 with q|q
  ·exact .inl q
  ·exact .inr ⟨q,PySem.W.cellsFrom_some _ _ _ (.inl q)⟩
 refine codeAny_call_function hr.depth (KX _ _ lk) rfl S.co S.gen rfl (PySem.W.codeRec_of KX hcd) (hb _ _ _ _ ?_)
 refine wpAny_newFunctionEnv_cells S.kind hkind λenv he s1 x=>?_
 subst he
 refine ⟨lim.keeps x.toInCall.keep,codeAny_func ?_⟩
 obtain ⟨t,ht,hq⟩:=hbody A outer s H vs Q E (hr.deeper _) hsp
 have I:Inv (zen CX P w K mg base N qual scope f cdv A outer s H E) [] (start N vs) H s1:=zw0 S hr.hd e0 hl r x
 refine wpAny_mono (ht [] s1 (start N vs) H _ I hq) (λfl s' hs=>?_) λe s' hs=>hs
 have fin:∀{σ':St} {H':Hp} {v:V} {u:Value},Inv (zen CX P w K mg base N qual scope f cdv A outer s H E) [] σ' H' s'->RelV v u->Q v H'->CE outer P w H s Q u s' :=
  λ{σ' H' v u} J rv q=>⟨v,H',J.os,J.bare,J.base,J.hok,rv,q⟩
 cases fl with
 | ret u =>
  obtain ⟨v,σ',H',J,rv,q⟩:=hs
  exact fin J rv q
 | next =>
  obtain ⟨σ',H',J,q⟩:=hs
  exact fin (v:=V.non) (u:=Value.none) J rfl q
 | brk =>
  obtain ⟨_,_,_,q⟩:=hs
  exact False.elim q
 | cont =>
  obtain ⟨_,_,_,q⟩:=hs
  exact False.elim q
section
variable {X:Cx}{x:Str}{p pos:Pos}{e:Expr}{es:List Expr}{t:TA}{id T:String}{r:List V->Hp->VK->Prop}
def tCB (r:List V->Hp->VK->Prop) (t:TA):TE:=λσ H Q=>t σ H λvs H1=>r vs H1 Q
theorem ziz (hc:CallR X (.builtin id) r) (hg:Gl X x) (hm:X.mg x=none) (hv:bootBuiltins x=some (.builtin id)) (ha:PA X (e :: es) t) (hn:x≠"__name__":=by decide) (hdb:(x == ("__debug__":Str))=false:=by decide)
  (he:starEach (e :: es) X.env=(false,eval e X.env) :: starEach es X.env:=by rfl) (hpl:(backTo pos (starEach es X.env)).any (·.1)=false:=by rfl):PE X (.Call (.Name x p) (e :: es) [] pos) (tCB r t):=by
 intro pins s σ H Q I h
 refine wpAny_Call_Name_kw (zd7 I hg hm hv ?_ hn hdb)
 exact PyProof.Rows.callWith_builtin1 (thn (ha pos pins s σ H _ I h) λus s1 ⟨vs,H1,I1,r1,q1⟩=>hc pins s1 σ H1 vs us Q I1 r1 q1) he hpl
theorem zi0 (hc:CallR X (.type T) r) (hg:Gl X x) (hm:X.mg x=none) (hv:bootBuiltins x=some (.type T)) (ha:PA X (e :: es) t) (hn:x≠"__name__":=by decide) (hdb:(x == ("__debug__":Str))=false:=by decide)
  (he:starEach (e :: es) X.env=(false,eval e X.env) :: starEach es X.env:=by rfl) (hpl:(backTo pos (starEach es X.env)).any (·.1)=false:=by rfl):PE X (.Call (.Name x p) (e :: es) [] pos) (tCB r t):=by
 intro pins s σ H Q I h
 refine wpAny_Call_Name_kw (zd7 I hg hm hv ?_ hn hdb)
 exact PyProof.Rows.callWith_type1 (thn (ha pos pins s σ H _ I h) λus s1 ⟨vs,H1,I1,r1,q1⟩=>hc pins s1 σ H1 vs us Q I1 r1 q1) he hpl
end
end L2
namespace HT
open PySem PyProof.Rows
section
open PySem.SeqAt
open PySem.AutoSeq1 (wpAny_loadPart')
open PySem.MeetsSeq PySem.MeetsSeq2 PySem.MeetsSeq3
end
section
variable {prog:Program}{w:World}{A:Around}{E:Value->Shared->Prop}{s:Shared}
theorem cat_tup {t b:Addr}{vs ws:List Value}{Q:Value->Shared->Prop}(ht:IsTup s.heap t vs.toArray) (hb:IsTup s.heap b ws.toArray) (hv:vs≠[])
  (h1:ws=[]->Q (.ref t) s) (h2:ws≠[]->Q (.ref s.heap.objs.size) { s with heap:=s.heap.push { cls:=.type "tuple",data:=.seq (vs++ws).toArray } })
  (hsz:vs.length+ws.length<=sizeLine):wpAny (model prog w) A (binaryOp .Add (.ref t) (.ref b)) Q E s:=by
 obtain ⟨⟨cls,dd,data,sl⟩,ho,hc,n,hd⟩:=id ht
 obtain ⟨⟨cls2,dd2,data2,sl2⟩,ho2,hc2,n2,hd2⟩:=id hb
 simp only at hc hd hc2 hd2
 subst hc hd hc2 hd2
 have e:vs.toArray++ws.toArray=(vs++ws).toArray:=by simp
 by_cases hw:ws=[]
 ·exact concat_meets ⟨_,ho,rfl⟩ ⟨_,ho2,rfl⟩ noFill_tuple_add seq_tuple_add PySem.F.slot_tuple_add PySem.F.entry_tuple_add (PySem.F.args_tuple_add_2 _ _)
   (tuple_addW1 t b vs.toArray ws.toArray n n2 dd dd2 sl sl2 (by simpa using hv) (by simp [hw])) ⟨ho,ho2,h1 hw⟩
 ·refine concat_meets ⟨_,ho,rfl⟩ ⟨_,ho2,rfl⟩ noFill_tuple_add seq_tuple_add PySem.F.slot_tuple_add PySem.F.entry_tuple_add (PySem.F.args_tuple_add_2 _ _)
   (tuple_addW2 t b vs.toArray ws.toArray n n2 dd dd2 sl sl2 (by simpa using hv) (by simpa using hw) (by rw [List.size_toArray,List.size_toArray];exact hsz)) ⟨ho,ho2,?_⟩
  rw [e]
  exact h2 hw
noncomputable def sIx (n d:Nat):Option Int->Nat
 | none=>d
 | some v=>if v<0 then (v+(n:Int)).toNat else min v.toNat n
theorem sIx_none (n d:Nat):sIx n d none=d:=rfl
theorem sIx_nat (n d k:Nat):sIx n d (some (k:Int))=min k n:=by
 show (if (k:Int)<0 then ((k:Int)+(n:Int)).toNat else min (k:Int).toNat n)=min k n
 rw [if_neg (by omega),Int.toNat_natCast]
theorem zw2 (n d:Nat) (hd:d<=n) (o:Option Int):sIx n d o<=n:=by
 cases o with
 | none=>exact hd
 | some v =>
  show (if v<0 then (v+(n:Int)).toNat else min v.toNat n)<=n
  by_cases hv:v<0
  ·rw [if_pos hv];omega
  ·rw [if_neg hv];exact Nat.min_le_right _ _
theorem zn6 (v:Int) (n d:Nat):(if v<0 then max (v+(n:Int)) 0 else min v (n:Int))=((sIx n d (some v):Nat):Int):=by
 show (if v<0 then max (v+(n:Int)) 0 else min v (n:Int))=(((if v<0 then (v+(n:Int)).toNat else min v.toNat n):Nat):Int)
 by_cases hv:v<0
 ·simp only [if_pos hv];omega
 ·simp only [if_neg hv];omega
theorem zw3 (lo hi:Option Int) (n:Nat):Builtin.Slice.sliceAdjust lo hi 1 (n:Int)=(((sIx n 0 lo:Nat):Int),((sIx n n hi:Nat):Int)):=by
 have h1:¬((1:Int)<0):=by omega
 unfold Builtin.Slice.sliceAdjust
 simp only [h1,if_false]
 refine Prod.ext ?_ ?_
 ·cases lo with
  | none=>rfl
  | some v=>exact zn6 v n 0
 ·cases hi with
  | none=>rfl
  | some v=>exact zn6 v n n
theorem zw4 (i j:Nat):Builtin.Slice.slicePlaces (i:Int) (j:Int) 1=j-i:=by
 unfold Builtin.Slice.slicePlaces
 have h1:(1:Int) > 0:=by omega
 simp only [h1,if_true,Int.ediv_one]
 split <;> omega
theorem zn7 {v:Value}{o:Option Int}{Q:Option Int->Shared->Prop}(p:IsPart v o) (h:Q o s):wpAny (model prog w) A (Builtin.Slice.slicePartIndex v) Q E s:=by
 cases p with
 | none=>exact slicePart_none h
 | int i t=>exact slicePart_int h
theorem zn8 {sl:Addr}{vl vu:Value}{lo hi:Option Int}{n:Nat}{Q:Int × Int × Nat->Shared->Prop}(hs:s.heap.IsSliceOf sl vl vu .none) (pl:IsPart vl lo) (pu:IsPart vu hi)
  (h:Q (((sIx n 0 lo:Nat):Int),1,sIx n n hi-sIx n 0 lo) s):wpAny (model prog w) A (Builtin.Slice.sliceApplied (.ref sl) (pure (n:Int))) Q E s:=by
 obtain ⟨os,hos,hcs,hds⟩:=id hs
 unfold Builtin.Slice.sliceApplied Builtin.Slice.sliceFields
 refine qwb (qwb (wpAny_field hos hds (x:=vl) rfl (qwb (wpAny_field hos hds (x:=vu) rfl (qwb (wpAny_field hos hds (x:=.none) rfl (qwp ?_)))))))
 refine qwb (slicePart_none ?_)
 show wpAny _ _ (if ((1:Int) == 0)=true then _ else _) _ _ s
 rw [if_neg (by decide)]
 refine qwb (zn7 pl (qwb (zn7 pu (qwb (qwp ?_)))))
 show wpAny _ _ (match Builtin.Slice.sliceAdjust lo hi 1 (n:Int) with|(lo,hi)=>pure (lo,(1:Int),Builtin.Slice.slicePlaces lo hi 1)) _ _ s
 rw [zw3 lo hi n]
 show wpAny _ _ (pure (((sIx n 0 lo:Nat):Int),(1:Int),Builtin.Slice.slicePlaces ((sIx n 0 lo:Nat):Int) ((sIx n n hi:Nat):Int) 1)) _ _ s
 rw [zw4]
 exact qwp h
theorem zw5 (xs:Array Value) (i k:Nat):((List.range k).filterMap λ(m:Nat)=>xs[((i:Int)+(m:Int)*1).toNat]?).toArray=((xs.toList.drop i).take k).toArray:=by
 have e:(λ(m:Nat)=>xs[((i:Int)+(m:Int)*1).toNat]?)=λm=>xs[i+m]?:=by
  funext m
  have:((i:Int)+(m:Int)*1).toNat=i+m:=by omega
  rw [this]
 rw [e]
 have:=pick_run xs i k
 rw [List.filterMap_map] at this
 have e2:((λx=>xs[x]?) ∘ λx=>i+x)=λm=>xs[i+m]?:=rfl
 rw [e2] at this
 rw [this]
theorem getItem_tuple_cut {t sl:Addr}{items:Array Value}{vl vu:Value}{lo hi:Option Int}{Q:Value->Shared->Prop}(ht:IsTup s.heap t items) (hs:s.heap.IsSliceOf sl vl vu .none) (pl:IsPart vl lo) (pu:IsPart vu hi)
  (hw:¬(sIx items.size 0 lo=0/\sIx items.size items.size hi=items.size))
  (h:Q (.ref s.heap.objs.size) { s with heap:=s.heap.push { cls:=.type "tuple",data:=.seq ((items.toList.drop (sIx items.size 0 lo)).take (sIx items.size items.size hi-sIx items.size 0 lo)).toArray } })
  (hsz:items.size<=sizeLine):wpAny (model prog w) A (getItem (.ref t) (.ref sl)) Q E s:=by
 have htake:sizeOk (.seq ((items.toList.drop (sIx items.size 0 lo)).take (sIx items.size items.size hi-sIx items.size 0 lo)).toArray):=by
  show ((items.toList.drop (sIx items.size 0 lo)).take (sIx items.size items.size hi-sIx items.size 0 lo)).toArray.size<=sizeLine
  rw [List.size_toArray,List.length_take,List.length_drop,Array.length_toList]
  omega
 have hj:sIx items.size items.size hi<=items.size:=zw2 _ _ (qlr _) hi
 obtain ⟨os,hos,hcs,hds⟩:=id hs
 have hTs:s.TypeIs (.ref sl) "slice":=⟨os,hos,hcs⟩
 unfold getItem
 try with_reducible refine wpAny_holding ?_
 first|refine qwb (qwp ?_)|skip
 refine qwb (wpAny_sequenceKey ht.typeIs (by decide) ?_)
 refine qwb (wpAny_callSpecial?_slot (name:=Str.ofString "__getitem__") ht.typeIs PyProof.Rows.slot_tuple_getitem
  (wpAny_call_entry PyProof.Rows.slot_tuple_getitem ht.typeIs entry_tuple_getitem ?_ (args_tuple_getitem _ _)))
 show wpAny _ _ (Builtin.Tuple.tupleItemsOf (.ref t) >>= _) _ _ s
 refine qwb (tupleItemsOf_ ht ?_)
 refine qwb (wpAny_typeOf hTs ?_)
 rw [if_pos (by decide)]
 refine qwb (zn8 hs pl pu ?_)
 have hno:¬((((sIx items.size 0 lo:Nat):Int) == 0 && (1:Int) == 1 && (sIx items.size items.size hi-sIx items.size 0 lo) == items.size)=true):=by
  intro q
  rw [Bool.and_eq_true,Bool.and_eq_true] at q
  have q1:((sIx items.size 0 lo:Nat):Int)=0:=eq_of_beq q.1.1
  have q2:sIx items.size items.size hi-sIx items.size 0 lo=items.size:=eq_of_beq q.2
  exact hw ⟨by omega,by omega⟩
 show wpAny _ _ (if (((sIx items.size 0 lo:Nat):Int) == 0 && (1:Int) == 1 && (sIx items.size items.size hi-sIx items.size 0 lo) == items.size)=true then _ else _) _ _ s
 rw [if_neg hno,zw5]
 first
  | exact qwb (m:=Builtin.Tuple.tupleExact _) (wpAny_newObj_type (qwp ⟨_,rfl,qwp h⟩) htake)
  | exact qwb (m:=Builtin.Tuple.tupleExact _) (wpAny_newObj_type (qwb (qwp (qwp ⟨_,rfl,qwp h⟩))) htake)
  | exact qwb (qwb (m:=Builtin.Tuple.tupleExact _) (wpAny_newObj_type (qwp (qwp ⟨_,rfl,qwp h⟩)) htake))
  | exact qwb (qwb (m:=Builtin.Tuple.tupleExact _) (wpAny_newObj_type (qwp ⟨_,rfl,qwp h⟩) htake))
end
end HT
namespace L2
open PySem PySem.Spec PyProof.Rows
abbrev TO:=St->Hp->(Option Int->Hp->Prop)->Prop
def PO (X:Cx) (e:Option Expr) (t:TO):Prop :=
 ∀(pins:List (Addr × Obj)) (s:Shared) (σ:St) (H:Hp) (Q:Option Int->Hp->Prop),Inv X pins σ H s->t σ H Q ->
  wpAny (model X.prog X.w) X.A (evalPart e X.env) (λu s'=>∃o H',Inv X pins σ H' s'/\IsPart u o/\Q o H') X.xe s
def zw6:TO:=λ_ H Q=>Q none H
def zw7 (t:TE):TO:=λσ H Q=>t σ H λx H1=>∃i,x=.int i/\Q (some i) H1
section
variable {X:Cx}{e:Expr}{te:TE}{lo hi:Option Expr}{tl th:TO}{pos p2:Pos}
theorem zw8:PO X none zw6:=by
 intro pins s σ H Q I h
 rw [evalPart_none]
 exact qwp ⟨none,H,I,.none,h⟩
theorem zw9 (h:PE X e te):PO X (some e) (zw7 te):=by
 intro pins s σ H Q I hw
 rw [evalPart_some]
 refine thn (h pins s σ H _ I hw) λu s1 ⟨x,H1,I1,r1,q1⟩=>?_
 obtain ⟨i,rfl,q⟩:=q1
 obtain ⟨t,rfl⟩:=r1
 exact ⟨some i,H1,I1,.int i t,q⟩
def SlR (X:Cx) (r:V->Option Int->Option Int->Hp->VK->Prop):Prop :=
 ∀(pins:List (Addr × Obj)) (s:Shared) (σ:St) (H:Hp) (x:V) (v vl vu:Value) (lo hi:Option Int) (sl:Addr) (Q:VK),Inv X pins σ H s->RelV x v->s.heap.IsSliceOf sl vl vu .none->IsPart vl lo->IsPart vu hi->r x lo hi H Q ->
  ∃T id,typeLookup (.type T) "__getitem__" = pure (some (.builtin id))/\s.TypeIs v T/\wpAny (model X.prog X.w) X.A (getItem v (.ref sl)) (EP X pins σ Q) X.xe s
theorem SlR.or {r r':V->Option Int->Option Int->Hp->VK->Prop}(h:SlR X r) (h':SlR X r'):SlR X (λx lo hi H Q=>r x lo hi H Q\/r' x lo hi H Q):=by
 intro pins s σ H x v vl vu lo hi sl Q I rx hs pl pu q
 rcases q with q|q
 ·exact h pins s σ H x v vl vu lo hi sl Q I rx hs pl pu q
 ·exact h' pins s σ H x v vl vu lo hi sl Q I rx hs pl pu q
def tSl (r:V->Option Int->Option Int->Hp->VK->Prop) (te:TE) (tl th:TO):TE:=λσ H Q=>te σ H λx H1=>tl σ H1 λl H2=>th σ H2 λu H3=>r x l u H3 Q
theorem zxa {r:V->Option Int->Option Int->Hp->VK->Prop}(hr:SlR X r) (he:PE X e te) (hl:PO X lo tl) (hu:PO X hi th):PE X (.Subscript e (.Slice lo hi none p2) pos) (tSl r te tl th):=by
 intro pins s σ H Q I h
 refine Subscript_ (thn (he pins s σ H _ I h) λv s1 ⟨x,H1,I1,r1,q1⟩=>?_)
 refine wpAny_Slice (thn (hl pins s1 σ H1 _ I1 q1) λvl s2 ⟨l,H2,I2,pl,q2⟩=>thn (hu pins s2 σ H2 _ I2 q2) λvu s3 ⟨u,H3,I3,pu,q3⟩=>?_)
 rw [evalPart_none]
 refine qwp ?_
 have I4:Inv X pins σ H3 { s3 with heap:=s3.heap.push { cls:=.type "slice",data:=.fields #[vl,vu,.none] } }:=I3.kept (t':=s3.toks) λb ob q=>qps _ q
 obtain ⟨T,id,hT,ht,hg⟩:=hr pins { s3 with heap:=s3.heap.push { cls:=.type "slice",data:=.fields #[vl,vu,.none] } } σ H3 x v vl vu l u s3.heap.objs.size Q I4 r1 (Heap.IsSliceOf.new ..) pl pu q3
 show wpAny (model X.prog X.w) X.A (subscriptTail e (.Slice lo hi none p2) v (.ref s3.heap.objs.size)) (EP X pins σ Q) X.xe { s3 with heap:=s3.heap.push { cls:=.type "slice",data:=.fields #[vl,vu,.none] } }
 exact tail_any (ops:=[.ref s3.heap.objs.size,v]) ht hT hg (by with_unfolding_all rfl)
noncomputable def zdz (xs:List V) (lo hi:Option Int):List V:=(xs.drop (HT.sIx xs.length 0 lo)).take (HT.sIx xs.length xs.length hi-HT.sIx xs.length 0 lo)
theorem zn9 (xs:List V) (lo hi:Option Int):(zdz xs lo hi).length<=xs.length:=by
 unfold zdz
 rw [List.length_take,List.length_drop]
 omega
def zxb (K:QFg):V->Option Int->Option Int->Hp->VK->Prop:=λx lo hi H Q=>∃a xs,x=.ref a/\SqT K H a xs /\
 ¬(HT.sIx xs.length 0 lo=0/\HT.sIx xs.length xs.length hi=xs.length)/\∀p,H p=none->Q (.ref p) (upd H p (.tup (zdz xs lo hi)))
theorem sl_tup:SlR X (zxb X.K):=by
 intro pins s σ H x v vl vu lo hi sl Q I rx hs pl pu h
 obtain ⟨a,xs,rfl,hx,hw,q⟩:=h
 cases rx
 obtain ⟨its,r,ht,hz⟩:=I.tuple hx
 have hlen:its.toArray.size=xs.length:=by rw [List.size_toArray];exact r.length.symm
 refine ⟨"tuple",_,PyProof.Rows.slot_tuple_getitem.lookup,ht.typeIs,?_⟩
 refine HT.getItem_tuple_cut ht hs pl pu (by rw [hlen];exact hw) ?_ (by rw [hlen];exact hz)
 rw [hlen]
 refine ⟨.ref s.heap.objs.size,_,I.laid (t':=s.toks) (o:=.tup (zdz xs lo hi)) (λb ob q=>qps _ q) (qlr _) ?_,rfl,q _ (I.hok.fresh (qlr _))⟩
 exact ⟨Nat.le_trans (zn9 xs lo hi) hz,_,(r.drop (HT.sIx xs.length 0 lo)).take (HT.sIx xs.length xs.length hi-HT.sIx xs.length 0 lo),IsTD.new _ _⟩
def zk1 (K:QFg):R2:=λx y H Q=>∃a b xs ys,x=.ref a/\y=.ref b/\SqT K H a xs/\SqT K H b ys/\xs≠[]/\xs.length+ys.length<=sizeLine /\
 (ys=[]->Q (.ref a) H)/\(ys≠[]->∀p,H p=none->Q (.ref p) (upd H p (.tup (xs++ys))))
theorem Vals.nil_iff {xs:List V}{us:List Value}(r:Vals xs us):us=[]↔xs=[]:=by
 cases r with
 | nil=>simp
 | cons _ _=>simp
theorem op_catT:OpR X (binaryOp .Add) (zk1 X.K):=by
 intro pins s σ H x y v u Q I rx ry h
 obtain ⟨a,b,xs,ys,rfl,rfl,ha,hb,hx,hz,q1,q2⟩:=h
 cases rx
 cases ry
 obtain ⟨its,r1,p1,_⟩:=I.tuple ha
 obtain ⟨its2,r2,p2,_⟩:=I.tuple hb
 refine HT.cat_tup p1 p2 (λz=>hx (r1.nil_iff.mp z)) (λz=>⟨.ref a,H,I,rfl,q1 (r2.nil_iff.mp z)⟩) (λz=>?_) (by rw [<-r1.length,<-r2.length];exact hz)
 refine ⟨.ref s.heap.objs.size,_,I.laid (t':=s.toks) (o:=.tup (xs++ys)) (λb ob q=>qps _ q) (qlr _) ?_,rfl,q2 (λw=>z (r2.nil_iff.mpr w)) _ (I.hok.fresh (qlr _))⟩
 exact ⟨by rw [qla];exact hz,_,r1.append r2,IsTD.new _ _⟩
end
noncomputable def ixN (n:Nat) (i:Int):Option Nat:=if 0<=i then (if i<n then some i.toNat else none) else if -(n:Int)<=i then some (i+n).toNat else none
noncomputable def atI {α:Type}(xs:List α) (i:Int):Option α:=(ixN xs.length i).bind λj=>xs[j]?
theorem zoa {n:Nat}{i:Int}{j:Nat}(h:ixN n i=some j):seqIndex? i n=some j/\j<n/\-(n:Int)<=i/\i<n:=by
 unfold ixN at h
 by_cases h0:0<=i
 ·rw [if_pos h0] at h
  by_cases h1:i<n
  ·rw [if_pos h1] at h
   have e:i.toNat=j:=qoi h
   exact ⟨by rw [seqIndex_of h0 h1,e],by omega,by omega,h1⟩
  ·rw [if_neg h1] at h;cases h
 ·rw [if_neg h0] at h
  by_cases h1:-(n:Int)<=i
  ·rw [if_pos h1] at h
   have e:(i+n).toNat=j:=qoi h
   exact ⟨by rw [seqIndex_neg (by omega) h1,e],by omega,h1,by omega⟩
  ·rw [if_neg h1] at h;cases h
theorem atI_get {α:Type}{xs:List α}{i:Int}{v:α}(h:atI xs i=some v):∃j,seqIndex? i xs.length=some j/\xs[j]? = some v/\j<xs.length/\-(xs.length:Int)<=i/\i<xs.length:=by
 unfold atI at h
 cases e:ixN xs.length i with
 | none=>rw [e] at h;cases h
 | some j =>
  rw [e] at h
  obtain ⟨h1,h2,h3,h4⟩:=zoa e
  exact ⟨j,h1,h,h2,h3,h4⟩
def zob (b:Expr):Prop:=∀o i,subscripted b false o i=operate [o,i] (getItem o i)
def IxR (X:Cx) (r:R2):Prop :=
 ∀(value slice:Expr) (pins:List (Addr × Obj)) (s:Shared) (σ:St) (H:Hp) (x y:V) (v u:Value) (Q:VK),Inv X pins σ H s->RelV x v->RelV y u->r x y H Q ->
  subscripted slice false v u=operate [v,u] (getItem v u)->wpAny (model X.prog X.w) X.A (subscriptTail value slice v u) (EP X pins σ Q) X.xe s
def MtR (X:Cx) (id:String) (r:V->List V->Hp->VK->Prop):Prop :=
 ∀(pins:List (Addr × Obj)) (s:Shared) (σ:St) (H:Hp) (x:V) (xs:List V) (v:Value) (us:List Value) (Q:VK),Inv X pins σ H s->RelV x v->Vals xs us->r x xs H Q ->
  wpAny (model X.prog X.w) X.A (call (.builtin id) (v :: us)) (EP X pins σ Q) X.xe s
section
variable {X:Cx}{a b:Expr}{ta tb:TE}{pos:Pos}
theorem IxR.or {r r':R2}(h:IxR X r) (h':IxR X r'):IxR X (λx y H Q=>r x y H Q\/r' x y H Q):=by
 intro value slice pins s σ H x y v u Q I rx ry q hs
 rcases q with q|q
 ·exact h value slice pins s σ H x y v u Q I rx ry q hs
 ·exact h' value slice pins s σ H x y v u Q I rx ry q hs
theorem zxc {r:R2}(hr:IxR X r) (ha:PE X a ta) (hb:PE X b tb) (hs:zob b):PE X (.Subscript a b pos) (tOp r ta tb):=by
 intro pins s σ H Q I h
 exact Subscript_ (zkx ha hb I h λv u s2 x y H2 I2 rx ry q=>hr a b pins s2 σ H2 x y v u Q I2 rx ry q (hs _ _))
def zoc (K:QFg):R2:=λx y H Q=>∃p xs i v,x=.ref p/\y=.int i/\SqL K H p xs/\atI xs i=some v/\Q v H
def zod (K:QFg):R2:=λx y H Q=>∃p xs i v,x=.ref p/\y=.int i/\SqT K H p xs/\atI xs i=some v/\Q v H
def zk2:R2:=λx y H Q=>∃z i c,x=.str z/\y=.int i/\z.length<=sizeLine/\atI z.cps.toList i=some c/\Q (.str ⟨#[c]⟩) H
theorem ix_list:IxR X (zoc X.K):=by
 intro value slice pins s σ H x y v u Q I rx ry h hs
 obtain ⟨p,xs,i,z,rfl,rfl,hq,he,q⟩:=h
 cases rx
 obtain ⟨t,rfl⟩:=ry
 obtain ⟨its,r,pl,hz⟩:=I.list hq
 obtain ⟨j,h1,h2,h3,h4,h5⟩:=atI_get he
 obtain ⟨w,ew,rw'⟩:=r.get h2
 have hl:=r.length
 have hn:=zfb
 have fin:EP X pins σ Q w s:=⟨z,H,I,rw',q⟩
 by_cases h0:0<=i
 ·have hj:i.toNat=j:=by
   rw [seqIndex_of h0 h5] at h1
   exact qoi h1
  exact item_listR pl.isList h0 (by omega) (by rw [hj];simpa using ew) fin hs
 ·have hj:(i+(its.toArray.size:Int)).toNat=j:=by
   rw [seqIndex_neg (by omega) h4] at h1
   rw [List.size_toArray,<-hl]
   exact qoi h1
  exact subscriptTail_builtinR (x:=w) pl.isList.typeIs slot_list_getitem.lookup
   (wpAny_getItem_list_neg (Q:=λr s'=>r=w/\EP X pins σ Q r s') pl.isList (by omega) (by rw [List.size_toArray] <;> omega) (by omega) (by rw [hj];simpa using ew) ⟨rfl,fin⟩) hs
theorem ix_tup:IxR X (zod X.K):=by
 intro value slice pins s σ H x y v u Q I rx ry h hs
 obtain ⟨p,xs,i,z,rfl,rfl,hq,he,q⟩:=h
 cases rx
 obtain ⟨t,rfl⟩:=ry
 obtain ⟨its,r,pl,hz⟩:=I.tuple hq
 obtain ⟨j,h1,h2,h3,h4,h5⟩:=atI_get he
 obtain ⟨w,ew,rw'⟩:=r.get h2
 have hl:=r.length
 have hn:=zfb
 have fin:EP X pins σ Q w s:=⟨z,H,I,rw',q⟩
 exact subscriptTail_builtinR (x:=w) pl.typeIs slot_tuple_getitem.lookup
  (getItem_tuple (j:=j) (Q:=λr s'=>r=w/\EP X pins σ Q r s') pl (by omega) (by omega) (by rw [List.size_toArray,<-hl];exact h1) (by simpa using ew) ⟨rfl,fin⟩) hs
theorem zxd:IxR X zk2:=by
 intro value slice pins s σ H x y v u Q I rx ry h hs
 obtain ⟨z,i,c,rfl,rfl,hz,he,q⟩:=h
 obtain ⟨t,rfl⟩:=rx
 obtain ⟨t',rfl⟩:=ry
 obtain ⟨j,h1,h2,h3,h4,h5⟩:=atI_get he
 have hl:z.cps.toList.length=z.length:=by simp [Str.length]
 rw [hl] at h1 h4 h5
 have hn:=zfb
 exact tail_any (typeIs_str s z t) slot_str_getitem.lookup (getItem_str (c:=c) (by
  have e1:decide (i < -(2 ^ 63:Int))=false:=decide_eq_false (by omega)
  have e2:decide (i ≥ 2 ^ 63)=false:=decide_eq_false (by omega)
  rw [e1,e2,Bool.or_false]) (by rw [h1];simpa using h2) ⟨.str ⟨#[c]⟩,H,I.tok _,⟨_,rfl⟩,q⟩) hs
def rIx (K:QFg):R2:=λx y H Q=>zoc K x y H Q\/zod K x y H Q\/zk2 x y H Q
theorem zxe:IxR X (rIx X.K):=ix_list.or (ix_tup.or zxd)
theorem zxf (its:List Value) (n j:Nat) (u:Value):Obj.mapSeq (·.setIfInBounds j u) { cls:=.type "list",data:=.seq its.toArray n }={ cls:=.type "list",data:=.seq (its.set j u).toArray n }:=by
 simp [Obj.mapSeq]
theorem Inv.lst {pins:List (Addr × Obj)}{σ:St}{H:Hp}{s:Shared}{p:Addr}{xs:List V}(I:Inv X pins σ H s) (h:H p=some (.lst xs)) :
  ∃(its:List Value) (n:Nat),Vals xs its/\s.heap.get? p=some { cls:=.type "list",data:=.seq its.toArray n }/\xs.length<=sizeLine:=by
 obtain ⟨z,its,n,r,e⟩:=I.hok p _ h
 exact ⟨its,n,r,e,z⟩
theorem Inv.lstUpd {pins:List (Addr × Obj)}{σ:St}{H:Hp}{s:Shared}{p:Addr}{xs ys:List V}{its its':List Value}{n n':Nat}{f:Obj->Obj}(I:Inv X pins σ H s) (h:H p=some (.lst xs))
  (ho:s.heap.get? p=some { cls:=.type "list",data:=.seq its.toArray n }) (hf:f { cls:=.type "list",data:=.seq its.toArray n }={ cls:=.type "list",data:=.seq its'.toArray n' }) (r:Vals ys its') (hz:ys.length<=sizeLine) (t:Nat) :
  Inv X pins σ (upd H p (.lst ys)) { s with heap:=s.heap.update p f,toks:=t }:=by
 have e:(s.heap.update p f).get? p=some { cls:=.type "list",data:=.seq its'.toArray n' }:=by
  rw [Heap.get?_update_self f ho (by rw [hf] <;> rfl),hf]
 refine I.write (x:=p) (e:=p) (by rw [h];trivial) (.inl rfl) (λb u hb q=>(Heap.get?_update_other _ _ (Ne.symm hb)).trans q) ⟨_,e⟩ ?_
 exact ⟨hz,its',n',r,e⟩
def rSetL:V->V->V->Hp->(Hp->Prop)->Prop:=λo i v H Q=>∃p xs k j,o=.ref p/\i=.int k/\H p=some (.lst xs)/\ixN xs.length k=some j/\Q (upd H p (.lst (xs.set j v)))
theorem zxg:znn X rSetL:=by
 intro pins s σ H o i v ov iv u Q I ro ri rv h
 obtain ⟨p,xs,k,j,rfl,rfl,hp,hj,q⟩:=h
 cases ro
 obtain ⟨t,rfl⟩:=ri
 obtain ⟨its,n,r,ho,hz⟩:=I.lst hp
 obtain ⟨h1,h2,h3,h4⟩:=zoa hj
 have hl:=r.length
 have hn:=zfb
 have I':Inv X pins σ (upd H p (.lst (xs.set j v))) { s with heap:=s.heap.update p (Obj.mapSeq (·.setIfInBounds j u)) } :=
  I.lstUpd hp ho (zxf its n j u) (r.set rv j) (by rw [List.length_set];exact hz) s.toks
 by_cases h0:0<=k
 ·have hk:k.toNat=j:=by
   rw [seqIndex_of h0 h4] at h1
   exact qoi h1
  exact PySem.W.ki_setAt ho h0 (by omega) (by rw [List.size_toArray,<-hl];exact h4) (by rw [hk];exact ⟨_,I',q⟩)
 ·have hk:(k+(its.toArray.size:Int)).toNat=j:=by
   rw [seqIndex_neg (by omega) h3] at h1
   rw [List.size_toArray,<-hl]
   exact qoi h1
  exact PySem.W.ki_setBack ho (by omega) (by rw [List.size_toArray,<-hl];exact h3) (by omega) (by rw [hk];exact ⟨_,I',q⟩)
theorem zxh (lo hi:Option Int) (n:Nat):(sliceBounds lo hi none n).1=((HT.sIx n 0 lo:Nat):Int)/\(sliceBounds lo hi none n).2.1=((HT.sIx n n hi:Nat):Int)/\(sliceBounds lo hi none n).2.2=1:=by
 refine ⟨?_,?_,rfl⟩
 ·cases lo with
  | none=>simp [sliceBounds,HT.sIx]
  | some i =>
   simp only [sliceBounds,HT.sIx,Option.getD_none,show (1:Int) > 0 by decide,if_true]
   by_cases h:i<0
   ·simp only [h,if_true] <;> omega
   ·simp only [h,if_false] <;> omega
 ·cases hi with
  | none=>simp [sliceBounds,HT.sIx]
  | some i =>
   simp only [sliceBounds,HT.sIx,Option.getD_none,show (1:Int) > 0 by decide,if_true]
   by_cases h:i<0
   ·simp only [h,if_true] <;> omega
   ·simp only [h,if_false] <;> omega
theorem zxi (its:List Value) (lo hi:Option Int):slicePick its.toArray lo hi none=((its.drop (HT.sIx its.length 0 lo)).take (HT.sIx its.length its.length hi-HT.sIx its.length 0 lo)).toArray:=by
 obtain ⟨h1,h2,h3⟩:=zxh lo hi its.toArray.size
 unfold slicePick
 rw [h1,h2,h3]
 simp only [sliceRange_one,pick_run,List.size_toArray] <;> rfl
def zxj (K:QFg):V->Option Int->Option Int->Hp->VK->Prop:=λx lo hi H Q=>∃a xs,x=.ref a/\SqL K H a xs/\∀p,H p=none->Q (.ref p) (upd H p (.lst (zdz xs lo hi)))
theorem zxk:SlR X (zxj X.K):=by
 intro pins s σ H x v vl vu lo hi sl Q I rx hs pl pu h
 obtain ⟨a,xs,rfl,hx,q⟩:=h
 cases rx
 obtain ⟨its,r,ht,hz⟩:=I.list hx
 have hlen:=r.length
 refine ⟨"list",_,slot_list_getitem.lookup,ht.isList.typeIs,?_⟩
 refine wpAny_getItem_list_slice ht.isList hs pl pu .none (by simp) ?_ (by rw [List.size_toArray] <;> omega)
 rw [zxi,<-hlen]
 refine ⟨.ref s.heap.objs.size,_,I.laid (t':=s.toks) (o:=.lst (zdz xs lo hi)) (λb ob q=>qps _ q) (qlr _) ?_,rfl,q _ (I.hok.fresh (qlr _))⟩
 exact ⟨Nat.le_trans (zn9 xs lo hi) hz,_,0,(r.drop (HT.sIx xs.length 0 lo)).take (HT.sIx xs.length xs.length hi-HT.sIx xs.length 0 lo),Heap.get?_push_size _ rfl⟩
noncomputable def zd0:V->Bool
 | .non=>true
 | .bl _=>true
 | .int _=>true
 | .str _=>true
 | _=>false
noncomputable def eqV:V->V->Bool
 | .non,.non=>true
 | .bl a,.bl b=>a == b
 | .bl a,.int b=>(if a then 1 else 0) == b
 | .int a,.bl b=>a == (if b then 1 else 0)
 | .int a,.int b=>a == b
 | .str a,.str b=>a == b
 | _,_=>false
theorem zxl {A:Around}{s:Shared}{y x:V}{u v:Value}(ry:RelV y u) (rx:RelV x v) (fy:zd0 y=true) (fx:zd0 x=true):SeqAt.EqAt A s u v (eqV y x):=by
 cases y with
 | non =>
  cases ry
  cases x with
  | non=>cases rx;exact SeqAt.EqAt.same _
  | bl b=>cases rx;exact SeqAt.EqAt.none_bool b
  | int b=>obtain ⟨t,rfl⟩:=rx;exact SeqAt.EqAt.none_int b t
  | str b=>obtain ⟨t,rfl⟩:=rx;exact SeqAt.EqAt.none_str b t
  | _=>exact absurd (show false=true from fx) Bool.false_ne_true
 | bl a =>
  cases ry
  cases x with
  | non=>cases rx;exact SeqAt.EqAt.bool_none a
  | bl b=>cases rx;exact SeqAt.EqAt.bool_bool a b
  | int b=>obtain ⟨t,rfl⟩:=rx;exact SeqAt.EqAt.bool_int a b t
  | str b=>obtain ⟨t,rfl⟩:=rx;exact SeqAt.EqAt.bool_str a b t
  | _=>exact absurd (show false=true from fx) Bool.false_ne_true
 | int a =>
  obtain ⟨t',rfl⟩:=ry
  cases x with
  | non=>cases rx;exact SeqAt.EqAt.int_none a t'
  | bl b=>cases rx;exact SeqAt.EqAt.int_bool a t' b
  | int b=>obtain ⟨t,rfl⟩:=rx;exact SeqAt.EqAt.int_int a t' b t
  | str b=>obtain ⟨t,rfl⟩:=rx;exact SeqAt.EqAt.int_str a t' b t
  | _=>exact absurd (show false=true from fx) Bool.false_ne_true
 | str a =>
  obtain ⟨t',rfl⟩:=ry
  cases x with
  | non=>cases rx;exact SeqAt.EqAt.str_none a t'
  | bl b=>cases rx;exact SeqAt.EqAt.str_bool a t' b
  | int b=>obtain ⟨t,rfl⟩:=rx;exact SeqAt.EqAt.str_int a t' b t
  | str b=>obtain ⟨t,rfl⟩:=rx;exact SeqAt.EqAt.str_str a t' b t
  | _=>exact absurd (show false=true from fx) Bool.false_ne_true
 | _=>exact absurd (show false=true from fy) Bool.false_ne_true
noncomputable def eqU (x:V) (u:Value):Bool:=match u with
 | .none=>eqV .non x
 | .bool b=>eqV (.bl b) x
 | .int i _=>eqV (.int i) x
 | .str z _=>eqV (.str z) x
 | _=>false
theorem zoe {x y:V}{u:Value}(r:RelV y u) (f:zd0 y=true):eqU x u=eqV y x:=by
 cases y with
 | non=>cases r;rfl
 | bl b=>cases r;rfl
 | int i=>obtain ⟨t,rfl⟩:=r;rfl
 | str z=>obtain ⟨t,rfl⟩:=r;rfl
 | _=>exact absurd (show false=true from f) Bool.false_ne_true
theorem zhh {x:V}:∀{xs:List V}{us:List Value},Vals xs us->xs.all zd0=true->us.any (eqU x)=xs.any λy=>eqV y x
 | _,_,.nil,_=>rfl
 | y :: xs,u :: us,.cons r t,f=>by
  rw [List.all_cons,Bool.and_eq_true] at f
  rw [List.any_cons,List.any_cons,zoe r f.1,zhh t f.2]
theorem zhi {A:Around}{s:Shared}{x:V}{v:Value}(rx:RelV x v) (fx:zd0 x=true):∀{xs:List V}{us:List Value},Vals xs us->xs.all zd0=true->∀u∈us,SeqAt.EqAt A s u v (eqU x u)
 | _,_,.nil,_=>λu hu=>by cases hu
 | y :: xs,u :: us,.cons r t,f=>λu' hu=>by
  rw [List.all_cons,Bool.and_eq_true] at f
  rcases List.mem_cons.mp hu with rfl|hu
  ·rw [zoe r f.1];exact zxl r rx f.1 fx
  ·exact zhi rx fx t f.2 u' hu
noncomputable def inV (x:V) (xs:List V):Bool:=xs.any λy=>eqV y x
def rIn (K:QFg) (neg:Bool):R2:=λx y H Q=>∃p xs,y=.ref p/\(SqL K H p xs\/SqT K H p xs)/\zd0 x=true/\xs.all zd0=true/\Q (.bl (if neg then !inV x xs else inV x xs)) H
theorem zxm:OpR X (compareOp .In) (rIn X.K false):=by
 intro pins s σ H x y v u Q I rx ry h
 obtain ⟨p,xs,rfl,hq,fx,fs,q⟩:=h
 cases ry
 rcases hq with hq|hq
 ·obtain ⟨its,r,pl,hz⟩:=I.list hq
  refine SeqAt.in_listAt (eqU x) pl.isList (λw hw=>zhi rx fx r fs w (by simpa using hw)) ⟨.bl _,H,I,rfl,?_⟩
  rw [show its.toArray.any (eqU x)=its.any (eqU x) by simp,zhh r fs]
  exact q
 ·obtain ⟨its,r,pl,hz⟩:=I.tuple hq
  refine SeqAt.in_tupleAt (eqU x) pl (λw hw=>zhi rx fx r fs w (by simpa using hw)) ⟨.bl _,H,I,rfl,?_⟩
  rw [show its.toArray.any (eqU x)=its.any (eqU x) by simp,zhh r fs]
  exact q
theorem zxn:OpR X (compareOp .NotIn) (rIn X.K true):=by
 intro pins s σ H x y v u Q I rx ry h
 obtain ⟨p,xs,rfl,hq,fx,fs,q⟩:=h
 cases ry
 rcases hq with hq|hq
 ·obtain ⟨its,r,pl,hz⟩:=I.list hq
  refine SeqAt.notIn_listAt (eqU x) pl.isList (λw hw=>zhi rx fx r fs w (by simpa using hw)) ⟨.bl _,H,I,rfl,?_⟩
  rw [show its.toArray.any (eqU x)=its.any (eqU x) by simp,zhh r fs]
  exact q
 ·obtain ⟨its,r,pl,hz⟩:=I.tuple hq
  refine SeqAt.notIn_tupleAt (eqU x) pl (λw hw=>zhi rx fx r fs w (by simpa using hw)) ⟨.bl _,H,I,rfl,?_⟩
  rw [show its.toArray.any (eqU x)=its.any (eqU x) by simp,zhh r fs]
  exact q
theorem call_len_seq:CallR X (.builtin "len") (λxs H Q=>∃p ys,xs=[.ref p]/\(SqL X.K H p ys\/SqT X.K H p ys)/\Q (.int ys.length) H):=by
 intro pins s σ H xs us Q I r h
 obtain ⟨p,ys,rfl,hq,q⟩:=h
 obtain ⟨u,rfl,rx⟩:=zdy r
 cases rx
 have hn:=zfb
 rcases hq with hq|hq
 ·obtain ⟨its,r',pl,hz⟩:=I.list hq
  have hlen:=r'.length
  exact Calls.call_len_list pl.isList (by simp only [List.size_toArray] <;> omega) ⟨.int ys.length,H,I.tok _,⟨s.toks+1,by rw [List.size_toArray,hlen]⟩,q⟩
 ·obtain ⟨its,r',pl,hz⟩:=I.tuple hq
  have hlen:=r'.length
  exact len_tuple pl (by simp only [List.size_toArray] <;> omega) ⟨.int ys.length,H,I.tok _,⟨s.toks+1,by rw [List.size_toArray,hlen]⟩,q⟩
theorem zxo:CallR X (.builtin "len") (λxs H Q=>∃z,xs=[.str z]/\z.length<=sizeLine/\Q (.int z.length) H):=by
 intro pins s σ H xs us Q I r h
 obtain ⟨z,rfl,hz,q⟩:=h
 obtain ⟨u,rfl,t,rfl⟩:=zdy r
 have hn:=zfb
 exact len_str (by omega) ⟨.int z.length,H,I.tok _,⟨_,rfl⟩,q⟩
theorem CallR.or {f:Value}{r r':List V->Hp->VK->Prop}(h:CallR X f r) (h':CallR X f r'):CallR X f (λxs H Q=>r xs H Q\/r' xs H Q):=by
 intro pins s σ H xs us Q I rs q
 rcases q with q|q
 ·exact h pins s σ H xs us Q I rs q
 ·exact h' pins s σ H xs us Q I rs q
theorem zxp:CallR X (.type "tuple") (λxs H Q=>∃p ys,xs=[.ref p]/\((SqL X.K H p ys/\∀l,H l=none->Q (.ref l) (upd H l (.tup ys)))\/(SqT X.K H p ys/\Q (.ref p) H))):=by
 intro pins s σ H xs us Q I r h
 obtain ⟨p,ys,rfl,h⟩:=h
 obtain ⟨u,rfl,rx⟩:=zdy r
 cases rx
 rcases h with ⟨hq,q⟩|⟨hq,q⟩
 ·obtain ⟨its,r',pl,hz⟩:=I.list hq
  have hlen:=r'.length
  refine call_tuple_list pl.isList (λh' kp=>?_) (by simp only [List.size_toArray] <;> omega)
  have I1:Inv X pins σ H { s with heap:=h' }:=I.kept (t':=s.toks) kp
  have I2:Inv X pins σ (upd H h'.objs.size (.tup ys)) { s with heap:=h'.push { cls:=.type "tuple",data:=.seq its.toArray } } :=
   I1.laid (t':=s.toks) (λb o e=>qps _ e) (qlr _) (show ObjOk X.prog X.w _ _ _ (.tup ys) from ⟨hz,its,r',IsTD.new _ _⟩)
  exact ⟨.ref h'.objs.size,_,I2,rfl,q _ (I1.hok.fresh (qlr _))⟩
 ·obtain ⟨its,r',pl,hz⟩:=I.tuple hq
  exact call_tuple_same pl ⟨.ref p,H,I,rfl,q⟩
def tyV (K:QFg) (T:String) (x:V) (H:Hp):Prop:=match x with
 | .str _=>T = "str"
 | .int _=>T = "int"
 | .ref p=>(T = "list"/\∃xs,SqL K H p xs)\/(T = "tuple"/\∃o,K.lookup p=some o/\o.cls=.type "tuple"/\o.dict=none) \/
   (T = "dict"/\((∃kvs,H p=some (.dK kvs))\/∃kvs,H p=some (.dT kvs)))\/(T = "set"/\∃S n,H p=some (.set S n))
 | _=>False
theorem zof {pins:List (Addr × Obj)}{σ:St}{H:Hp}{s:Shared}{T:String}{x:V}{v:Value}(I:Inv X pins σ H s) (r:RelV x v) (ty:tyV X.K T x H) :
  s.TypeIs v T/\∀a,v=.ref a->∃ob,s.heap.get? a=some ob/\ob.dict=none:=by
 cases x with
 | str z =>
  obtain ⟨t,rfl⟩:=r
  cases (show T = "str" from ty)
  exact ⟨typeIs_str s z t,λ_ e=>nomatch e⟩
 | int i =>
  obtain ⟨t,rfl⟩:=r
  cases (show T = "int" from ty)
  exact ⟨typeIs_int s i t,λ_ e=>nomatch e⟩
 | ref p =>
  cases r
  rcases ty with ⟨rfl,xs,hq⟩|⟨rfl,o,hk,hc,hd⟩|⟨rfl,hk⟩|⟨rfl,S,n,hk⟩
  ·obtain ⟨its,_,pl,_⟩:=I.list hq
   refine ⟨pl.isList.typeIs,λa e=>?_⟩
   cases e
   obtain ⟨o,n,e,c,hd,_⟩:=pl
   exact ⟨o,e,hd⟩
  ·refine ⟨⟨o,I.kIn p o hk,hc⟩,λa e=>?_⟩
   cases e
   exact ⟨o,I.kIn _ o hk,hd⟩
  ·have z:∃o,s.heap.get? p=some o/\o.ExactDict:=by
    rcases hk with ⟨kvs,hk⟩|⟨kvs,hk⟩
    ·obtain ⟨_,_,_,_,o,_,_,e,ex,_⟩:=I.hok p _ hk
     exact ⟨o,e,ex⟩
    ·obtain ⟨_,_,_,_,o,_,_,e,ex,_⟩:=I.hok p _ hk
     exact ⟨o,e,ex⟩
   obtain ⟨o,e,ex⟩:=z
   refine ⟨⟨o,e,ex.1⟩,λa e2=>?_⟩
   cases e2
   exact ⟨o,e,ex.2.1⟩
  ·obtain ⟨o,_,_,_,e,ex,_⟩:=I.hok p _ hk
   refine ⟨⟨o,e,ex.1⟩,λa e2=>?_⟩
   cases e2
   exact ⟨o,e,ex.2.1⟩
 | _=>exact False.elim ty
def zxq (K:QFg) (T:String) (r:V->List V->Hp->VK->Prop) (to:TE):TE:=λσ H Q=>to σ H λx H1=>tyV K T x H1/\r x [] H1 Q
def tBM (K:QFg) (T:String) (r:V->List V->Hp->VK->Prop) (to:TE) (t:TA):TE:=λσ H Q=>to σ H λx H1=>tyV K T x H1/\t σ H1 λxs H2=>r x xs H2 Q
variable {o e:Expr}{es:List Expr}{to:TE}{t:TA}{name:Str}{apos cpos:Pos}{T id:String}{r:V->List V->Hp->VK->Prop}
theorem zxr (pa:PlainAttrs T) (slot:Slot T name id) (hty:typeOf (.builtin id)=pure (.type "method_descriptor")) (hm:MtR X id r) (ho:PE X o to)
  (hbase:attributeBase o name X.env (eval o X.env)=eval o X.env:=by rfl) (hline:(apos.endLine == cpos.line)=true:=by rfl):PE X (.Call (.Attribute o name apos) [] [] cpos) (zxq X.K T r to):=by
 intro pins s σ H Q I h
 refine wpAny_Call_method0_late hbase hline (thn (ho pins s σ H _ I h) λv s1 ⟨x,H1,I1,r1,ty,q1⟩=>?_)
 obtain ⟨h1,h2⟩:=zof I1 r1 ty
 exact ⟨T,id,pa,slot,hty,h1,h2,Calls.callWith_builtin rfl (PySem.evalArgs_none (hm pins s1 σ H1 x [] v [] Q I1 r1 .nil q1))⟩
theorem zxs (pa:PlainAttrs T) (slot:Slot T name id) (hty:typeOf (.builtin id)=pure (.type "method_descriptor")) (hm:MtR X id r) (ho:PE X o to) (ha:PA X (e :: es) t)
  (hbase:attributeBase o name X.env (eval o X.env)=eval o X.env:=by rfl)
  (hfew:((backTo cpos (starEach (e :: es) X.env)).all (λx=>!x.1) && (backToKw cpos (keywordEach [] X.env)).all (λx=>x.1.isSome)
   && decide ((e :: es).length+([]:List Keyword).length+(if ([]:List Keyword).isEmpty then 0 else 1)<30))=true:=by rfl)
  (hline:(apos.endLine == cpos.line)=true:=by rfl) (hs:starEach (e :: es) X.env=(false,eval e X.env) :: starEach es X.env:=by rfl) (hplain:(backTo cpos (starEach es X.env)).any (·.1)=false:=by rfl) :
  PE X (.Call (.Attribute o name apos) (e :: es) [] cpos) (tBM X.K T r to t):=by
 intro pins s σ H Q I h
 refine wpAny_Call_method_late hbase hfew hline rfl (thn (ho pins s σ H _ I h) λv s1 ⟨x,H1,I1,r1,ty,q1⟩=>?_)
 obtain ⟨h1,h2⟩:=zof I1 r1 ty
 refine ⟨T,id,pa,slot,hty,h1,h2,?_⟩
 have hA:=ha cpos pins s1 σ H1 _ I1 q1
 rw [hs] at hA ⊢
 refine Calls.callWith_builtin (by show (false || (backTo cpos (starEach es X.env)).any (·.1))=false;rw [hplain] <;> rfl) (Calls.evalArgs_plain ?_)
 exact thn hA λus s2 ⟨vs,H2,I2,r2,q2⟩=>hm pins s2 σ H2 x vs v us Q I2 r1 r2 q2
end
def MtM (X:Cx) (id:String) (r:V->List V->Hp->VK->Prop):Prop :=
 ∀(pins:List (Addr × Obj)) (s:Shared) (σ:St) (H:Hp) (x:V) (xs:List V) (v:Value) (us:List Value) (Q:VK),Inv X pins σ H s->RelV x v->Vals xs us->r x xs H Q ->
  wpAny (model X.prog X.w) X.A (call (.builtin id) (v :: us)) (EP X pins σ Q) X.xe s
theorem Vals.one:∀{x:V}{us:List Value},Vals [x] us->∃u,us=[u]/\RelV x u
 | _,_,.cons r .nil=>⟨_,rfl,r⟩
theorem Vals.two {x y:V}{us:List Value}(h:Vals [x,y] us):∃u v,us=[u,v]/\RelV x u/\RelV y v:=by
 cases h with
 | cons r t =>
  cases t with
  | cons q t2=>cases t2;exact ⟨_,_,rfl,r,q⟩
theorem Vals.zero:∀{us:List Value},Vals [] us->us=[]
 | _,.nil=>rfl
theorem Vals.dropLast {xs:List V}{us:List Value}(h:Vals xs us):Vals xs.dropLast us.dropLast:=by
 induction h with
 | nil=>exact .nil
 | cons r t ih =>
  cases t with
  | nil=>exact .nil
  | cons q t'=>exact .cons r ih
theorem Vals.eraseIdx:∀{xs:List V}{us:List Value}(i:Nat),Vals xs us->Vals (xs.eraseIdx i) (us.eraseIdx i)
 | _,_,_,.nil=>.nil
 | _,_,0,.cons _ t=>t
 | _,_,i+1,.cons r t=>.cons r (Vals.eraseIdx i t)
theorem Vals.rep {xs:List V}{us:List Value}(h:Vals xs us):∀k:Nat,Vals (List.replicate k xs).flatten (List.replicate k us).flatten
 | 0=>.nil
 | k+1=>by
  rw [List.replicate_succ,List.replicate_succ,List.flatten_cons,List.flatten_cons]
  exact Vals.append h (Vals.rep h k)
theorem zxt {α:Type}(l:List α):l.eraseIdx (l.length-1)=l.dropLast:=by
 induction l with
 | nil=>rfl
 | cons a r ih =>
  cases r with
  | nil=>rfl
  | cons b r =>
   have e:(a :: b :: r).length-1=((b :: r).length-1)+1:=by
    have h1:(a :: b :: r).length=r.length+2:=rfl
    have h2:(b :: r).length=r.length+1:=rfl
    omega
   rw [e,List.eraseIdx_cons_succ,ih]
   all_goals rfl
theorem zog {α:Type}:∀(l:List α) (i:Nat),(l.eraseIdx i).length<=l.length
 | [],_=>qlr _
 | _ :: _,0=>Nat.le_succ _
 | _ :: r,i+1=>Nat.succ_le_succ (zog r i)
theorem zoh (its:List Value):∀(k:Nat) (acc:List Value),
  List.foldl (λx1 x2=>x1++x2) acc.toArray (List.replicate k its.toArray)=(acc++(List.replicate k its).flatten).toArray
 | 0,acc=>by simp
 | k+1,acc=>by
  have e:acc.toArray++its.toArray=(acc++its).toArray:=by simp
  have e2:(acc++its)++(List.replicate k its).flatten=acc++(List.replicate (k+1) its).flatten:=by
   rw [List.replicate_succ,List.flatten_cons,List.append_assoc]
  rw [<-e2,<-zoh its k (acc++its),<-e,List.replicate_succ,List.foldl_cons]
section
variable {X:Cx}{pins:List (Addr × Obj)}{σ:St}{H:Hp}{s:Shared}{l b:Addr}{xs ys zs:List V}
theorem Inv.lset {its its':List Value}{n:Nat}{f:Array Value->Array Value}{t':Nat}(I:Inv X pins σ H s) (hH:H l=some (.lst xs))
  (e:s.heap.get? l=some { cls:=.type "list",data:=.seq its.toArray n }) (hf:f its.toArray=its'.toArray) (hv:Vals ys its') (hz:ys.length<=sizeLine) :
  Inv X pins σ (upd H l (.lst ys)) { s with heap:=s.heap.update l (Obj.mapSeq f),toks:=t' }:=by
 have q:=PySem.IsL.update e f
 rw [hf] at q
 refine I.write (x:=l) (e:=l) (by rw [hH];exact trivial) (.inl rfl) (λb' u hb hu=>(Heap.get?_update_other s.heap (Obj.mapSeq f) (Ne.symm hb)).trans hu) ⟨_,q⟩ ?_
 exact ⟨hz,its',_,hv,q⟩
theorem Inv.lnew {its:List Value}{t':Nat}(I:Inv X pins σ H s) (hv:Vals ys its) (hz:ys.length<=sizeLine) :
  Inv X pins σ (upd H s.heap.objs.size (.lst ys)) { s with heap:=s.heap.push { cls:=.type "list",data:=.seq its.toArray },toks:=t' } :=
 I.laid (λ_ _ q=>qps _ q) (qlr _) ⟨hz,its,0,hv,Heap.get?_push_size _ rfl⟩
theorem Inv.fresh (I:Inv X pins σ H s):H s.heap.objs.size=none:=I.hok.fresh (qlr _)
theorem Inv.lstM (I:Inv X pins σ H s) (hH:H l=some (.lst xs)):xs.length<=sizeLine/\∃(its:List Value) (n:Nat),Vals xs its/\xs.length=its.length/\s.heap.get? l=some { cls:=.type "list",data:=.seq its.toArray n }:=by
 obtain ⟨z,its,n,r,e⟩:=I.hok l _ hH
 exact ⟨z,its,n,r,r.length,e⟩
end
section
variable {X:Cx}
def zoi:V->List V->Hp->VK->Prop:=λx vs H Q=>∃l xs y,x=.ref l/\vs=[y]/\H l=some (.lst xs)/\xs.length<sizeLine/\Q .non (upd H l (.lst (xs++[y])))
theorem zk3:MtM X "list.append" zoi:=by
 intro pins s σ H x vs v us Q I rx rv h
 obtain ⟨l,xs,y,rfl,rfl,hH,hz,q⟩:=h
 cases rx
 obtain ⟨u,rfl,ru⟩:=rv.one
 obtain ⟨z,its,n,r,hl,e⟩:=I.lstM hH
 refine call_meets F.slot_list_append ⟨_,e,rfl⟩ F.entry_list_append (F.args_list_append_2 _ _) (PySem.list_append l its.toArray n u (by rw [List.size_toArray];omega)) ⟨e,?_⟩
 refine ⟨.non,_,I.lset (its':=its++[u]) hH e (by simp) (r.append (.cons ru .nil)) ?_,rfl,q⟩
 rw [qla,List.length_singleton]
 omega
def zoj:V->List V->Hp->VK->Prop:=λx vs H Q=>∃l xs y,x=.ref l/\vs=[]/\H l=some (.lst xs)/\xs[xs.length-1]? = some y/\Q y (upd H l (.lst xs.dropLast))
theorem zxu:MtM X "list.pop" zoj:=by
 intro pins s σ H x vs v us Q I rx rv h
 obtain ⟨l,xs,y,rfl,rfl,hH,hy,q⟩:=h
 cases rx
 have hus:=rv.zero
 subst hus
 obtain ⟨z,its,n,r,hl,e⟩:=I.lstM hH
 obtain ⟨u,hu,ru⟩:=r.get hy
 have hy':its.toArray[its.toArray.size-1]? = some u:=by
  show its.toArray[its.length-1]? = some u
  rw [<-Array.getElem?_toList,<-hl]
  exact hu
 refine call_meets F.slot_list_pop ⟨_,e,rfl⟩ F.entry_list_pop (F.args_list_pop_1 _) (MeetsSeq.list_pop_last l its.toArray n u hy' (by rw [List.size_toArray];omega)) ⟨e,?_⟩
 refine ⟨y,_,I.lset (its':=its.dropLast) hH e ?_ r.dropLast ?_,ru,q⟩
 ·show its.toArray.eraseIdxIfInBounds (its.toArray.size-1)=its.dropLast.toArray
  rw [List.size_toArray,List.eraseIdxIfInBounds_toArray,zxt]
 ·rw [List.length_dropLast]
  omega
def zok:V->List V->Hp->VK->Prop:=λx vs H Q=>∃l xs i k y,x=.ref l/\vs=[.int i]/\H l=some (.lst xs)/\-(2 ^ 63)<=i/\i<2 ^ 63/\seqIndex? i xs.length=some k/\xs[k]? = some y/\Q y (upd H l (.lst (xs.eraseIdx k)))
theorem zxv:MtM X "list.pop" zok:=by
 intro pins s σ H x vs v us Q I rx rv h
 obtain ⟨l,xs,i,k,y,rfl,rfl,hH,h1,h2,hk,hy,q⟩:=h
 cases rx
 obtain ⟨u,rfl,ru⟩:=rv.one
 obtain ⟨t,rfl⟩:=ru
 obtain ⟨z,its,n,r,hl,e⟩:=I.lstM hH
 obtain ⟨w,hw,rw'⟩:=r.get hy
 refine call_meets F.slot_list_pop ⟨_,e,rfl⟩ F.entry_list_pop (F.args_list_pop_2 _ _)
  (MeetsSeq.list_pop_at l its.toArray n i t k w (fitsIndex_both h1 h2) (by rw [List.size_toArray,<-hl];exact hk) (by rw [<-Array.getElem?_toList];exact hw) (by rw [List.size_toArray];omega)) ⟨e,?_⟩
 refine ⟨y,_,I.lset (its':=its.eraseIdx k) hH e ?_ (r.eraseIdx k) ?_,rw',q⟩
 ·show its.toArray.eraseIdxIfInBounds k=(its.eraseIdx k).toArray
  rw [List.eraseIdxIfInBounds_toArray]
 ·have:=zog xs k
  omega
def zol:R2:=λx y H Q=>∃l b xs zs,x=.ref l/\y=.ref b/\H l=some (.lst xs)/\H b=some (.lst zs)/\xs.length+zs.length<=sizeLine/\∀p,H p=none->Q (.ref p) (upd H p (.lst (xs++zs)))
theorem zxw:OpR X (binaryOp .Add) zol:=by
 intro pins s σ H x y v u Q I rx ry h
 obtain ⟨l,b,xs,zs,rfl,rfl,hH,hB,hz,q⟩:=h
 cases rx
 cases ry
 obtain ⟨z,its,n,r,hl,e⟩:=I.lstM hH
 obtain ⟨z2,its2,n2,r2,hl2,e2⟩:=I.lstM hB
 refine PySem.P.add_list e e2 ?_ (by rw [List.size_toArray,List.size_toArray];omega)
 have ea:its.toArray++its2.toArray=(its++its2).toArray:=by simp
 rw [ea]
 exact ⟨.ref _,_,I.lnew (t':=s.toks) (r.append r2) (by rw [qla];omega),rfl,q _ I.fresh⟩
theorem zom {α:Type}(xs:List α) (k:Nat):(List.replicate k xs).flatten.length=k*xs.length:=by
 induction k with
 | zero=>simp
 | succ k ih=>rw [List.replicate_succ,List.flatten_cons,qla,ih,Nat.succ_mul,Nat.add_comm]
end
section
variable {prog:Program}{w:World}{A:Around}{E:Value->Shared->Prop}{s:Shared}
end
section
variable {X:Cx}
end
end L2
namespace Att
open PySem PySem.W PySem.Calls PyProof.Rows
theorem zxx {P:Params}{h:Heap}:∀(ns:List Int) (vs:List Value),WellAll P h vs (ns.map WData.int)->IntsAre vs ns:=by
 intro ns
 induction ns with
 | nil =>
  intro vs w
  rw [List.map_nil] at w
  cases w
  exact .nil
 | cons n ns ih =>
  intro vs w
  rw [List.map_cons] at w
  cases w with
  | cons a b =>
   cases a
   exact .cons _ _ (ih _ b)
theorem zxy {l:OpenLaw}{n:Nat}(hn:l.most=some n) {P:Params}{h:Heap}{args:List WData}{vals:List Value}
  (hpre:l.row.toRowW.claim.pre args=true) (hwl:WellAll P h vals args) :
  ∃a vs ns,vals=[Value.ref a]/\args=[WData.list (ns.map WData.int)]/\h.get? a=some { cls:=.type "list",data:=.seq vs.toArray }/\IntsAre vs ns/\ns.length<=n:=by
 have hsh:WShape.hasAll [] args [.list .int]=true:=(pre_splitW hpre).1
 have hc:l.pre.holds [] { args:=args }=true:=(pre_splitW hpre).2
 obtain ⟨d,r,rfl,h1,h2⟩:=hasAllW_cons hsh
 obtain rfl:=hasAllW_nil h2
 obtain ⟨xs,rfl,h3⟩:=hasW_list h1
 obtain ⟨ns,rfl⟩:=items_int h3
 have hlen:ns.length<=n:=by
  unfold OpenLaw.pre at hc
  have h4:(WTm.not (.lt (.lit (.int (n:Int))) (.len (.arg 0)))).holds [] { args:=[.list (ns.map .int)] }=true:=by
   have h4:=(holds_andW hc).1
   rw [hn] at h4
   exact h4
  have h5:=condW_of h4 (w_not (w_lt w_lit (w_len_list (w_arg rfl))))
  rw [qlm] at h5
  refine Nat.le_of_not_lt λq=>?_
  have q':(n:Int)<((ns.length:Nat):Int):=by omega
  first
   | (rw [decide_eq_true q'] at h5;exact absurd h5 (by decide))
   | (simp at h5;omega)
 cases hwl with
 | cons w1 w2 =>
  cases w2
  cases w1 with
  | list ho hall=>exact ⟨_,_,ns,rfl,rfl,ho,zxx ns _ hall,hlen⟩
theorem zxz (l:OpenLaw) (args:List WData):l.row.toRowW.claim.post args (.bool true) args=true :=
 postW_of (r:=l.row.toRowW) (X:=(true == true))
  (show WShape.has [] (.bool true) .bool=true by first|rfl|decide|simp [WShape.has,WShape.arms,WShape.armsAll])
  (show (WTm.eq .res (.lit (.bool true))).value [] { args:=args,res:=some (.bool true),after:=args }=some (.bool (true == true)) from w_eq_bool (w_res rfl) w_lit) rfl
theorem attach_call {l:OpenLaw}{n:Nat}{q:Program}{loose:List Str}{XP:(Str->Option Value)->Heap->Prop}{YP:World->Heap->Prop}{d:DefRec}
  (hn:l.most=some n) (hdf:d.params.defaults=[])
  (call:∀(w:World) (s₀ s₁:Shared) (mg mb:Str->Option Value) (fa:Addr) (o:Obj) (pm cd doc:Value) (a:Addr) (vs:List Value) (ns:List Int),
   Ground q loose [] XP w s₀ mg mb s₁.heap->YP w s₁.heap ->
   s₁.heap.get? fa=some o->o.data=.func (docDef d.name d.params d.body d.scope pm cd doc)->s₁.heap.CodeRec cd d.name->mg d.name=some (.ref fa) ->
   s₁.heap.get? a=some { cls:=.type "list",data:=.seq vs.toArray }->IntsAre vs ns->ns.length<=n->s₁.gens = #[] ->
   codeAny (model l.prog w) callerA (.call (.ref fa) ⟨[.ref a],[]⟩) (λr s'=>r=.ok (.ret (.bool true))/\OldK s₁.heap s'.heap/\s'.os=s₁.os/\AllBare s'.gens) s₁) :
  WalkO q loose XP YP l.row.toRowW d [] (λf vs=>PySem.call f vs):=by
 intro w s₀ s₁ mg mb G Y fa o pm cd doc dV kV ho hd hcd hD hmg hg args vals as hpre hlay hrd hwl hlo
 obtain rfl:dV=.none:=Dflts.none hD hdf
 obtain rfl:kV=.none:=Dflts.noKw hD
 obtain ⟨a,vs,ns,rfl,rfl,hobj,hints,hlen⟩:=zxy hn hpre hwl
 refine enter_call (codeAny_mono (call w s₀ s₁ mg mb fa o pm cd doc a vs ns G Y ho (fd_plain hd) hcd hmg hobj hints hlen hg) λr s' hq=>?_)
 obtain ⟨rfl,h2,h3,h4⟩:=hq
 exact ⟨.inl ⟨.bool true,.bool true,[],rfl,λ_=>rfl,.bool true,zxz l _,λ_=>⟨List.Pairwise.nil,λ_ hm=>(nomatch hm)⟩⟩,h2,h3,h4⟩
section
variable {prog:Program}{w:World}{A:Around}{E:Value->Shared->Prop}{s:Shared}{K:Frag}
end
end Att
namespace L2
open PySem PySem.Spec PyProof.Rows
theorem zon:∀{vs:List Value}{ns:List Int},IntsAre vs ns->Vals (ns.map V.int) vs
 | _,_,.nil=>.nil
 | _,_,.cons n t h=>.cons ⟨t,rfl⟩ (zon h)
def zi1 (H:Hp):Prop:=∀b,H b=none\/∃o xs,H b=some (.frz o (.lst xs))
theorem zx0 {P:Program}{w:World}{K:QFg}{mg mb:Str->Option Value}{CX:CXT}{k:Nat}{fa a:Addr}{fd:FuncData}{x:Str}{sp:Sp}{s₁:Shared}{vs:List Value}{ns:List Int}
  (KX:K.In s₁.heap) (hbm:BMd mg s₁.heap) (hns:s₁.heap.Ns mainGlobals mg) (hb:s₁.heap.Ns builtinsNs mb) (hbb:∀x:Str,x≠"__name__"->mb x=bootBuiltins x) (hlim:s₁.heap.NoLimit) (hg:s₁.gens = #[])
  (ha:s₁.heap.get? a=some { cls:=.type "list",data:=.seq vs.toArray }) (hi:IntsAre vs ns) (hl:ns.length<=sizeLine) (hr:Room k callerA)
  (F:∀base:Heap,K.In base->base.Ns mainGlobals mg->FnOk P w K mg base CX k fa fd [x] sp) (hbind:∀(s:Shared) (u:Value),BindsTo s fd ⟨[u],[]⟩ [(x,u)])
  (hsp:∀H:Hp,zi1 H->SqL K H a (ns.map V.int)->sp [.ref a] H (λv _=>v=.bl true) λ_ _ _=>False)
  (hCX:∀H e s',CX [] H s₁ (λ_ _ _=>False) e s'->False) :
  codeAny (model P w) callerA (.call (.ref fa) ⟨[.ref a],[]⟩) (λr s'=>r=.ok (.ret (.bool true))/\OldK s₁.heap s'.heap/\s'.os=s₁.os/\AllBare s'.gens) s₁:=by
 have rv:=zon hi
 have lenV:=hi.length
 have core:∀H:Hp,zi1 H->SqL K H a (ns.map V.int)->HOk P w H s₁.heap->(∀b,H b≠none->b=a)->(H a≠none->K.lookup a=none) ->
   codeAny (model P w) callerA (.call (.ref fa) ⟨[.ref a],[]⟩) (λr s'=>r=.ok (.ret (.bool true))/\OldK s₁.heap s'.heap/\s'.os=s₁.os/\AllBare s'.gens) s₁:=by
  intro H hO hS hok hA hK
  have base_of:∀{b:Addr} {o:Obj},s₁.heap.get? b=some o->H b=none->(zd6 s₁.heap H).get? b=some o:=λe n=>zuk e n
  have noA:∀{b:Addr} {o:Obj} {es:Array DictEntry} {ep:Nat},s₁.heap.get? b=some o->o.data=.dict es ep->H b=none:=λ{b o es ep} e d=>by
   cases q:H b with
   | none=>rfl
   | some u =>
    have e':b=a:=hA b (by rw [q];simp)
    subst e'
    rw [ha] at e;cases e
    have d':Data.seq vs.toArray _=Data.dict es ep:=d
    cases d'
  have nsK:∀{b:Addr} {m:Str->Option Value},s₁.heap.Ns b m->(zd6 s₁.heap H).Ns b m:=λ{b m} ⟨o,es,ep,e,d,r⟩=>⟨o,es,ep,base_of e (noA e d),d,r⟩
  have hKb:K.In (zd6 s₁.heap H):=λb o e=>base_of (KX b o e) (by
   cases q:H b with
   | none=>rfl
   | some u =>
    have e':b=a:=hA b (by rw [q];simp)
    subst e'
    rw [hK (by rw [q];simp)] at e;cases e)
  have hM:Mod K mg (zd6 s₁.heap H):=⟨hKb,nsK hns,⟨mb,nsK hb,hbb⟩,let ⟨mc,h1,h2⟩:=hlim;⟨mc,nsK h1,h2⟩,by
   obtain ⟨bm,ob,b1,b2,b3,b4,b5⟩:=hbm
   refine ⟨bm,ob,b1,b2,base_of b3 ?_,b4,b5⟩
   cases q:H bm with
   | none=>rfl
   | some u =>
    have e':bm=a:=hA bm (by rw [q];simp)
    subst e'
    rw [ha] at b3;cases b3;exact absurd (show Value.type "list" = Value.type "module" from b4) (by decide)⟩
  have e0:Env0 P w K mg (zd6 s₁.heap H) callerA [] s₁ H:=⟨rfl,hM,λb o e=>zul e,Nat.le_of_eq (zuj _ _),trivial,λb hb=>absurd (show b∈([]:List Addr) from hb) (by simp),hok,.of_eq hg⟩
  refine codeAny_mono ((F _ hKb (nsK hns)).run callerA [] s₁ H ⟨[.ref a],[]⟩ [.ref a] [.ref a] _ _ hr e0 (hbind s₁ (.ref a)) (.cons rfl .nil) (hsp H hO hS)) λr s' h=>?_
  cases r with
  | error e=>exact (hCX H e s' h).elim
  | ok fl =>
   cases fl with
   | next=>exact False.elim h
   | brk=>exact False.elim h
   | cont=>exact False.elim h
   | ret u =>
    obtain ⟨v,H',os,bare,un,hok',r',q⟩:=h
    have q':v=.bl true:=q
    subst q'
    obtain rfl:u=Value.bool true:=r'
    refine ⟨rfl,OldK.of_keep λb o e=>?_,os,bare⟩
    cases q:H b with
    | none=>exact un.keep b o e q (by intro z;exact absurd (show b∈([]:List Addr) from z) (by simp)) (by simp)
    | some u =>
     rcases hO b with z|⟨ob,xs,z⟩
     ·rw [q] at z;cases z
     ·have z2:=un.frzs b ob _ z
      obtain ⟨e1,_⟩:=hok b _ z
      obtain ⟨e2,_⟩:=hok' b _ z2
      rw [e] at e1;cases e1
      exact e2
 cases hk:K.lookup a with
 | some o =>
  have e:=KX a o hk
  rw [ha] at e
  cases e
  refine core (λ_=>none) (λ_=>.inl rfl) (.inr ⟨_,vs.toArray,_,hk,rfl,rfl,rfl,by rw [List.size_toArray,lenV];exact hl,by simpa using rv⟩) (λb u z=>by have z':(none:Option HO)=some u:=z;cases z') (λb z=>absurd rfl z) λz=>absurd rfl z
 | none =>
  refine core (λb=>if b=a then some (.frz { cls:=.type "list",data:=.seq vs.toArray } (.lst (ns.map V.int))) else none) (λb=>?_) (.inl (.inr ⟨{ cls:=.type "list",data:=.seq vs.toArray },if_pos rfl⟩)) (λb u z=>?_) (λb z=>?_) λ_=>hk
  ·by_cases hb:b=a
   ·exact .inr ⟨_,_,if_pos hb⟩
   ·exact .inl (if_neg hb)
  ·by_cases hb:b=a
   ·have z':=(if_pos hb).symm.trans z
    cases z'
    subst hb
    exact ⟨ha,by rw [qlm];exact hl,vs,_,rv,ha⟩
   ·have z':=(if_neg hb).symm.trans z
    cases z'
  ·by_cases hb:b=a
   ·exact hb
   ·exact absurd (if_neg hb) z
theorem walk_of {l:PySem.W.OpenLaw}{n k:Nat}{q:Program}{loose:List Str}{XP:(Str->Option Value)->Heap->Prop}{YP:World->Heap->Prop}{d:DefRec}{K:Params->QFg}{CX:World->CXT}{sp:World->Sp}{x:Str}
  (hn:l.most=some n) (hn2:n<=sizeLine) (hdf:d.params.defaults=[]) (hr:Room k callerA)
  (hY:∀(w:World) (h:Heap),YP w h->(K w.params).In h)
  (F:∀(w:World) (mg:Str->Option Value) (fa:Addr) (h:Heap),(K w.params).In h->h.Ns mainGlobals mg->mg d.name=some (.ref fa) ->
   ∃fd:FuncData,(∀(s:Shared) (u:Value),BindsTo s fd ⟨[u],[]⟩ [(x,u)]) /\
    ∀base:Heap,(K w.params).In base->base.Ns mainGlobals mg->FnOk l.prog w (K w.params) mg base (CX w) k fa fd [x] (sp w))
  (hsp:∀(w:World) (H:Hp) (a:Addr) (ns:List Int),ns.length<=n->zi1 H->SqL (K w.params) H a (ns.map V.int)->sp w [.ref a] H (λv _=>v=.bl true) λ_ _ _=>False)
  (hCX:∀(w:World) (H:Hp) (s:Shared) (e:Value) (s':Shared),CX w [] H s (λ_ _ _=>False) e s'->False) :
  PySem.W.WalkO q loose XP YP l.row.toRowW d [] (λf vs=>PySem.call f vs):=by
 refine Att.attach_call hn hdf λw s₀ s₁ mg mb fa o pm cd doc a vs ns G Y ho hd hcd hmg hobj hints hlen hg=>?_
 have KX:=hY w _ Y
 obtain ⟨fd,hb,hF⟩:=F w mg fa _ KX G.T.g hmg
 exact zx0 KX G.T.bmain G.T.g G.T.b G.T.builtins G.T.nolimit hg hobj hints (Nat.le_trans hlen hn2) hr hF hb (λH hO hS=>hsp w H a ns hlen hO hS) λH e s'=>hCX w H s₁ e s'
noncomputable def zgq (s:Stmt):Arguments:=match s with
 | .FunctionDef _ a _ _ _ _ _ _ _ _=>a
 | _=>{ posonlyargs:=[],args:=[],vararg:=none,kwonlyargs:=[],kw_defaults:=[],kwarg:=none,defaults:=[] }
noncomputable def zd8 (s:Stmt):List Stmt:=match s with
 | .FunctionDef _ _ b _ _ _ _ _ _ _=>b
 | _=>[]
noncomputable def zax (s:Stmt):Scope:=match s with
 | .FunctionDef _ _ _ _ _ _ sc _ _ _=>sc
 | _=>{ kind:=.function,names:=[],isGenerator:=false,isCoroutine:=false }
abbrev CX0:CXT:=λ_ _ _ _ _ _=>False
abbrev E0:XK:=λ_ _ _=>False
theorem zx1 {X:Cx}:zk0 CX0 X E0:=λ_ _ _ _ _ _ _ h=>h.elim
structure Fun (K:QFg) (x qual:Str) (st:Stmt) (f:Addr) (fd:FuncData):Prop where
 ex:∃(oc:Value) (od:Option Addr) (kV doc pm:Value) (an:Option Addr) (cdv ct:Value) (osl:Array (Option Value)),
  fd=PySem.W.fnOf x qual (zgq st) (zd8 st) (zax st) .none kV doc pm an cdv ct/\K.lookup f=some ⟨oc,od,.func fd,osl⟩/\PySem.W.codeIn K cdv qual=true
 kp:PySem.W.keepIn K (.ref f)=true
section
variable {P:Program}{w:World}{K:QFg}{mg:Str->Option Value}{base:Heap}
theorem Fun.binds {x qual:Str}{st:Stmt}{f:Addr}{fd:FuncData}{ps:List Str}(F:Fun K x qual st f fd)
  (h:∀(kV doc pm:Value) (an:Option Addr) (cdv ct:Value) (us:List Value),us.length=ps.length->bindArgs (PySem.W.fnOf x qual (zgq st) (zd8 st) (zax st) .none kV doc pm an cdv ct) ⟨us,[]⟩=pure (ps.zip us)):Binds K fd ps []:=by
 obtain ⟨oc,od,kV,doc,pm,an,cdv,ct,osl,rfl,lk,hcd⟩:=F.ex
 exact .all (h kV doc pm an cdv ct)
theorem zx2 {x qual:Str}{st:Stmt}{f:Addr}{oc:Value}{od an:Option Addr}{osl:Array (Option Value)}{kV doc pm cdv ct:Value}(l:K.lookup f=some ⟨oc,od,.func (PySem.W.fnOf x qual (zgq st) (zd8 st) (zax st) .none kV doc pm an cdv ct),osl⟩)
  (c:PySem.W.codeIn K cdv qual=true) (k:PySem.W.keepIn K (.ref f)=true):Fun K x qual st f (PySem.W.fnOf x qual (zgq st) (zd8 st) (zax st) .none kV doc pm an cdv ct):=⟨⟨oc,od,kV,doc,pm,an,cdv,ct,osl,rfl,l,c⟩,k⟩
end
section
variable {X:Cx}
end
theorem zd1 {A B:Prop}(h:B):if false=true then A else B:=by
 rw [if_neg Bool.false_ne_true]
 exact h
theorem zd2 {A B:Prop}(h:A):if true=true then A else B:=by
 rw [if_pos rfl]
 exact h
section
variable {κ:Type} [DecidableEq κ]
noncomputable def zbv (kvs:List (κ × V)) (k:κ):Option V:=(kvs.find? λkv=>decide (kv.1=k)).map (·.2)
noncomputable def zbs (kvs:List (κ × V)) (k:κ) (v:V):List (κ × V) :=
 if (kvs.any λkv=>decide (kv.1=k))=true then kvs.map (λkv=>if kv.1=k then (kv.1,v) else kv) else kvs++[(k,v)]
theorem zhj {p:κ × V}{r:List (κ × V)}{k:κ}(e:p.1=k):zbv (p :: r) k=some p.2:=by simp [zbv,List.find?_cons,e]
theorem zhk {p:κ × V}{r:List (κ × V)}{k:κ}(e:¬p.1=k):zbv (p :: r) k=zbv r k:=by simp [zbv,List.find?_cons,e]
theorem zoo (k:κ):∀kvs:List (κ × V),(kvs.any λkv=>decide (kv.1=k))=(zbv kvs k).isSome
 | []=>rfl
 | p :: r=>by
  rw [List.any_cons]
  by_cases e:p.1=k
  ·simp only [zhj e,decide_eq_true e,Bool.true_or,Option.isSome_some]
  ·rw [zhk e,decide_eq_false e,Bool.false_or];exact zoo k r
theorem zi2 (kvs:List (κ × V)) (k:κ) (v:V):(zbs kvs k v).length<=kvs.length+1:=by
 unfold zbs
 split
 ·rw [qlm];omega
 ·rw [qla,List.length_cons,List.length_nil];omega
theorem RelO.isSome_eq (r:RelO o u):o.isSome=u.isSome:=by
 cases o with
 | none=>cases u with
  | none=>rfl
  | some _=>exact (show False from r).elim
 | some _=>cases u with
  | none=>exact (show False from r).elim
  | some _=>rfl
theorem RelO.getD (r:RelO o u) (rd:RelV d d'):RelV (o.getD d) (u.getD d'):=by
 cases o with
 | none=>cases u with
  | none=>exact rd
  | some _=>exact (show False from r).elim
 | some _=>cases u with
  | none=>exact (show False from r).elim
  | some _=>exact r
theorem KV.val (r:KV kvs vs) (k:κ):RelO (zbv kvs k) (valueAt vs k):=by
 unfold KV at r
 induction r with
 | nil=>exact True.intro
 | @cons p q ps qs h t ih =>
  obtain ⟨h1,h2⟩:=h
  by_cases e:p.1=k
  ·have e':q.1=k:=h1.symm.trans e
   have b:valueAt (q :: qs) k=some q.2:=by simp [valueAt,List.find?_cons,e']
   rw [zhj e,b];exact h2
  ·have e':¬q.1=k:=λz=>e (h1.trans z)
   have b:valueAt (q :: qs) k=valueAt qs k:=by simp [valueAt,List.find?_cons,e']
   rw [zhk e,b];exact ih
theorem KV.any (r:KV kvs vs) (k:κ):(kvs.any λkv=>decide (kv.1=k))=vs.any λkv=>decide (kv.1=k):=by
 unfold KV at r
 induction r with
 | nil=>rfl
 | cons h t ih=>rw [List.any_cons,List.any_cons,ih,h.1]
theorem KV.repl (r:KV kvs vs) (k:κ) (ry:RelV y u) :
  KV (kvs.map λkv=>if kv.1=k then (kv.1,y) else kv) (vs.map λkv=>if kv.1=k then (kv.1,u) else kv):=by
 unfold KV at r ⊢
 induction r with
 | nil=>exact .nil
 | @cons p q ps qs h t ih =>
  rw [List.map_cons,List.map_cons]
  refine .cons ?_ ih
  obtain ⟨h1,h2⟩:=h
  by_cases e:p.1=k
  ·rw [if_pos e,if_pos (h1.symm.trans e)];exact ⟨h1,ry⟩
  ·rw [if_neg e,if_neg (λz=>e (h1.trans z))];exact ⟨h1,h2⟩
theorem KV.put (r:KV kvs vs) (k:κ) (ry:RelV y u):KV (zbs kvs k y) (stored vs k u):=by
 unfold zbs stored
 rw [r.any k]
 by_cases e:(vs.any λkv=>decide (kv.1=k))=true
 ·rw [if_pos e,if_pos e];exact r.repl k ry
 ·rw [if_neg e,if_neg e];exact Paired.snoc r ⟨rfl,ry⟩
theorem KV.length (r:KV kvs vs):kvs.length=vs.length:=Paired.length r
end
theorem zhl (r:RelV (kV k) u):(zcc P w).is k u=true:=by
 cases k with
 | inl i=>obtain ⟨t,e⟩:=(show ∃t,u=Value.int i t from r);subst e;exact zuh P w i t
 | inr x=>obtain ⟨t,e⟩:=(show ∃t,u=Value.str x t from r);subst e;exact zui P w x t
theorem zop:∀{ks:List Key}{us:List Value},Vals (ks.map kV) us->ItemsAre (zcc P w) ks us
 | [],_,r=>by rw [List.map_nil] at r;cases r;exact .nil
 | k :: ks,_,r=>by
  rw [List.map_cons] at r
  cases r with
  | cons h t=>exact .cons (zhl h) (zop t)
abbrev KT (H:Hp):List (List Key × V)->List (List Key × Addr × Value)->Prop:=Paired λp q=>p.1=q.1/\H q.2.1=some (.tup (p.1.map kV))/\RelV p.2 q.2.2
theorem KT.val (r:KT H kvs xs) (k:List Key):RelO (zbv kvs k) ((atKey xs k).map (·.2)):=by
 induction r with
 | nil=>exact True.intro
 | @cons p q ps qs h t ih =>
  obtain ⟨h1,_,h2⟩:=h
  by_cases e:p.1=k
  ·have e':q.1=k:=h1.symm.trans e
   have b:atKey (q :: qs) k=some q.2:=by simp [atKey,List.find?_cons,e']
   rw [zhj e,b];exact h2
  ·have e':¬q.1=k:=λz=>e (h1.trans z)
   have b:atKey (q :: qs) k=atKey qs k:=by simp [atKey,List.find?_cons,e']
   rw [zhk e,b];exact ih
theorem KT.repl (r:KT H kvs xs) (k:List Key) (ry:RelV y u) :
  KT H (kvs.map λkv=>if kv.1=k then (kv.1,y) else kv) (xs.map (putAt k u)):=by
 induction r with
 | nil=>exact .nil
 | @cons p q ps qs h t ih =>
  rw [List.map_cons,List.map_cons]
  refine .cons ?_ ih
  obtain ⟨h1,h2,h3⟩:=h
  unfold putAt
  by_cases e:p.1=k
  ·rw [if_pos e,if_pos (h1.symm.trans e)];exact ⟨h1,h2,ry⟩
  ·rw [if_neg e,if_neg (λz=>e (h1.trans z))];exact ⟨h1,h2,h3⟩
theorem KT.put (r:KT H kvs xs) (k:List Key) (hb:H b=some (.tup (k.map kV))) (ry:RelV y u) :
  KT H (zbs kvs k y) (storedH xs k b u):=by
 have e:(kvs.any λkv=>decide (kv.1=k))=(atKey xs k).isSome:=by
  rw [zoo,(r.val k).isSome_eq,Option.isSome_map]
 unfold zbs storedH
 rw [e]
 by_cases q:(atKey xs k).isSome=true
 ·rw [if_pos q,if_pos q];exact r.repl k ry
 ·rw [if_neg q,if_neg q];exact Paired.snoc r ⟨rfl,hb,ry⟩
theorem KT.keeps (r:KT H kvs xs) (ht:∀b ys,H b=some (.tup ys)->H' b=some (.tup ys)):KT H' kvs xs :=
 Paired.mapP r λ_ _ z=>⟨z.1,ht _ _ z.2.1,z.2.2⟩
section
theorem zoq (ok:HOk P w H h) (e:Rd H a u):ObjOk P w H h a u:=e.ok ok
theorem zhm (ok:HOk P w H h) (e:Rd H a (.dK kvs)):kvs.length<=sizeLine/\(a == sysModules)=false/\∃vs,KV kvs vs/\h.DictOf (zcc P w) a vs :=
 show ObjOk P w H h a (.dK kvs) from zoq ok e
theorem zx3 (ok:HOk P w H h) (e:H a=some (.dK kvs)):kvs.length<=sizeLine/\(a == sysModules)=false/\∃vs,KV kvs vs/\h.DictOf (zcc P w) a vs:=zhm ok (.inl e)
theorem zfc (ok:HOk P w H h) (e:H a=some (.tup (ks.map kV))):(tupleKind (zcc P w)).is h ks a:=by
 obtain ⟨_,its,r,o,h1,h2,n,h3,_⟩:=(show ObjOk P w H h a (.tup (ks.map kV)) from ok a _ e)
 exact ⟨o,its.toArray,n,h1,h2,h3,by simpa using zop r⟩
theorem zhn (ok:HOk P w H h) (e:Rd H a (.dT kvs)):kvs.length<=sizeLine/\(a == sysModules)=false /\
  ∃xs,KT H kvs xs/\h.DictOfH (tupleKind (zcc P w)) a xs:=by
 obtain ⟨z,y,xs,r,o,es,ep,h1,h2,h3,h4,h5⟩:=(show ObjOk P w H h a (.dT kvs) from zoq ok e)
 refine ⟨z,y,xs,r,o,es,ep,h1,h2,h3,h4,λx hx=>?_,h5⟩
 have all:∀{l:List (List Key × V)} {m:List (List Key × Addr × Value)},KT H l m->∀x∈m,(tupleKind (zcc P w)).is h x.1 x.2.1:=by
  intro l m q
  induction q with
  | nil=>intro x hx;exact nomatch hx
  | @cons p q ps qs hq t ih =>
   intro x hx
   rcases List.mem_cons.mp hx with e|hx
   ·subst e
    exact zfc ok (by rw [<-hq.1];exact hq.2.1)
   ·exact ih x hx
 exact all r x hx
theorem zk4 (ok:HOk P w H h) (e:H a=some (.dT kvs)):kvs.length<=sizeLine/\(a == sysModules)=false /\
  ∃xs,KT H kvs xs/\h.DictOfH (tupleKind (zcc P w)) a xs:=zhn ok (.inl e)
end
def zeo (H:Hp) (a:Addr) (y:V) (r:Option V):Prop :=
 (∃kvs k,Rd H a (.dK kvs)/\y=kV k/\r=zbv kvs k)\/∃kvs k b,Rd H a (.dT kvs)/\y=.ref b/\H b=some (.tup (k.map kV))/\r=zbv kvs k
def DPut (H:Hp) (a:Addr) (y v:V) (H':Hp):Prop :=
 (∃kvs k,H a=some (.dK kvs)/\y=kV k/\kvs.length<sizeLine/\H' = upd H a (.dK (zbs kvs k v))) \/
 ∃kvs k b,H a=some (.dT kvs)/\y=.ref b/\H b=some (.tup (k.map kV))/\kvs.length<sizeLine/\H' = upd H a (.dT (zbs kvs k v))
theorem DPut.k {kvs:List (Key × V)}{k:Key}(e:H a=some (.dK kvs)) (hl:kvs.length<sizeLine):DPut H a (kV k) v (upd H a (.dK (zbs kvs k v))):=.inl ⟨kvs,k,e,rfl,hl,rfl⟩
theorem DPut.t {kvs:List (List Key × V)}{k:List Key}(e:H a=some (.dT kvs)) (eb:H b=some (.tup (k.map kV))) (hl:kvs.length<sizeLine) :
  DPut H a (.ref b) v (upd H a (.dT (zbs kvs k v))):=.inr ⟨kvs,k,b,e,rfl,eb,hl,rfl⟩
section
theorem Inv.big (I:Inv X pins σ H s):sysModules<s.heap.objs.size:=by
 have h:mainGlobals<s.heap.objs.size:=(I.mod.glob.keeps I.bk).lt
 exact Nat.lt_trans (by decide) h
theorem zx4 (hu:A.units+1<cLine) (I:Inv X pins σ H s) (g:zeo H a y o) (ry:RelV y u) (h:∀s',Inv X pins σ H s'->Q (.bool o.isSome) s') :
  wpAny (model X.prog X.w) A (compareOp .In u (.ref a)) Q E s:=by
 rcases g with ⟨kvs,k,e,ey,l⟩|⟨kvs,k,b,e,ey,eb,l⟩
 ·subst ey
  obtain ⟨z,hd,vs,rel,dd⟩:=zhm I.hok e
  refine wpAny_in_of (zhl ry) hd dd.mapOf ?_
  rw [<-(rel.val k).isSome_eq,<-l]
  exact h _ (I.tok _)
 ·subst ey
  cases (show u=Value.ref b from ry)
  obtain ⟨z,hd,xs,rel,dd⟩:=zhn I.hok e
  refine wpAny_in_heap (tupleKind_room_in1 hu) (zfc I.hok eb) hd dd ?_
  have q:=(rel.val k).isSome_eq
  rw [Option.isSome_map] at q
  rw [<-q,<-l]
  exact h _ (I.tok _)
theorem zx5 (hu:A.units+1<cLine) (I:Inv X pins σ H s) (g:zeo H a y o) (ry:RelV y u) (h:∀s',Inv X pins σ H s'->Q (.bool (!o.isSome)) s') :
  wpAny (model X.prog X.w) A (compareOp .NotIn u (.ref a)) Q E s:=by
 rcases g with ⟨kvs,k,e,ey,l⟩|⟨kvs,k,b,e,ey,eb,l⟩
 ·subst ey
  obtain ⟨z,hd,vs,rel,dd⟩:=zhm I.hok e
  refine wpAny_notIn_of (zhl ry) hd dd.mapOf ?_
  rw [<-(rel.val k).isSome_eq,<-l]
  exact h _ (I.tok _)
 ·subst ey
  cases (show u=Value.ref b from ry)
  obtain ⟨z,hd,xs,rel,dd⟩:=zhn I.hok e
  refine wpAny_notIn_heap (tupleKind_room_in1 hu) (zfc I.hok eb) hd dd ?_
  have q:=(rel.val k).isSome_eq
  rw [Option.isSome_map] at q
  rw [<-q,<-l]
  exact h _ (I.tok _)
theorem zi3 (I:Inv X pins σ H s) (mu:Mut (H a)) (hs:Heap.SameBut a s.heap h') (he:∃q,h'.get? a=some q) (new:ObjOk X.prog X.w (upd H a ob) h' a ob) :
  Inv X pins σ (upd H a ob) { s with heap:=h',toks:=t' } :=
 I.write (x:=a) (e:=a) mu (.inl rfl) (λb q hb z=>(hs.2 b hb).trans z) he new
theorem zx6 (z:kvs.length<=sizeLine) (hd:(a == sysModules)=false) (rel:KV kvs vs) (dd:h'.DictOf (zcc P w) a vs) :
  ObjOk P w H' h' a (.dK kvs):=⟨z,hd,vs,rel,dd⟩
theorem zx7 (hu:A.units+1<cLine) (I:Inv X pins σ H s) (g:DPut H a y v H') (ry:RelV y u) (rv:RelV v r) (h:∀s',Inv X pins σ H' s'->Q () s') :
  wpAny (model X.prog X.w) A (setItem (.ref a) u r) Q E s:=by
 rcases g with ⟨kvs,k,e,ey,l,eH⟩|⟨kvs,k,b,e,ey,eb,l,eH⟩
 ·subst ey eH
  obtain ⟨z,hd,vs,rel,dd⟩:=zx3 I.hok e
  have hz:vs.length<=sizeLine:=by rw [<-rel.length];exact z
  have hl:(zbs kvs k v).length<=sizeLine:=by have:=zi2 kvs k v;omega
  refine wpAny_setItem_pairs (hsz:=hz) (zhl ry) dd λh' dd' hs=>h _ ?_
  have he:∃q,h'.get? a=some q:=let ⟨q,_,_,hq,_⟩:=dd';⟨q,hq⟩
  exact zi3 I (by rw [e];exact True.intro) hs he (zx6 hl hd (rel.put k rv) dd')
 ·subst ey eH
  cases (show u=Value.ref b from ry)
  obtain ⟨z,hd,xs,rel,dd⟩:=zk4 I.hok e
  have hz:xs.length<=sizeLine:=by rw [<-Paired.length rel];exact z
  have hl:(zbs kvs k v).length<=sizeLine:=by have:=zi2 kvs k v;omega
  refine wpAny_setItem_heap (hsz:=hz) (tupleKind_room_in1 hu) (zfc I.hok eb) dd λh' dd' hs=>h _ ?_
  obtain ⟨q,es,ep,hq,h2,h3,h4,_,h5⟩:=dd'
  refine zi3 I (by rw [e];exact True.intro) hs ⟨q,hq⟩ ⟨hl,hd,_,(rel.put k eb rv).keeps λc ys ec=>?_,q,es,ep,hq,h2,h3,h4,h5⟩
  rw [zap (zc8 ec e (λz=>nomatch z))]
  exact ec
end
section
end
def zx8 (td ty tv:TE):TS:=λD σ H=>tv σ H λv H1=>td σ H1 λx H2=>ty σ H2 λy H3=>∃a H4,x=.ref a/\DPut H3 a y v H4/\D.nx σ H4
section
theorem zx9 (hu:X.A.units+1<cLine) (ho:PE X o td) (hi:PE X i ty) (hv:PE X value tv) (hs:swapsWith value (some (.Subscript o i pos')) pos.line X.env=pure false) :
  PS X (.Assign [.Subscript o i pos'] value pos) (zx8 td ty tv):=by
 intro pins s σ H D I h
 refine wpAny_Assign_Subscript (thn (hv pins s σ H _ I h) λr s1 ⟨v,H1,I1,rv,q1⟩=>thn (ho pins s1 σ H1 _ I1 q1) λu s2 ⟨x,H2,I2,rx,q2⟩=>thn (hi pins s2 σ H2 _ I2 q2) λiv s3 ⟨y,H3,I3,ry,a,H4,ex,g,q3⟩=>?_) hs
 subst ex
 obtain rfl:u=Value.ref a:=rx
 exact zx7 hu I3 g ry rv λs4 I4=>⟨σ,H4,I4,q3⟩
end
theorem zor (h:Heap) (hb:sysModules<h.objs.size):ObjOk P w H (h.push { cls:=.type "dict",data:=.dict #[] }) h.objs.size (.dT []) :=
 ⟨Nat.zero_le _,beq_eq_false_iff_ne.mpr (Ne.symm (Nat.ne_of_lt hb)),[],.nil,_,#[],0,Heap.get?_push_size _ rfl,⟨rfl,rfl,rfl⟩,rfl,rfl,List.nodup_nil⟩
def zya:TE:=λ_ H Q=>∀p,H p=none->Q (.ref p) (upd H p (.dT []))
section
theorem zyb:PE X (.Dict [] [] pos) zya:=λpins s σ H Q I h =>
 wpAny_Dict_empty ⟨.ref s.heap.objs.size,_,I.laid (a:=s.heap.objs.size) (o:=.dT []) (t':=s.toks) (λ_ _ q=>qps _ q) (qlr _) (zor s.heap I.big),rfl,h _ (I.hok.fresh (qlr _))⟩
end
structure M2 (X:Cx) (o:Expr) (m:Str) (apos:Pos) (e f:Expr) (cpos:Pos):Prop where
 base:attributeBase o m X.env (eval o X.env)=eval o X.env
 few:((backTo cpos (starEach [e,f] X.env)).all (λx=>!x.1) && (backToKw cpos (keywordEach [] X.env)).all (λx=>x.1.isSome)
  && decide (([e,f]:List Expr).length+([]:List Keyword).length+(if ([]:List Keyword).isEmpty then 0 else 1)<30))=true
 line:(apos.endLine == cpos.line)=true
 trees:backTo cpos (starEach [e,f] X.env)=[(false,eval e X.env),(false,eval f X.env)]
def IsD (H:Hp) (a:Addr):Prop:=(∃kvs,Rd H a (.dK kvs))\/∃kvs,Rd H a (.dT kvs)
theorem zos (I:Inv X pins σ H s) (d:IsD H a) :
  s.TypeIs (.ref a) "dict"/\(∀b,Value.ref a=.ref b->∃ob,s.heap.get? b=some ob/\ob.dict=none)/\(a == sysModules)=false:=by
 rcases d with ⟨kvs,e⟩|⟨kvs,e⟩
 ·obtain ⟨_,hd,vs,_,dd⟩:=zhm I.hok e
  refine ⟨dd.typeIs,λb q=>?_,hd⟩
  cases q
  obtain ⟨ob,_,_,h1,h2,_⟩:=dd
  exact ⟨ob,h1,h2.2.1⟩
 ·obtain ⟨_,hd,xs,_,dd⟩:=zhn I.hok e
  refine ⟨dd.typeIs,λb q=>?_,hd⟩
  cases q
  obtain ⟨ob,_,_,h1,h2,_⟩:=dd
  exact ⟨ob,h1,h2.2.1⟩
section
theorem zyc (hu:A.units+1<cLine) (I:Inv X pins σ H s) (g:zeo H a y o) (ry:RelV y u) (rd:RelV d r) (h:∀w' s',Inv X pins σ H s'->RelV (o.getD d) w'->Q w' s') :
  wpAny (model X.prog X.w) A (call (.builtin "dict.get") [.ref a,u,r]) Q E s:=by
 rcases g with ⟨kvs,k,e,ey,l⟩|⟨kvs,k,b,e,ey,eb,l⟩
 ·subst ey
  obtain ⟨z,hd,vs,rel,dd⟩:=zhm I.hok e
  refine call_meetsIn PySem.F.slot_dict_get dd.typeIs PySem.F.entry_dict_get (PySem.F.args_dict_get_3 _ _ _) (meets_dict_get_default (zcc X.prog X.w) a (zhl ry) hd r) ⟨_,dd.mapOf,h _ _ (I.tok _) ?_⟩
  rw [l]
  exact (rel.val k).getD rd
 ·subst ey
  cases (show u=Value.ref b from ry)
  obtain ⟨z,hd,xs,rel,dd⟩:=zhn I.hok e
  refine call_meetsIn PySem.F.slot_dict_get dd.typeIs PySem.F.entry_dict_get (PySem.F.args_dict_get_3 _ _ _) (meetsH_dict_get_default (tupleKind (zcc X.prog X.w)) a b hd r) ⟨tupleKind_room_in1 hu,k,xs,zfc I.hok eb,dd,h _ _ (I.tok _) ?_⟩
  rw [l]
  exact (rel.val k).getD rd
end
def zyd (td ty tx:TE):TE:=λσ H Q=>td σ H λx H1=>∃a,x=.ref a/\IsD H1 a/\ty σ H1 λy H2=>tx σ H2 λz H3=>∃o,zeo H3 a y o/\Q (o.getD z) H3
section
theorem zye (hu:X.A.units+1<cLine) (ho:PE X o td) (he:PE X e ty) (hf:PE X f tx) (m:M2 X o "get" apos e f cpos):PE X (.Call (.Attribute o "get" apos) [e,f] [] cpos) (zyd td ty tx):=by
 intro pins s σ H Q I h
 refine wpAny_Call_method m.base m.few m.line PySem.F.plainAttrs_dict PySem.F.slot_dict_get PySem.F.type_dict_get (thn (ho pins s σ H _ I h) λu s1 ⟨x,H1,I1,rx,a,ex,d,q1⟩=>?_)
 subst ex
 obtain rfl:u=Value.ref a:=rx
 obtain ⟨t1,t2,_⟩:=zos I1 d
 refine ⟨t1,t2,?_⟩
 rw [m.trees]
 refine Calls.callWith_builtin rfl (Calls.evalArgs_plain (Calls.spliced_cons (thn (he pins s1 σ H1 _ I1 q1) λiv s2 ⟨y,H2,I2,ry,q2⟩ =>
  Calls.spliced_cons (thn (hf pins s2 σ H2 _ I2 q2) λfv s3 ⟨z,H3,I3,rz,ov,g,q3⟩=>Calls.spliced_nil ?_))))
 exact zyc hu I3 g ry rz λw' s4 I4 rw'=>⟨_,H3,I4,rw',q3⟩
end
section
end
section
end
section
end
section
variable {κ:Type} [DecidableEq κ]
end
end L2
namespace L3
abbrev St:=L2.St
open PySem PySem.Spec PyProof.Rows L2
inductive D where
 | non|bl (b:Bool)|int (i:Int)|str (x:Str)|tup (xs:List D)|ref (n:Nat)|fn (a:Addr)
structure LamG where
 qual:Str
 params:Arguments
 body:Expr
 scope:Scope
inductive Ob where
 | lst (xs:List D)|flst (xs:List D)|iset (f:Int->Bool) (n:Nat)|dct (kvs:List (Key × D))|fdct (kvs:List (Key × D))|tdct (kvs:List (List Key × D))|ftdct (kvs:List (List Key × D))|tset (ks:List (List Int))|fnc (x:Str)|exc (c:Str)|tab (x:Str)|lam (g:LamG) (caps:List (Str × D))|dead
noncomputable def Ob.mut:Ob->Bool
 | .flst _=>false
 | .fnc _=>false
 | .lam _ _=>false
 | .dead=>false
 | _=>true
abbrev Sto:=List Ob
abbrev Lo:=List (Option D)
mutual
inductive RD (ρ:List Addr) (H:Hp):D->V->Prop where
 | non:RD ρ H .non .non
 | bl (b:Bool):RD ρ H (.bl b) (.bl b)
 | int (i:Int):RD ρ H (.int i) (.int i)
 | str (x:Str):RD ρ H (.str x) (.str x)
 | tup {xs:List D} {a:Addr} {vs:List V}:H a=some (.tup vs)->RDs ρ H xs vs->RD ρ H (.tup xs) (.ref a)
 | ref {n:Nat} {a:Addr}:ρ[n]? = some a->RD ρ H (.ref n) (.ref a)
 | fn (a:Addr):RD ρ H (.fn a) (.ref a)
inductive RDs (ρ:List Addr) (H:Hp):List D->List V->Prop where
 | nil:RDs ρ H [] []
 | cons {x:D} {v:V} {xs:List D} {vs:List V}:RD ρ H x v->RDs ρ H xs vs->RDs ρ H (x :: xs) (v :: vs)
end
structure Ext0 (ρ:List Addr) (H:Hp) (ρ':List Addr) (H':Hp):Prop where
 pre:∀(n:Nat) (a:Addr),ρ[n]? = some a->ρ'[n]? = some a
 tup:∀a vs,H a=some (.tup vs)->H' a=some (.tup vs)
 frz:∀a o u,H a=some (.frz o u)->H' a=some (.frz o u)
structure Ext (ρ:List Addr) (H:Hp) (ρ':List Addr) (H':Hp):Prop extends Ext0 ρ H ρ' H' where
 out:∀a (vs:HO),H a=some vs->(∀n:Nat,ρ[n]?≠some a)->H' a=some vs/\∀n:Nat,ρ'[n]?≠some a
theorem Ext.refl (ρ:List Addr) (H:Hp):Ext ρ H ρ H:=⟨⟨λ_ _ h=>h,λ_ _ h=>h,λ_ _ _ h=>h⟩,λ_ _ h n=>⟨h,n⟩⟩
theorem Ext.trans (a:Ext ρ H ρ1 H1) (b:Ext ρ1 H1 ρ2 H2):Ext ρ H ρ2 H2 :=
 ⟨⟨λn x h=>b.pre n x (a.pre n x h),λn x h=>b.tup n x (a.tup n x h),λn o x h=>b.frz n o x (a.frz n o x h)⟩,λx vs h n=>let ⟨h1,n1⟩:=a.out x vs h n;b.out x vs h1 n1⟩
section
mutual
theorem RD.mono0 (e:Ext0 ρ H ρ' H'):∀{d:D}{v:V},RD ρ H d v->RD ρ' H' d v
 | _,_,.non=>.non
 | _,_,.bl b=>.bl b
 | _,_,.int i=>.int i
 | _,_,.str x=>.str x
 | _,_,.tup h r=>.tup (e.tup _ _ h) (RDs.mono0 e r)
 | _,_,.ref h=>.ref (e.pre _ _ h)
 | _,_,.fn a=>.fn a
theorem RDs.mono0 (e:Ext0 ρ H ρ' H'):∀{d:List D}{v:List V},RDs ρ H d v->RDs ρ' H' d v
 | _,_,.nil=>.nil
 | _,_,.cons r q=>.cons (RD.mono0 e r) (RDs.mono0 e q)
end
theorem RD.mono (r:RD ρ H d v) (e:Ext ρ H ρ' H'):RD ρ' H' d v:=r.mono0 e.toExt0
theorem RDs.mono (r:RDs ρ H d v) (e:Ext ρ H ρ' H'):RDs ρ' H' d v:=r.mono0 e.toExt0
theorem RDs.length:∀{d:List D}{v:List V},RDs ρ H d v->d.length=v.length
 | _,_,.nil=>rfl
 | _,_,.cons _ q=>congrArg (· + 1) (RDs.length q)
theorem RDs.get:∀{d:List D}{v:List V}{i:Nat}{x:D},RDs ρ H d v->d[i]? = some x->∃u,v[i]? = some u/\RD ρ H x u
 | _,_,_,_,.nil,e=>by simp at e
 | _,_,0,_,.cons r _,e=>by simp at e;subst e;exact ⟨_,rfl,r⟩
 | _,_,i+1,x,.cons _ q,e=>by
  obtain ⟨u,h1,h2⟩:=RDs.get (i:=i) (x:=x) q (by simpa using e)
  exact ⟨u,by simpa using h1,h2⟩
theorem RDs.set (r:RD ρ H x u):∀{d:List D}{v:List V}(i:Nat),RDs ρ H d v->RDs ρ H (d.set i x) (v.set i u)
 | _,_,_,.nil=>.nil
 | _,_,0,.cons _ q=>.cons r q
 | _,_,i+1,.cons p q=>.cons p (RDs.set r i q)
theorem RDs.append:∀{d e:List D}{v w:List V},RDs ρ H d v->RDs ρ H e w->RDs ρ H (d++e) (v++w)
 | _,_,_,_,.nil,q=>q
 | _,_,_,_,.cons r p,q=>.cons r (RDs.append p q)
theorem RDs.take:∀{d:List D}{v:List V}(n:Nat),RDs ρ H d v->RDs ρ H (d.take n) (v.take n)
 | _,_,0,_=>.nil
 | _,_,_+1,.nil=>.nil
 | _,_,n+1,.cons r t=>.cons r (RDs.take n t)
theorem RDs.drop:∀{d:List D}{v:List V}(n:Nat),RDs ρ H d v->RDs ρ H (d.drop n) (v.drop n)
 | _,_,0,r=>r
 | _,_,_+1,.nil=>.nil
 | _,_,n+1,.cons _ t=>RDs.drop n t
theorem RDs.reverse:∀{d:List D}{v:List V},RDs ρ H d v->RDs ρ H d.reverse v.reverse
 | _,_,.nil=>.nil
 | _,_,.cons r t=>by rw [List.reverse_cons,List.reverse_cons];exact RDs.append (RDs.reverse t) (.cons r .nil)
theorem RDs.rep (h:RDs ρ H xs us):∀k:Nat,RDs ρ H (List.replicate k xs).flatten (List.replicate k us).flatten
 | 0=>.nil
 | k+1=>by
  rw [List.replicate_succ,List.replicate_succ,List.flatten_cons,List.flatten_cons]
  exact RDs.append h (RDs.rep h k)
theorem RDs.one (h:RDs ρ H [x] vs):∃v,vs=[v]/\RD ρ H x v:=by
 cases h with
 | cons r q=>cases q;exact ⟨_,rfl,r⟩
theorem RDs.two (h:RDs ρ H [x,y] vs):∃v u,vs=[v,u]/\RD ρ H x v/\RD ρ H y u:=by
 cases h with
 | cons r q=>obtain ⟨u,rfl,r2⟩:=q.one;exact ⟨_,_,rfl,r,r2⟩
end
def Fz (K:QFg) (H:Hp) (a:Addr) (xs:List V):Prop:=(∃o,H a=some (.frz o (.lst xs))) \/
  ∃(o:Obj) (its:Array Value) (n:Nat),K.lookup a=some o/\o.cls=.type "list"/\o.dict=none/\o.data=.seq its n/\its.size<=sizeLine/\Vals xs its.toList
theorem Fz.sq {K:QFg}{H:Hp}{a:Addr}{xs:List V}(h:Fz K H a xs):SqL K H a xs:=by
 rcases h with ⟨o,h⟩|h
 ·exact .inl (.inr ⟨o,h⟩)
 ·exact .inr h
noncomputable def zyf (x:Str):Str:=x++".<locals>."++"<lambda>"
noncomputable abbrev hTr:HO:=.ext λ_=>True
def CodeF (H:Hp) (q:Str) (c:Addr):Prop:=∃oc vs t,H c=some (.frz oc hTr)/\oc.data=.fields vs/\vs[1]? = some (.str q t)
def TabOk (H:Hp) (q:Str) (ps:Array Value):Prop:=TriplesOk ps.toList/\∀pos cv,codeAmong pos ps.toList=some cv->∃c,cv=.ref c/\CodeF H q c
inductive CellsR (ρ:List Addr) (H:Hp):List (Str × Addr)->List (Str × D)->Prop where
 | nil:CellsR ρ H [] []
 | cons {x:Str} {c:Addr} {o:Obj} {u:Value} {v:V} {d:D} {cs:List (Str × Addr)} {ds:List (Str × D)}:H c=some (.frz o hTr)->o.data=.cell (some u)->RelV v u->RD ρ H d v->CellsR ρ H cs ds->CellsR ρ H ((x,c) :: cs) ((x,d) :: ds)
theorem CodeF.mono (h:CodeF H q c) (e:∀a o u,H a=some (.frz o u)->H' a=some (.frz o u)):CodeF H' q c :=
 let ⟨oc,vs,t,h1,h2⟩:=h;⟨oc,vs,t,e _ _ _ h1,h2⟩
theorem TabOk.mono {ps:Array Value}(h:TabOk H q ps) (e:∀a o u,H a=some (.frz o u)->H' a=some (.frz o u)):TabOk H' q ps :=
 ⟨h.1,λpos cv z=>let ⟨c,e1,k⟩:=h.2 pos cv z;⟨c,e1,k.mono e⟩⟩
theorem CellsR.mono (e:Ext0 ρ H ρ' H') {cs:List (Str × Addr)}{ds:List (Str × D)}(h:CellsR ρ H cs ds):CellsR ρ' H' cs ds:=by
 induction h with
 | nil=>exact .nil
 | cons h1 h2 h3 h4 _ ih=>exact .cons (e.frz _ _ _ h1) h2 h3 (h4.mono0 e) ih
def ObR (K:QFg) (ρ:List Addr) (H:Hp):Ob->Addr->Prop
 | .lst xs,a=>∃vs,H a=some (.lst vs)/\RDs ρ H xs vs
 | .flst xs,a=>∃vs,Fz K H a vs/\RDs ρ H xs vs
 | .iset f n,a=>H a=some (.set f n)
 | .dct kvs,a=>∃vs,H a=some (.dK ((kvs.map (·.1)).zip vs))/\RDs ρ H (kvs.map (·.2)) vs
 | .fdct kvs,a=>∃o vs,H a=some (.frz o (.dK ((kvs.map (·.1)).zip vs)))/\RDs ρ H (kvs.map (·.2)) vs
 | .tdct kvs,a=>∃vs,H a=some (.dT ((kvs.map (·.1)).zip vs))/\RDs ρ H (kvs.map (·.2)) vs
 | .ftdct kvs,a=>∃o vs,H a=some (.frz o (.dT ((kvs.map (·.1)).zip vs)))/\RDs ρ H (kvs.map (·.2)) vs
 | .tset ks,a=>∃xs:List (List Int × Addr),ks=xs.map (·.1)/\H a=some (.ext (TS.TSet a xs))/\∀p∈xs,H p.2=some (.tup (p.1.map V.int))
 | .fnc x,a=>PySem.W.nsIn K mainGlobals x=some (some (.ref a))/\∃o,K.lookup a=some o
 | .exc c,a=>∃C,PySem.W.nsIn K mainGlobals c=some (some (.ref C))/\H a=some (.ext (λh=>∃o,h.get? a=some o/\o.cls=.ref C))
 | .tab x,a=>∃c ps,PySem.W.tabIn K x=some (c,a)/\PySem.W.codeHdIn K c a=true/\H a=some (.tbl ps)/\TabOk H (zyf x) ps
 | .lam g caps,a=>∃cs pm c ctv,H a=some (.frz (PySem.W.kla_obj "<lambda>" g.qual g.params g.body g.scope cs pm c ctv) hTr)/\CodeF H g.qual c/\CellsR ρ H cs caps
 | .dead,a=>∃o fd,H a=some (.frz o hTr)/\o.data=.func fd
structure Sim (K:QFg) (ρ:List Addr) (S:Sto) (H:Hp):Prop where
 len:ρ.length=S.length
 nd:∀(i j:Nat) (a:Addr) (o1 o2:Ob),ρ[i]? = some a->ρ[j]? = some a->S[i]? = some o1->S[j]? = some o2->o1.mut=true->o2.mut=true->i=j
 at':∀(n:Nat) (a:Addr) (o:Ob),ρ[n]? = some a->S[n]? = some o->ObR K ρ H o a
section
variable {K:QFg}{ρ ρ':List Addr}{H:Hp}{S:Sto}
theorem zbh {o:HO}(hp:H p=none):Ext ρ H ρ (upd H p o) :=
 ⟨⟨λ_ _ h=>h,λa vs h=>by rw [zap (zbc h hp)];exact h,λa o vs h=>by rw [zap (zbc h hp)];exact h⟩,λa vs h n=>⟨by rw [zap (zbc h hp)];exact h,n⟩⟩
theorem zgr {o:HO}(hp:H p=some (.lst ys)):Ext0 ρ H ρ (upd H p o) :=
 ⟨λ_ _ h=>h,λa vs h=>by rw [zap (zc8 h hp (by intro z;cases z))];exact h,λa o vs h=>by rw [zap (zc8 h hp (by intro z;cases z))];exact h⟩
def zd3 (u:HO):Prop:=(∀vs,u≠.tup vs)/\∀o v,u≠.frz o v
theorem zot (ys:List V):zd3 (.lst ys):=⟨λ_ z=>(by cases z),λ_ _ z=>(by cases z)⟩
theorem zcl {o u:HO}(hp:H p=some u) (hu:zd3 u):Ext0 ρ H ρ (upd H p o) :=
 ⟨λ_ _ h=>h,λa vs h=>by rw [zap (zc8 h hp (λz=>hu.1 vs z.symm))];exact h,λa o vs h=>by rw [zap (zc8 h hp (λz=>hu.2 o vs z.symm))];exact h⟩
theorem zk5 {o u:HO}{n:Nat}(hn:ρ[n]? = some p) (hp:H p=some u) (hu:zd3 u):Ext ρ H ρ (upd H p o) :=
 ⟨zcl hp hu,λa vs h hm=>⟨by rw [zap (λz=>hm n (by rw [z];exact hn))];exact h,hm⟩⟩
theorem zfd {o:HO}{n:Nat}(hn:ρ[n]? = some p) (hp:H p=some (.lst ys)):Ext ρ H ρ (upd H p o) :=
 ⟨zgr hp,λa vs h hm=>⟨by rw [zap (λz=>hm n (by rw [z];exact hn))];exact h,hm⟩⟩
theorem ObR.laid {o:Ob}{u:HO}(h:ObR K ρ H o a) (hp:H p=none):ObR K ρ (upd H p u) o a:=by
 cases o with
 | lst xs =>
  obtain ⟨vs,e,r⟩:=h
  exact ⟨vs,by rw [zap (zbc e hp)];exact e,r.mono (zbh hp)⟩
 | flst xs =>
  obtain ⟨vs,e,r⟩:=h
  refine ⟨vs,?_,r.mono (zbh hp)⟩
  rcases e with ⟨o,e⟩|e
  ·exact .inl ⟨o,by rw [zap (zbc e hp)];exact e⟩
  ·exact .inr e
 | iset f n =>
  show upd H p u a=some (.set f n)
  have e:H a=some (.set f n):=h
  rw [zap (zbc e hp)];exact e
 | dct kvs =>
  obtain ⟨vs,e,r⟩:=h
  exact ⟨vs,by rw [zap (zbc e hp)];exact e,r.mono (zbh hp)⟩
 | fdct kvs =>
  obtain ⟨o,vs,e,r⟩:=h
  exact ⟨o,vs,by rw [zap (zbc e hp)];exact e,r.mono (zbh hp)⟩
 | tdct kvs =>
  obtain ⟨vs,e,r⟩:=h
  exact ⟨vs,by rw [zap (zbc e hp)];exact e,r.mono (zbh hp)⟩
 | ftdct kvs =>
  obtain ⟨o,vs,e,r⟩:=h
  exact ⟨o,vs,by rw [zap (zbc e hp)];exact e,r.mono (zbh hp)⟩
 | tset ks =>
  obtain ⟨xs,e0,e,r⟩:=h
  exact ⟨xs,e0,by rw [zap (zbc e hp)];exact e,λp hq=>by rw [zap (zbc (r p hq) hp)];exact r p hq⟩
 | fnc x=>exact h
 | exc c =>
  obtain ⟨C,hc,e⟩:=h
  exact ⟨C,hc,by rw [zap (zbc e hp)];exact e⟩
 | tab x =>
  obtain ⟨c,ps,h1,h2,e,t⟩:=h
  exact ⟨c,ps,h1,h2,by rw [zap (zbc e hp)];exact e,t.mono (zbh (ρ:=ρ) hp).frz⟩
 | lam g caps =>
  obtain ⟨cs,pm,c,ctv,e,k,r⟩:=h
  exact ⟨cs,pm,c,ctv,(zbh (ρ:=ρ) hp).frz _ _ _ e,k.mono (zbh (ρ:=ρ) hp).frz,r.mono (zbh hp).toExt0⟩
 | dead =>
  obtain ⟨o,fd,e,d⟩:=h
  exact ⟨o,fd,(zbh (ρ:=ρ) hp).frz _ _ _ e,d⟩
theorem ObR.writtenG {o:Ob}{u u0:HO}(h:ObR K ρ H o a) (hp:H p=some u0) (hu:zd3 u0) (hn:o.mut=true->a≠p):ObR K ρ (upd H p u) o a:=by
 cases o with
 | lst xs =>
  obtain ⟨vs,e,r⟩:=h
  exact ⟨vs,by rw [zap (hn rfl)];exact e,r.mono0 (zcl hp hu)⟩
 | flst xs =>
  obtain ⟨vs,e,r⟩:=h
  refine ⟨vs,?_,r.mono0 (zcl hp hu)⟩
  rcases e with ⟨o,e⟩|e
  ·exact .inl ⟨o,by rw [zap (zc8 e hp (λz=>hu.2 _ _ z.symm))];exact e⟩
  ·exact .inr e
 | iset f n =>
  show upd H p u a=some (.set f n)
  rw [zap (hn rfl)];exact h
 | dct kvs =>
  obtain ⟨vs,e,r⟩:=h
  exact ⟨vs,by rw [zap (hn rfl)];exact e,r.mono0 (zcl hp hu)⟩
 | tdct kvs =>
  obtain ⟨vs,e,r⟩:=h
  exact ⟨vs,by rw [zap (hn rfl)];exact e,r.mono0 (zcl hp hu)⟩
 | fdct kvs =>
  obtain ⟨o,vs,e,r⟩:=h
  exact ⟨o,vs,by rw [zap (hn rfl)];exact e,r.mono0 (zcl hp hu)⟩
 | ftdct kvs =>
  obtain ⟨o,vs,e,r⟩:=h
  exact ⟨o,vs,by rw [zap (hn rfl)];exact e,r.mono0 (zcl hp hu)⟩
 | tset ks =>
  obtain ⟨xs,e0,e,r⟩:=h
  exact ⟨xs,e0,by rw [zap (hn rfl)];exact e,λp hq=>(zcl (ρ:=ρ) hp hu).tup _ _ (r p hq)⟩
 | fnc x=>exact h
 | exc c =>
  obtain ⟨C,hc,e⟩:=h
  exact ⟨C,hc,by rw [zap (hn rfl)];exact e⟩
 | tab x =>
  obtain ⟨c,ps,h1,h2,e,t⟩:=h
  exact ⟨c,ps,h1,h2,by rw [zap (hn rfl)];exact e,t.mono (zcl (ρ:=ρ) hp hu).frz⟩
 | lam g caps =>
  obtain ⟨cs,pm,c,ctv,e,k,r⟩:=h
  exact ⟨cs,pm,c,ctv,(zcl (ρ:=ρ) hp hu).frz _ _ _ e,k.mono (zcl (ρ:=ρ) hp hu).frz,r.mono (zcl hp hu)⟩
 | dead =>
  obtain ⟨o,fd,e,d⟩:=h
  exact ⟨o,fd,(zcl (ρ:=ρ) hp hu).frz _ _ _ e,d⟩
theorem ObR.written {o:Ob}{u:HO}(h:ObR K ρ H o a) (hp:H p=some (.lst ys)) (hn:o.mut=true->a≠p):ObR K ρ (upd H p u) o a:=h.writtenG hp (zot ys) hn
theorem ObR.more {o:Ob}(h:ObR K ρ H o a) (e:Ext0 ρ H ρ' H):ObR K ρ' H o a:=by
 cases o with
 | lst xs=>obtain ⟨vs,e1,r⟩:=h;exact ⟨vs,e1,r.mono0 e⟩
 | flst xs=>obtain ⟨vs,e1,r⟩:=h;exact ⟨vs,e1,r.mono0 e⟩
 | iset f n=>exact h
 | dct kvs=>obtain ⟨vs,e1,r⟩:=h;exact ⟨vs,e1,r.mono0 e⟩
 | tdct kvs=>obtain ⟨vs,e1,r⟩:=h;exact ⟨vs,e1,r.mono0 e⟩
 | fdct kvs=>obtain ⟨o,vs,e1,r⟩:=h;exact ⟨o,vs,e1,r.mono0 e⟩
 | ftdct kvs=>obtain ⟨o,vs,e1,r⟩:=h;exact ⟨o,vs,e1,r.mono0 e⟩
 | tset ks=>exact h
 | fnc x=>exact h
 | exc c=>exact h
 | tab x=>exact h
 | lam g caps=>obtain ⟨cs,pm,c,ctv,e1,k,r⟩:=h;exact ⟨cs,pm,c,ctv,e1,k,r.mono e⟩
 | dead=>exact h
theorem Sim.laid (s:Sim K ρ S H) {u:HO}(hp:H p=none):Sim K ρ S (upd H p u) :=
 ⟨s.len,s.nd,λn a o h1 h2=>(s.at' n a o h1 h2).laid hp⟩
theorem Sim.lst {n:Nat}(s:Sim K ρ S H) (h:S[n]? = some (.lst xs)):∃a vs,ρ[n]? = some a/\H a=some (.lst vs)/\RDs ρ H xs vs:=by
 have hl:n<ρ.length:=by rw [s.len];exact (qme h).1
 obtain ⟨vs,e,r⟩:=s.at' n _ _ (qge hl) h
 exact ⟨_,vs,qge hl,e,r⟩
noncomputable def lstOf (S:Sto) (n:Nat):Option (List D):=match S[n]? with
 | some (.lst xs)=>some xs
 | some (.flst xs)=>some xs
 | _=>none
theorem Sim.lstOf {n:Nat}(s:Sim K ρ S H) (h:L3.lstOf S n=some xs):∃a vs,ρ[n]? = some a/\SqL K H a vs/\RDs ρ H xs vs:=by
 unfold L3.lstOf at h
 cases e:S[n]? with
 | none=>rw [e] at h;cases h
 | some o =>
  have hl:n<ρ.length:=by rw [s.len];exact (qme e).1
  have q:=s.at' n _ _ (qge hl) e
  rw [e] at h
  cases o with
  | lst ys =>
   cases h
   obtain ⟨vs,e1,r⟩:=q
   exact ⟨_,vs,qge hl,.inl (.inl e1),r⟩
  | flst ys =>
   cases h
   obtain ⟨vs,e1,r⟩:=q
   exact ⟨_,vs,qge hl,e1.sq,r⟩
  | iset f n=>cases h
  | dct kvs=>cases h
  | fdct kvs=>cases h
  | ftdct kvs=>cases h
  | tset ks=>cases h
  | fnc x=>cases h
  | tdct kvs=>cases h
  | exc c=>cases h
  | tab x=>cases h
  | lam g caps=>cases h
  | dead=>cases h
theorem Sim.setG {n:Nat}{o0 o1:Ob}{u0 u1:HO}(s:Sim K ρ S H) (ha:ρ[n]? = some a) (hS:S[n]? = some o0) (hm0:o0.mut=true) (hH:H a=some u0) (hu:zd3 u0) (r:ObR K ρ (upd H a u1) o1 a):Sim K ρ (S.set n o1) (upd H a u1):=by
 have hl:n<S.length:=(qme hS).1
 have key:∀(m:Nat) (w:Ob),w.mut=true->(S.set n o1)[m]? = some w->∃w',S[m]? = some w'/\w'.mut=true:=λm w hw h=>by
  by_cases hmn:n=m
  ·subst hmn;exact ⟨_,hS,hm0⟩
  ·rw [List.getElem?_set_ne hmn] at h;exact ⟨_,h,hw⟩
 refine ⟨by rw [List.length_set];exact s.len,λi j b x1 x2 h1 h2 h3 h4 m1 m2=>?_,λm b o h1 h2=>?_⟩
 ·obtain ⟨_,h3,q3⟩:=key i x1 m1 h3
  obtain ⟨_,h4,q4⟩:=key j x2 m2 h4
  exact s.nd i j b _ _ h1 h2 h3 h4 q3 q4
 by_cases hmn:n=m
 ·subst hmn
  rw [ha] at h1;cases h1
  rw [List.getElem?_set_self hl] at h2
  cases h2
  exact r
 ·rw [List.getElem?_set_ne hmn] at h2
  exact (s.at' m b o h1 h2).writtenG hH hu (λe z=>hmn (s.nd n m a _ _ ha (by rw [h1,z]) hS h2 hm0 e))
theorem Sim.set {n:Nat}(s:Sim K ρ S H) (ha:ρ[n]? = some a) (hS:S[n]? = some (.lst zs)) (hH:H a=some (.lst ys)) (r:RDs ρ H xs vs):Sim K ρ (S.set n (.lst xs)) (upd H a (.lst vs)) :=
 s.setG ha hS rfl hH (zot ys) ⟨vs,zbw,r.mono0 (zgr hH)⟩
theorem ext0_push:Ext0 ρ H (ρ++[a]) H :=
 ⟨λn b h=>by rw [List.getElem?_append_left (qme h).1];exact h,λ_ _ h=>h,λ_ _ _ h=>h⟩
theorem zbk {α:Type}{l:List α}{a b:α}{n:Nat}(h:(l++[a])[n]? = some b):l[n]? = some b\/(n=l.length/\b=a):=by
 by_cases hl:n<l.length
 ·rw [List.getElem?_append_left hl] at h;exact .inl h
 ·rw [List.getElem?_append_right (by lia)] at h
  have:n-l.length=0:=by
   have:=(qme h).1
   simp at this;lia
  rw [this] at h;simp at h
  exact .inr ⟨by lia,h.symm⟩
theorem zou {a:Addr}{vs:List V}(ha:H a=none):Ext ρ H (ρ++[a]) (upd H a (.lst vs)) :=
 ⟨⟨ext0_push.pre (H:=H),λb us h=>by rw [zap (zbc h ha)];exact h,λb o us h=>by rw [zap (zbc h ha)];exact h⟩,λb us h n=>⟨by rw [zap (zbc h ha)];exact h,λi hi=>by
  rcases zbk hi with hi|⟨_,e⟩
  ·exact n i hi
  ·rw [e,ha] at h;cases h⟩⟩
theorem zyg {a:Addr}{u:HO}(ha:H a=none):Ext ρ H (ρ++[a]) (upd H a u) :=
 ⟨⟨ext0_push.pre (H:=H),λb us h=>by rw [zap (zbc h ha)];exact h,λb o us h=>by rw [zap (zbc h ha)];exact h⟩,λb us h n=>⟨by rw [zap (zbc h ha)];exact h,λi hi=>by
  rcases zbk hi with hi|⟨_,e⟩
  ·exact n i hi
  ·rw [e,ha] at h;cases h⟩⟩
theorem Sim.pushG {a:Addr}{o1:Ob}{u:HO}(s:Sim K ρ S H) (ha:H a=none) (r:ObR K (ρ++[a]) (upd H a u) o1 a):Sim K (ρ++[a]) (S++[o1]) (upd H a u):=by
 have no:∀(n:Nat) (o:Ob),o.mut=true->ρ[n]? = some a->S[n]? = some o->False:=λn o hm h1 h2=>by
  have q:=s.at' n a _ h1 h2
  cases o with
  | lst xs=>obtain ⟨vs,e,_⟩:=q;rw [ha] at e;cases e
  | flst xs=>cases hm
  | iset f n=>have q:H a=_:=q;rw [ha] at q;cases q
  | dct kvs=>obtain ⟨vs,e,_⟩:=q;rw [ha] at e;cases e
  | tdct kvs=>obtain ⟨vs,e,_⟩:=q;rw [ha] at e;cases e
  | fdct kvs=>obtain ⟨o,vs,e,_⟩:=q;rw [ha] at e;cases e
  | ftdct kvs=>obtain ⟨o,vs,e,_⟩:=q;rw [ha] at e;cases e
  | tset ks=>obtain ⟨xs,_,e,_⟩:=q;rw [ha] at e;cases e
  | fnc x=>cases hm
  | exc c=>obtain ⟨C,_,e⟩:=q;rw [ha] at e;cases e
  | tab x=>obtain ⟨_,_,_,_,e,_⟩:=q;rw [ha] at e;cases e
  | lam g caps=>cases hm
  | dead=>cases hm
 refine ⟨by simp [s.len],λi j b x1 x2 h1 h2 h3 h4 m1 m2=>?_,λn b o h1 h2=>?_⟩
 ·rcases zbk h3 with h3|⟨e3,_⟩ <;> rcases zbk h4 with h4|⟨e4,_⟩
  ·have l1:=(qme h3).1
   have l2:=(qme h4).1
   rcases zbk h1 with h1|⟨e1,f1⟩ <;> rcases zbk h2 with h2|⟨e2,f2⟩
   ·exact s.nd i j b _ _ h1 h2 h3 h4 m1 m2
   ·have:=s.len;lia
   ·have:=s.len;lia
   ·have:=s.len;lia
  ·have l1:=(qme h3).1
   rcases zbk h2 with h2|⟨e2,f2⟩
   ·have:=(qme h2).1;have:=s.len;lia
   ·subst f2
    rcases zbk h1 with h1|⟨e1,_⟩
    ·exact (no i _ m1 h1 h3).elim
    ·have:=s.len;lia
  ·have l1:=(qme h4).1
   rcases zbk h1 with h1|⟨e2,f2⟩
   ·have:=(qme h1).1;have:=s.len;lia
   ·subst f2
    rcases zbk h2 with h2|⟨e1,_⟩
    ·exact (no j _ m2 h2 h4).elim
    ·have:=s.len;lia
  ·lia
 ·rcases zbk h2 with h2|⟨e2,f2⟩
  ·rcases zbk h1 with h1|⟨e1,f1⟩
   ·exact ((s.at' n b o h1 h2).laid ha).more ext0_push
   ·have:=(qme h2).1;have:=s.len;lia
  ·rcases zbk h1 with h1|⟨e1,f1⟩
   ·have:=(qme h1).1;have:=s.len;lia
   ·subst f1 f2
    exact r
theorem Sim.push (s:Sim K ρ S H) (ha:H a=none) (r:RDs ρ H xs vs):Sim K (ρ++[a]) (S++[.lst xs]) (upd H a (.lst vs)) :=
 s.pushG ha ⟨vs,zbw,r.mono (zou ha)⟩
theorem zfe {α:Type}(l:List α) (a:α):(l++[a])[l.length]? = some a:=by
 rw [List.getElem?_append_right (qlr _)];simp
end
structure RO (ρ:List Addr) (H:Hp) (l:Lo) (σ:St):Prop where
 len:l.length=σ.length
 get:∀(i:Nat) (d:D),l[i]? = some (some d)->∃v,σ[i]? = some (some v)/\RD ρ H d v
theorem RO.mono {σ:St}(r:RO ρ H l σ) (e:Ext ρ H ρ' H'):RO ρ' H' l σ :=
 ⟨r.len,λi d h=>let ⟨v,h1,h2⟩:=r.get i d h;⟨v,h1,h2.mono e⟩⟩
theorem RO.set {σ:St}(r:RO ρ H l σ) (i:Nat) (h:RD ρ H d v):RO ρ H (l.set i (some d)) (σ.set i (some v)):=by
 refine ⟨by simp [r.len],λj x hj=>?_⟩
 by_cases hij:i=j
 ·subst hij
  have hl:i<l.length:=by have:=(qme hj).1;simpa using this
  rw [List.getElem?_set_self hl] at hj
  cases hj
  exact ⟨v,List.getElem?_set_self (by rw [<-r.len];exact hl),h⟩
 ·rw [List.getElem?_set_ne hij] at hj
  rw [List.getElem?_set_ne hij]
  exact r.get j x hj
abbrev EM:=Lo->Sto->Option (D × Sto)
abbrev TM:=Lo->Sto->Option (Bool × Sto)
abbrev AM:=Lo->Sto->Option (List D × Sto)
abbrev FM:=List D->Sto->Option (D × Sto)
inductive Fl where
 | nx|bk|ct|rt (d:D)
abbrev SM:=Lo->Sto->Option (Fl × Lo × Sto)
abbrev GM:=D->Lo->Sto->Option (Lo × Sto)
abbrev GsM:=List D->Lo->Sto->Option (Lo × Sto)
def Pv (K:QFg) (ρ:List Addr) (H:Hp) (v:D) (S:Sto) (Q:VK):Prop:=∀ρ' H' v',Ext ρ H ρ' H'->Sim K ρ' S H'->RD ρ' H' v v'->Q v' H'
theorem Pv.ext {K:QFg}{ρ ρ1:List Addr}{H H1:Hp}{v:D}{S:Sto}{Q:VK}(p:Pv K ρ H v S Q) (e:Ext ρ H ρ1 H1):Pv K ρ1 H1 v S Q:=λρ' H' v' e' s r=>p ρ' H' v' (e.trans e') s r
inductive te (K:QFg) (m:EM) (σ:St) (H:Hp) (Q:VK):Prop
 | mk (ρ:_) (l:_) (S:_) (v:_) (S':_) (_:Sim K ρ S H) (_:RO ρ H l σ) (_:m l S=some (v,S')) (_:Pv K ρ H v S' Q)
inductive tt (K:QFg) (m:TM) (σ:St) (H:Hp) (Q:Bool->Hp->Prop):Prop
 | mk (ρ:_) (l:_) (S:_) (v:_) (S':_) (_:Sim K ρ S H) (_:RO ρ H l σ) (_:m l S=some (v,S')) (_:∀ρ' H',Ext ρ H ρ' H'->Sim K ρ' S' H'->Q v H')
inductive ta (K:QFg) (m:AM) (σ:St) (H:Hp) (Q:List V->Hp->Prop):Prop
 | mk (ρ:_) (l:_) (S:_) (v:_) (S':_) (_:Sim K ρ S H) (_:RO ρ H l σ) (_:m l S=some (v,S')) (_:∀ρ' H' vs,Ext ρ H ρ' H'->Sim K ρ' S' H'->RDs ρ' H' v vs->Q vs H')
def zep (ρ:List Addr) (H:Hp) (E:Ends) (σ:St):Fl->Prop
 | .nx=>E.nx σ H
 | .bk=>E.bk σ H
 | .ct=>E.ct σ H
 | .rt d=>∀v,RD ρ H d v->E.rt v H
inductive ts (K:QFg) (m:SM) (E:Ends) (σ:St) (H:Hp):Prop
 | mk (ρ:_) (l:_) (S:_) (f:_) (l':_) (S':_) (_:Sim K ρ S H) (_:RO ρ H l σ) (_:m l S=some (f,l',S')) (_:∀ρ' H' σ',Ext ρ H ρ' H'->Sim K ρ' S' H'->RO ρ' H' l' σ'->zep ρ' H' E σ' f)
inductive tg (K:QFg) (g:GM) (v:V) (σ:St) (H:Hp) (Q:St->Hp->Prop):Prop
 | mk (ρ:_) (l:_) (S:_) (d:_) (l':_) (S':_) (_:Sim K ρ S H) (_:RO ρ H l σ) (_:RD ρ H d v) (_:g d l S=some (l',S')) (_:∀ρ' H' σ',Ext ρ H ρ' H'->Sim K ρ' S' H'->RO ρ' H' l' σ'->Q σ' H')
inductive tgs (K:QFg) (g:GsM) (vs:List V) (σ:St) (H:Hp) (Q:St->Hp->Prop):Prop
 | mk (ρ:_) (l:_) (S:_) (ds:_) (l':_) (S':_) (_:Sim K ρ S H) (_:RO ρ H l σ) (_:RDs ρ H ds vs) (_:g ds l S=some (l',S')) (_:∀ρ' H' σ',Ext ρ H ρ' H'->Sim K ρ' S' H'->RO ρ' H' l' σ'->Q σ' H')
def PE3 (X:Cx) (e:Expr) (m:EM):Prop:=PE X e (te X.K m)
def PT3 (X:Cx) (e:Expr) (m:TM):Prop:=PT X e (tt X.K m)
def PW3 (X:Cx) (e:Expr) (m:TM):Prop:=PW X e (tt X.K m)
def PA3 (X:Cx) (es:List Expr) (m:AM):Prop:=PA X es (ta X.K m)
def PS3 (X:Cx) (st:Stmt) (m:SM):Prop:=PS X st (ts X.K m)
def zc0 (X:Cx) (st:List Stmt) (m:SM):Prop:=PSs X st (ts X.K m)
def PG3 (X:Cx) (tg':Expr) (m:GM):Prop:=PG X tg' (tg X.K m)
def zi4 (X:Cx) (ts':List Expr) (m:GsM):Prop:=PGs X ts' (tgs X.K m)
theorem PE.imp {t u:TE}(h:PE X e t) (i:∀σ H Q,u σ H Q->t σ H Q):PE X e u:=λpins s σ H Q I q=>h pins s σ H Q I (i _ _ _ q)
theorem PT.imp {t u:TT}(h:PT X e t) (i:∀σ H Q,u σ H Q->t σ H Q):PT X e u:=λpins s σ H Q I q=>h pins s σ H Q I (i _ _ _ q)
theorem PW.imp {t u:TT}(h:PW X e t) (i:∀σ H Q,u σ H Q->t σ H Q):PW X e u:=λwh pins s σ H Q I q=>h wh pins s σ H Q I (i _ _ _ q)
theorem PA.imp {t u:TA}(h:PA X e t) (i:∀σ H Q,u σ H Q->t σ H Q):PA X e u:=λpos pins s σ H Q I q=>h pos pins s σ H Q I (i _ _ _ q)
theorem PS.imp {e:Stmt}{t u:TS}(h:PS X e t) (i:∀E σ H,u E σ H->t E σ H):PS X e u:=λpins s σ H Q I q=>h pins s σ H Q I (i _ _ _ q)
theorem PSs.imp {e:List Stmt}{t u:TS}(h:PSs X e t) (i:∀E σ H,u E σ H->t E σ H):PSs X e u:=λpins s σ H Q I q=>h pins s σ H Q I (i _ _ _ q)
theorem PG.imp {t u:TG}(h:PG X e t) (i:∀v σ H Q,u v σ H Q->t v σ H Q):PG X e u:=λpins s σ H v w Q I r q=>h pins s σ H v w Q I r (i _ _ _ _ q)
theorem PGs.imp {t u:TGs}(h:PGs X e t) (i:∀v σ H Q,u v σ H Q->t v σ H Q):PGs X e u:=λpins s σ H v w Q I r q=>h pins s σ H v w Q I r (i _ _ _ _ q)
inductive Bnd {α β:Type} (o:Option α) (f:α->Option β) (b:β):Prop
 | mk (a:α) (_:o=some a) (_:f a=some b)
theorem bnd {α β:Type}{o:Option α}{f:α->Option β}{b:β}(h:o.bind f=some b):Bnd o f b:=by
 obtain ⟨a,h1,h2⟩:=Option.bind_eq_some_iff.mp h
 exact ⟨a,h1,h2⟩
noncomputable def zaa (i:Nat):EM:=λl S=>match l[i]? with
 | some (some d)=>some (d,S)
 | _=>none
noncomputable def eC (d:D):EM:=λ_ S=>some (d,S)
noncomputable def eOp (f:D->D->Sto->Option (D × Sto)) (a b:EM):EM:=λl S=>(a l S).bind λp=>(b l p.2).bind λq=>f p.1 q.1 q.2
noncomputable def eUn (f:D->Sto->Option (D × Sto)) (a:EM):EM:=λl S=>(a l S).bind λp=>f p.1 p.2
noncomputable def zae:AM:=λ_ S=>some ([],S)
noncomputable def zac (a:EM) (r:AM):AM:=λl S=>(a l S).bind λp=>(r l p.2).bind λq=>some (p.1 :: q.1,q.2)
noncomputable def zaf (f:FM) (as:AM):EM:=λl S=>(as l S).bind λp=>f p.1 p.2
noncomputable def tE (a:EM):TM:=λl S=>(a l S).bind λp=>match p.1 with
 | .bl b=>some (b,p.2)
 | _=>none
noncomputable def zcm (a b:TM):TM:=λl S=>(a l S).bind λp=>if p.1=true then b l p.2 else some (false,p.2)
noncomputable def zdl (a b:TM):TM:=λl S=>(a l S).bind λp=>if p.1=true then some (true,p.2) else b l p.2
noncomputable def zdb (a:TM):TM:=λl S=>(a l S).bind λp=>some (!p.1,p.2)
noncomputable def zd9 (a b:EM):EM:=λl S=>(a l S).bind λp=>match p.1 with
 | .bl true=>b l p.2
 | .bl false=>some (.bl false,p.2)
 | _=>none
noncomputable def zho (a:EM):EM:=λl S=>(a l S).bind λp=>match p.1 with
 | .bl b=>some (.bl (!b),p.2)
 | _=>none
def Op3 (K:QFg) (f:D->D->Sto->Option (D × Sto)) (r:R2):Prop :=
 ∀ρ S H x y x' y' v S' Q,Sim K ρ S H->RD ρ H x x'->RD ρ H y y'->f x y S=some (v,S')->Pv K ρ H v S' Q->r x' y' H Q
def Fn3 (K:QFg) (f:FM) (r:List V->Hp->VK->Prop):Prop :=
 ∀ρ S H xs vs v S' Q,Sim K ρ S H->RDs ρ H xs vs->f xs S=some (v,S')->Pv K ρ H v S' Q->r vs H Q
def Mt3 (K:QFg) (f:D->List D->Sto->Option (D × Sto)) (r:V->List V->Hp->VK->Prop):Prop :=
 ∀ρ S H x x' xs vs v S' Q,Sim K ρ S H->RD ρ H x x'->RDs ρ H xs vs->f x xs S=some (v,S')->Pv K ρ H v S' Q->r x' vs H Q
theorem zi5 {K:QFg}{f:D->D->Sto->Option (D × Sto)}{r:R2}(h:Op3 K f r) {a b:EM}(σ:St) (H:Hp) (Q:VK) (q:te K (eOp f a b) σ H Q):tOp r (te K a) (te K b) σ H Q:=by
 obtain ⟨ρ,l,S,v,S',sim,ro,hm,p⟩:=q
 obtain ⟨⟨x,S1⟩,h1,hm⟩:=bnd hm
 obtain ⟨⟨y,S2⟩,h2,hm⟩:=bnd hm
 exact ⟨ρ,l,S,x,S1,sim,ro,h1,λρ1 H1 x' e1 s1 r1=>⟨ρ1,l,S1,y,S2,s1,ro.mono e1,h2,λρ2 H2 y' e2 s2 r2=>h ρ2 S2 H2 x y x' y' v S' Q s2 (r1.mono e2) r2 hm (p.ext (e1.trans e2))⟩⟩
section
variable {X:Cx}{a b c:Expr}{es:List Expr}{ma mb:EM}{mA:AM}{pos:Pos}
theorem zab (i:Nat) (hN:X.N[i]? = some x:=by rfl) (hv:Vis X.env.scope x:=by first|exact Or.inl rfl|exact Or.inr (Or.inl rfl)|exact Or.inr (Or.inr rfl)) (hd:(x == ("__debug__":Str))=false:=by decide)
  (hcd:(x == ("__classdict__":Str))=false:=by decide):PE3 X (.Name x pos) (zaa i) :=
 PE.imp (zup hN hv hd hcd) λσ H Q hx1_=>by
  obtain ⟨ρ,l,S,v,S',sim,ro,hm,p⟩:=hx1_
  unfold zaa at hm
  split at hm
  ·rename_i d e
   cases hm
   obtain ⟨w,h1,h2⟩:=ro.get i _ e
   exact ⟨w,h1,p ρ H w (Ext.refl ..) sim h2⟩
  ·cases hm
theorem zk6 {K:QFg}{d:D}{v:V}(h:∀ρ H,RD ρ H d v) (σ:St) (H:Hp) (Q:VK) (q:te K (eC d) σ H Q):tC v σ H Q:=by
 obtain ⟨ρ,l,S,w,S',sim,ro,hm,p⟩:=q
 cases hm
 exact p ρ H v (Ext.refl ..) sim (h ρ H)
theorem zaj {i j}:PE3 X (.Constant (.int i) j pos) (eC (.int i)):=PE.imp znm (zk6 λ_ _=>.int i)
theorem zb4 {i j}:PE3 X (.Constant (.bool i) j pos) (eC (.bl i)):=PE.imp zuq (zk6 λ_ _=>.bl i)
theorem zdm {j}:PE3 X (.Constant .none j pos) (eC .non):=PE.imp zur (zk6 λ_ _=>.non)
theorem zhp {op:Operator}{f:D->D->Sto->Option (D × Sto)}{r:R2}(ho:OpR X (binaryOp op) r) (h3:Op3 X.K f r) (ha:PE3 X a ma) (hb:PE3 X b mb):PE3 X (.BinOp a op b pos) (eOp f ma mb):=PE.imp (zv6 ho ha hb) (zi5 h3)
theorem zhq {op:CmpOp}{f:D->D->Sto->Option (D × Sto)}{r:R2}(ho:OpR X (compareOp op) r) (h3:Op3 X.K f r) (ha:PE3 X a ma) (hb:PE3 X b mb) (hm:behindInMarks op b=false):PE3 X (.Compare a [op] [b] pos) (eOp f ma mb):=PE.imp (zwh ho ha hb hm) (zi5 h3)
theorem zov {K:QFg}{m:EM}(σ:St) (H:Hp) (Q:Bool->Hp->Prop) (q:tt K (tE m) σ H Q):te K m σ H λx H'=>∃k,x=.bl k/\Q k H':=by
 obtain ⟨ρ,l,S,v,S',sim,ro,hm,p⟩:=q
 obtain ⟨⟨x,S1⟩,h1,hm⟩:=bnd hm
 refine ⟨ρ,l,S,x,S1,sim,ro,h1,λρ' H' v' e s r=>?_⟩
 cases r with
 | bl k=>cases hm;exact ⟨_,rfl,p ρ' H' e s⟩
 | _=>cases hm
theorem zdn {op:CmpOp}{f:D->D->Sto->Option (D × Sto)}{r:R2}(ho:OpR X (compareOp op) r) (h3:Op3 X.K f r) (ha:PE3 X a ma) (hb:PE3 X b mb) (hm:behindInMarks op b=false):PT3 X (.Compare a [op] [b] pos) (tE (eOp f ma mb)) :=
 PT.imp (zwj ho ha hb hm) λσ H Q q=>zi5 h3 σ H _ (zov σ H Q q)
theorem zc1 (h:PE3 X a m) (he:∀whole,isTrue a X.env whole=(do let v <-whole;standAt a.pos;holding [v] (truthy v)):=by intro _;rfl):PT3 X a (tE m) :=
 PT.imp (zuu h he) λσ H Q q=>zov σ H Q q
variable {t u:TM}{rest:List Expr}
theorem zyh {K:QFg}(σ:St) (H:Hp) (Q:Bool->Hp->Prop) (q:tt K (zcm t u) σ H Q):L2.tAnd (tt K t) (tt K u) σ H Q:=by
 obtain ⟨ρ,l,S,v,S',sim,ro,hm,p⟩:=q
 obtain ⟨⟨x,S1⟩,h1,hm⟩:=bnd hm
 refine ⟨ρ,l,S,x,S1,sim,ro,h1,λρ1 H1 e1 s1=>?_⟩
 cases x with
 | true=>exact zd2 ⟨ρ1,l,S1,v,S',s1,ro.mono e1,hm,λρ2 H2 e2 s2=>p ρ2 H2 (e1.trans e2) s2⟩
 | false=>cases hm;exact zd1 (p ρ1 H1 e1 s1)
theorem zyi {K:QFg}(σ:St) (H:Hp) (Q:Bool->Hp->Prop) (q:tt K (zdl t u) σ H Q):L2.tOr (tt K t) (tt K u) σ H Q:=by
 obtain ⟨ρ,l,S,v,S',sim,ro,hm,p⟩:=q
 obtain ⟨⟨x,S1⟩,h1,hm⟩:=bnd hm
 refine ⟨ρ,l,S,x,S1,sim,ro,h1,λρ1 H1 e1 s1=>?_⟩
 cases x with
 | false=>exact zd1 ⟨ρ1,l,S1,v,S',s1,ro.mono e1,hm,λρ2 H2 e2 s2=>p ρ2 H2 (e1.trans e2) s2⟩
 | true=>cases hm;exact zd2 (p ρ1 H1 e1 s1)
theorem zgs (ha:PT3 X a t):PW3 X (.BoolOp .And [a] pos) t:=zuw ha
theorem zhr (ha:PT3 X a t):PW3 X (.BoolOp .Or [a] pos) t:=zux ha
theorem zff (ha:PT3 X a t) (hb:PW3 X (.BoolOp .And (b :: rest) pos) u):PW3 X (.BoolOp .And (a :: b :: rest) pos) (zcm t u):=PW.imp (zuy ha hb) zyh
theorem zgt (ha:PT3 X a t) (hb:PW3 X (.BoolOp .Or (b :: rest) pos) u):PW3 X (.BoolOp .Or (a :: b :: rest) pos) (zdl t u):=PW.imp (zuz ha hb) zyi
theorem zdo (h:PW3 X a t):PT3 X a t:=PW.pt h
theorem zfg (ha:PT3 X a t):PT3 X (.UnaryOp .Not a pos) (zdb t):=PT.imp (zu0 ha) λσ H Q hx2_=>by
 obtain ⟨ρ,l,S,v,S',sim,ro,hm,p⟩:=hx2_
 obtain ⟨⟨x,S1⟩,h1,hm⟩:=bnd hm
 cases hm
 exact ⟨ρ,l,S,x,S1,sim,ro,h1,p⟩
theorem zk7 {op}(h:PE3 X a ma):PE3 X (.BoolOp op [a] pos) ma:=zu3 h
theorem zi6 (ha:PE3 X a ma) (hb:PE3 X (.BoolOp .And (b :: rest) pos) mb):PE3 X (.BoolOp .And (a :: b :: rest) pos) (zd9 ma mb):=PE.imp (zu4 ha hb) λσ H Q hx3_=>by
 obtain ⟨ρ,l,S,v,S',sim,ro,hm,p⟩:=hx3_
 obtain ⟨⟨x,S1⟩,h1,hm⟩:=bnd hm
 refine ⟨ρ,l,S,x,S1,sim,ro,h1,λρ1 H1 x' e1 s1 r1=>?_⟩
 cases r1 with
 | bl k =>
  refine ⟨k,rfl,?_⟩
  cases k with
  | true=>exact zd2 ⟨ρ1,l,S1,v,S',s1,ro.mono e1,hm,p.ext e1⟩
  | false=>cases hm;exact zd1 (p ρ1 H1 _ e1 s1 (.bl false))
 | _=>cases hm
theorem zyj (ha:PE3 X a ma):PE3 X (.UnaryOp .Not a pos) (zho ma):=PE.imp (zu5 ha) λσ H Q hx5_=>by
 obtain ⟨ρ,l,S,v,S',sim,ro,hm,p⟩:=hx5_
 obtain ⟨⟨x,S1⟩,h1,hm⟩:=bnd hm
 refine ⟨ρ,l,S,x,S1,sim,ro,h1,λρ1 H1 x' e1 s1 r1=>?_⟩
 cases r1 with
 | bl k=>cases hm;exact ⟨k,rfl,p ρ1 H1 _ e1 s1 (.bl _)⟩
 | _=>cases hm
theorem zag:PA3 X [] zae:=PA.imp zhg λσ H Q hx7_=>by
 obtain ⟨ρ,l,S,v,S',sim,ro,hm,p⟩:=hx7_
 cases hm
 exact p ρ H [] (Ext.refl ..) sim .nil
theorem zad (ha:PE3 X a ma) (hr:PA3 X es mA) (hs:starEach (a :: es) X.env=(false,eval a X.env) :: starEach es X.env:=by rfl):PA3 X (a :: es) (zac ma mA):=PA.imp (zgp ha hr hs) λσ H Q hx8_=>by
 obtain ⟨ρ,l,S,v,S',sim,ro,hm,p⟩:=hx8_
 obtain ⟨⟨x,S1⟩,h1,hm⟩:=bnd hm
 obtain ⟨⟨y,S2⟩,h2,hm⟩:=bnd hm
 cases hm
 exact ⟨ρ,l,S,x,S1,sim,ro,h1,λρ1 H1 x' e1 s1 r1=>⟨ρ1,l,S1,y,_,s1,ro.mono e1,h2,λρ2 H2 vs e2 s2 r2=>p ρ2 H2 _ (e1.trans e2) s2 (.cons (r1.mono e2) r2)⟩⟩
noncomputable def zbo:FM:=λxs S=>if xs.length<=sizeLine then some (.tup xs,S) else none
noncomputable def zcn:FM:=λxs S=>if xs.length<=sizeLine then some (.ref S.length,S++[.lst xs]) else none
theorem zbe {α:Type}{c:Prop} [Decidable c] {a b:α}(h:(if c then some a else none)=some b):c/\a=b:=by
 by_cases hc:c
 ·rw [if_pos hc] at h;exact ⟨hc,qoi h⟩
 ·rw [if_neg hc] at h;cases h
theorem zhs {K:QFg}{ρ:List Addr}{S:Sto}{H:Hp}{xs:List D}{vs:List V}{Q:VK}(sim:Sim K ρ S H) (r:RDs ρ H xs vs) (p:Pv K ρ H (.tup xs) S Q):∀a,H a=none->Q (.ref a) (upd H a (.tup vs)):=λa ha =>
 p ρ _ _ (zbh ha) (sim.laid ha) (.tup zbw (r.mono (zbh ha)))
theorem zfh {K:QFg}{ρ:List Addr}{S:Sto}{H:Hp}{xs:List D}{vs:List V}{Q:VK}(sim:Sim K ρ S H) (r:RDs ρ H xs vs) (p:Pv K ρ H (.ref S.length) (S++[.lst xs]) Q):∀a,H a=none->Q (.ref a) (upd H a (.lst vs)):=λa ha =>
 p (ρ++[a]) _ _ (zou ha) (sim.push ha r) (.ref (by rw [<-sim.len];exact zfe ρ a))
theorem zci {x1}(h:PA3 X es mA):PE3 X (.Tuple es x1 pos) (zaf zbo mA):=PE.imp (zwv h) λσ H Q hx9_=>by
 obtain ⟨ρ,l,S,v,S',sim,ro,hm,p⟩:=hx9_
 obtain ⟨⟨x,S1⟩,h1,hm⟩:=bnd hm
 obtain ⟨hz,e⟩:=zbe hm
 cases e
 exact ⟨ρ,l,S,x,_,sim,ro,h1,λρ1 H1 vs e1 s1 r1=>⟨by rw [<-r1.length];exact hz,zhs s1 r1 (p.ext e1)⟩⟩
theorem zeq (h:PA3 X es mA):PE3 X (.List es pos) (zaf zcn mA):=PE.imp (zww h) λσ H Q hx10_=>by
 obtain ⟨ρ,l,S,v,S',sim,ro,hm,p⟩:=hx10_
 obtain ⟨⟨x,S1⟩,h1,hm⟩:=bnd hm
 obtain ⟨hz,e⟩:=zbe hm
 cases e
 exact ⟨ρ,l,S,x,_,sim,ro,h1,λρ1 H1 vs e1 s1 r1=>⟨by rw [<-r1.length];exact hz,zfh s1 r1 (p.ext e1)⟩⟩
theorem zk8 {K:QFg}{f:FM}{r:List V->Hp->VK->Prop}(h3:Fn3 K f r) (σ:St) (H:Hp) (Q:VK) (q:te K (zaf f mA) σ H Q):tCB r (ta K mA) σ H Q:=by
 obtain ⟨ρ,l,S,v,S',sim,ro,hm,p⟩:=q
 obtain ⟨⟨x,S1⟩,h1,hm⟩:=bnd hm
 exact ⟨ρ,l,S,x,S1,sim,ro,h1,λρ1 H1 vs e1 s1 r1=>h3 ρ1 S1 H1 x vs v S' Q s1 r1 hm (p.ext e1)⟩
theorem zfi {id:String}{r:List V->Hp->VK->Prop}(hc:CallR X (.builtin id) r) (h3:Fn3 X.K f r) (hg:Gl X x) (hm:X.mg x=none) (hv:bootBuiltins x=some (.builtin id)) (ha:PA3 X (a :: es) mA) (hn:x≠"__name__":=by decide) (hdb:(x == ("__debug__":Str))=false:=by decide)
  (he:starEach (a :: es) X.env=(false,eval a X.env) :: starEach es X.env:=by rfl) (hpl:(backTo pos (starEach es X.env)).any (·.1)=false:=by rfl):PE3 X (.Call (.Name x p) (a :: es) [] pos) (zaf f mA) :=
 PE.imp (ziz hc hg hm hv ha hn hdb he hpl) (zk8 h3)
theorem zyk {T:String}{r:List V->Hp->VK->Prop}(hc:CallR X (.type T) r) (h3:Fn3 X.K f r) (hg:Gl X x) (hm:X.mg x=none) (hv:bootBuiltins x=some (.type T)) (ha:PA3 X (a :: es) mA) (hn:x≠"__name__":=by decide) (hdb:(x == ("__debug__":Str))=false:=by decide)
  (he:starEach (a :: es) X.env=(false,eval a X.env) :: starEach es X.env:=by rfl) (hpl:(backTo pos (starEach es X.env)).any (·.1)=false:=by rfl):PE3 X (.Call (.Name x p) (a :: es) [] pos) (zaf f mA) :=
 PE.imp (zi0 hc hg hm hv ha hn hdb he hpl) (zk8 h3)
end
noncomputable def oI (C:Int->Int->Bool) (g:Int->Int->D):D->D->Sto->Option (D × Sto)
 | .int i,.int j,S=>if C i j=true then some (g i j,S) else none
 | _,_,_=>none
noncomputable def oI0 (g:Int->Int->D):D->D->Sto->Option (D × Sto)
 | .int i,.int j,S=>some (g i j,S)
 | _,_,_=>none
theorem zk9 {K:QFg}{C:Int->Int->Bool}{C':Int->Int->Prop}{g:Int->Int->D}{g':Int->Int->V}(hC:∀i j,C i j=true->C' i j) (hg:∀ρ H i j,RD ρ H (g i j) (g' i j)):Op3 K (oI C g) (rI C' g'):=by
 intro ρ S H x y x' y' v S' Q sim rx ry h p
 unfold oI at h
 split at h
 ·rename_i i j
  cases rx;cases ry
  obtain ⟨hc,e⟩:=zbe h
  cases e
  exact ⟨i,j,rfl,rfl,hC i j hc,p ρ H _ (Ext.refl ..) sim (hg ρ H i j)⟩
 ·cases h
theorem zla {K:QFg}{g:Int->Int->D}{g':Int->Int->V}(hg:∀ρ H i j,RD ρ H (g i j) (g' i j)):Op3 K (oI0 g) (rI0 g'):=by
 intro ρ S H x y x' y' v S' Q sim rx ry h p
 unfold oI0 at h
 split at h
 ·rename_i i j
  cases rx;cases ry
  cases h
  exact ⟨i,j,rfl,rfl,p ρ H _ (Ext.refl ..) sim (hg ρ H i j)⟩
 ·cases h
theorem Op3.or {K:QFg}{f:D->D->Sto->Option (D × Sto)}{g:D->D->Sto->Option (D × Sto)}{r r':R2}(h:Op3 K f r) (h':Op3 K g r'):Op3 K (λx y S=>match f x y S with|some v=>some v|none=>g x y S) (λx y H Q=>r x y H Q\/r' x y H Q):=by
 intro ρ S H x y x' y' v S' Q sim rx ry hm p
 dsimp only at hm
 cases e:f x y S with
 | some w=>rw [e] at hm;cases hm;exact .inl (h ρ S H x y x' y' _ _ Q sim rx ry e p)
 | none=>rw [e] at hm;exact .inr (h' ρ S H x y x' y' _ _ Q sim rx ry hm p)
noncomputable abbrev zi7:=oI (λi j=>decide (0<j/\j<1073741824)) λi j=>.int (i / j)
noncomputable abbrev zdc:=oI (λi j=>decide (0<j)) λi j=>.int (i % j)
noncomputable abbrev zlb:=oI (λi j=>decide (0<=j/\j<=1000000/\i.natAbs<2 ^ 64)) λi j=>.int (i ^ j.toNat)
noncomputable abbrev dLt:=oI0 λi j=>.bl (decide (i<j))
noncomputable abbrev dGt:=oI0 λi j=>.bl (decide (j<i))
noncomputable abbrev dGe:=oI0 λi j=>.bl (decide (j<=i))
section
theorem zlc (ha:PE3 X a ma) (hb:PE3 X b mb):PE3 X (.BinOp a .FloorDiv b pos) (eOp zi7 ma mb):=zhp zv9 (zk9 (λi j h=>by first|(unfold CMul;exact of_decide_eq_true h)|(unfold zix;exact of_decide_eq_true h)|(unfold ziy;exact of_decide_eq_true h)|exact of_decide_eq_true h) λ_ _ _ _=>.int _) ha hb
theorem zdp (ha:PE3 X a ma) (hb:PE3 X b mb):PE3 X (.BinOp a .Mod b pos) (eOp zdc ma mb):=zhp zwa (zk9 (λi j h=>by first|(unfold CMul;exact of_decide_eq_true h)|(unfold zix;exact of_decide_eq_true h)|(unfold ziy;exact of_decide_eq_true h)|exact of_decide_eq_true h) λ_ _ _ _=>.int _) ha hb
theorem zow (ha:PE3 X a ma) (hb:PE3 X b mb):PE3 X (.BinOp a .Pow b pos) (eOp zlb ma mb):=zhp zwb (zk9 (λi j h=>by first|(unfold CMul;exact of_decide_eq_true h)|(unfold zix;exact of_decide_eq_true h)|(unfold ziy;exact of_decide_eq_true h)|exact of_decide_eq_true h) λ_ _ _ _=>.int _) ha hb
theorem zyl (ha:PE3 X a ma) (hb:PE3 X b mb):PT3 X (.Compare a [.Lt] [b] pos) (tE (eOp dLt ma mb)):=zdn zwd (zla λ_ _ _ _=>.bl _) ha hb (zda b)
theorem zld (ha:PE3 X a ma) (hb:PE3 X b mb):PT3 X (.Compare a [.Gt] [b] pos) (tE (eOp dGt ma mb)):=zdn zwe (zla λ_ _ _ _=>.bl _) ha hb (zda b)
theorem zle (ha:PE3 X a ma) (hb:PE3 X b mb):PT3 X (.Compare a [.GtE] [b] pos) (tE (eOp dGe ma mb)):=zdn zwf (zla λ_ _ _ _=>.bl _) ha hb (zda b)
end
noncomputable def sEq:D->D->Option Bool
 | .non,.non=>some true | .non,.int _=>some false | .int _,.non=>some false | .non,.bl _=>some false | .bl _,.non=>some false | .non,.str _=>some false | .str _,.non=>some false
 | .int i,.int j=>some (decide (i=j)) | .bl i,.bl j=>some (decide (i=j)) | .str i,.str j=>some (decide (i=j))
 | .int _,.str _=>some false | .str _,.int _=>some false | .bl _,.str _=>some false | .str _,.bl _=>some false
 | _,_=>none
noncomputable def dEq:D->D->Sto->Option (D × Sto):=λx y S=>(sEq x y).bind λb=>some (.bl b,S)
noncomputable def dNe:D->D->Sto->Option (D × Sto):=λx y S=>(sEq x y).bind λb=>some (.bl (!b),S)
theorem zox (rx:RD ρ H x x') (ry:RD ρ H y y') (h:sEq x y=some b):zkz x' y' = true/\decide (x' = y')=b:=by
 cases rx <;> cases ry <;> first
  | (cases (show (none:Option Bool)=some b from h))
  | (have h:=qoi h;subst h;exact ⟨rfl,rfl⟩)
  | (have h:=qoi h;subst h;exact ⟨rfl,by simp⟩)
theorem zoy {K:QFg}:Op3 K dEq rEq:=by
 intro ρ S H x y x' y' v S' Q sim rx ry h p
 obtain ⟨b,h1,h⟩:=bnd h
 cases h
 obtain ⟨h2,h3⟩:=zox rx ry h1
 exact ⟨h2,by rw [h3];exact p ρ H _ (Ext.refl ..) sim (.bl b)⟩
theorem zoz {K:QFg}:Op3 K dNe rNe:=by
 intro ρ S H x y x' y' v S' Q sim rx ry h p
 obtain ⟨b,h1,h⟩:=bnd h
 cases h
 obtain ⟨h2,h3⟩:=zox rx ry h1
 exact ⟨h2,by rw [h3];exact p ρ H _ (Ext.refl ..) sim (.bl _)⟩
noncomputable def zer:D->Bool
 | .non=>true
 | _=>false
noncomputable def dIs:D->D->Sto->Option (D × Sto)
 | x,.non,S=>some (.bl (zer x),S)
 | _,_,_=>none
noncomputable def zes:D->D->Sto->Option (D × Sto)
 | x,.non,S=>some (.bl (!zer x),S)
 | _,_,_=>none
theorem zo0 (r:RD ρ H x x'):decide (x' = .non)=zer x:=by
 cases r <;> simp [zer]
theorem zym {K:QFg}:Op3 K dIs (λx y H Q=>y=.non/\Q (.bl (decide (x=.non))) H):=by
 intro ρ S H x y x' y' v S' Q sim rx ry h p
 unfold dIs at h
 split at h
 ·cases h;cases ry
  exact ⟨rfl,by rw [zo0 rx];exact p ρ H _ (Ext.refl ..) sim (.bl _)⟩
 ·cases h
theorem zo1 {K:QFg}:Op3 K zes (λx y H Q=>y=.non/\Q (.bl (!decide (x=.non))) H):=by
 intro ρ S H x y x' y' v S' Q sim rx ry h p
 unfold zes at h
 split at h
 ·cases h;cases ry
  exact ⟨rfl,by rw [zo0 rx];exact p ρ H _ (Ext.refl ..) sim (.bl _)⟩
 ·cases h
section
theorem zyn (ha:PE3 X a ma) (hb:PE3 X b mb):PE3 X (.Compare a [.Eq] [b] pos) (eOp dEq ma mb):=zhq znw zoy ha hb (zda b)
theorem zyo (ha:PE3 X a ma) (hb:PE3 X b mb):PE3 X (.Compare a [.NotEq] [b] pos) (eOp dNe ma mb):=zhq znx zoz ha hb (zda b)
theorem zyp (ha:PE3 X a ma) (hb:PE3 X b mb):PE3 X (.Compare a [.Is] [b] pos) (eOp dIs ma mb):=zhq zwg zym ha hb (zda b)
theorem zo2 (ha:PE3 X a ma) (hb:PE3 X b mb):PE3 X (.Compare a [.IsNot] [b] pos) (eOp zes ma mb):=zhq zny zo1 ha hb (zda b)
theorem zlf (ha:PE3 X a ma) (hb:PE3 X b mb):PT3 X (.Compare a [.Eq] [b] pos) (tE (eOp dEq ma mb)):=zdn znw zoy ha hb (zda b)
theorem zo3 (ha:PE3 X a ma) (hb:PE3 X b mb):PT3 X (.Compare a [.NotEq] [b] pos) (tE (eOp dNe ma mb)):=zdn znx zoz ha hb (zda b)
theorem zyq (ha:PE3 X a ma) (hb:PE3 X b mb):PT3 X (.Compare a [.IsNot] [b] pos) (tE (eOp zes ma mb)):=zdn zny zo1 ha hb (zda b)
end
noncomputable def dIx:D->D->Sto->Option (D × Sto)
 | .tup xs,.int i,S=>(atI xs i).bind λv=>some (v,S)
 | .ref n,.int i,S=>(lstOf S n).bind λxs=>(atI xs i).bind λv=>some (v,S)
 | _,_,_=>none
theorem zo4 (r:RDs ρ H xs vs) (h:atI xs i=some x):∃v,atI vs i=some v/\RD ρ H x v:=by
 unfold atI at h ⊢
 rw [<-r.length]
 cases e:ixN xs.length i with
 | none=>rw [e] at h;cases h
 | some j =>
  rw [e] at h
  exact r.get (i:=j) h
theorem zyr {K:QFg}:Op3 K dIx (rIx K):=by
 intro ρ S H x y x' y' v S' Q sim rx ry h p
 unfold dIx at h
 split at h
 ·cases ry
  obtain ⟨w,h1,h⟩:=bnd h
  cases h
  cases rx with
  | tup ha r =>
   obtain ⟨u,h2,r2⟩:=zo4 r h1
   exact .inr (.inl ⟨_,_,_,u,rfl,rfl,SqT.of ha,h2,p ρ H u (Ext.refl ..) sim r2⟩)
 ·cases ry
  obtain ⟨xs,h0,h⟩:=bnd h
  obtain ⟨w,h1,h⟩:=bnd h
  cases h
  cases rx with
  | ref hn =>
   obtain ⟨a,vs,ha,sq,r⟩:=sim.lstOf h0
   rw [ha] at hn;cases hn
   obtain ⟨u,h2,r2⟩:=zo4 r h1
   exact .inl ⟨_,_,_,u,rfl,rfl,sq,h2,p ρ H u (Ext.refl ..) sim r2⟩
 ·cases h
section
end
abbrev OM:=Lo->Sto->Option (Option Int × Sto)
noncomputable def zc2:OM:=λ_ S=>some (none,S)
noncomputable def zcs (m:EM):OM:=λl S=>(m l S).bind λp=>match p.1 with
 | .int i=>some (some i,p.2)
 | _=>none
noncomputable def zbt (xs:List D) (lo hi:Option Int):List D:=(xs.drop (HT.sIx xs.length 0 lo)).take (HT.sIx xs.length xs.length hi-HT.sIx xs.length 0 lo)
inductive tO (K:QFg) (m:OM) (σ:St) (H:Hp) (Q:Option Int->Hp->Prop):Prop
 | mk (ρ:_) (l:_) (S:_) (v:_) (S':_) (_:Sim K ρ S H) (_:RO ρ H l σ) (_:m l S=some (v,S')) (_:∀ρ' H',Ext ρ H ρ' H'->Sim K ρ' S' H'->Q v H')
def PO3 (X:Cx) (e:Option Expr) (m:OM):Prop:=PO X e (tO X.K m)
section
variable {X:Cx}{a b:Expr}{ma mb:EM}{pos p2:Pos}{lo hi:Option Expr}{ml mh:OM}
theorem PO.imp (h:PO X e t) (i:∀σ H Q,u σ H Q->t σ H Q):PO X e u:=λpins s σ H Q I q=>h pins s σ H Q I (i _ _ _ q)
theorem zfj:PO3 X none zc2:=PO.imp zw8 λσ H Q hx1_=>by
 obtain ⟨ρ,l,S,v,S',sim,ro,hm,p⟩:=hx1_
 cases hm
 exact p ρ H (Ext.refl ..) sim
theorem zfk (h:PE3 X a ma):PO3 X (some a) (zcs ma):=PO.imp (zw9 h) λσ H Q hx2_=>by
 obtain ⟨ρ,l,S,v,S',sim,ro,hm,p⟩:=hx2_
 obtain ⟨⟨x,S1⟩,h1,hm⟩:=bnd hm
 refine ⟨ρ,l,S,x,S1,sim,ro,h1,λρ1 H1 x' e1 s1 r1=>?_⟩
 cases r1 with
 | int i=>cases hm;exact ⟨i,rfl,p ρ1 H1 e1 s1⟩
 | _=>cases hm
end
end L3
namespace HT
open PySem PyProof.Rows
section
theorem getItem_tuple_whole {items:Array Value}{lo hi:Option Int}{Q:Value->Shared->Prop}(ht:IsTup s.heap t items) (hs:s.heap.IsSliceOf sl vl vu .none) (pl:IsPart vl lo) (pu:IsPart vu hi)
  (hw:sIx items.size 0 lo=0/\sIx items.size items.size hi=items.size)
  (h:Q (.ref t) s):wpAny (model prog w) A (getItem (.ref t) (.ref sl)) Q E s:=by
 obtain ⟨os,hos,hcs,hds⟩:=id hs
 have hTs:s.TypeIs (.ref sl) "slice":=⟨os,hos,hcs⟩
 unfold getItem
 try with_reducible refine wpAny_holding ?_
 first|refine qwb (qwp ?_)|skip
 refine qwb (wpAny_sequenceKey ht.typeIs (by decide) ?_)
 refine qwb (wpAny_callSpecial?_slot (name:=Str.ofString "__getitem__") ht.typeIs PyProof.Rows.slot_tuple_getitem
  (wpAny_call_entry PyProof.Rows.slot_tuple_getitem ht.typeIs entry_tuple_getitem ?_ (args_tuple_getitem _ _)))
 show wpAny _ _ (Builtin.Tuple.tupleItemsOf (.ref t) >>= _) _ _ s
 refine qwb (tupleItemsOf_ ht ?_)
 refine qwb (wpAny_typeOf hTs ?_)
 rw [if_pos (by decide)]
 refine qwb (zn8 hs pl pu ?_)
 have hyes:((((sIx items.size 0 lo:Nat):Int) == 0 && (1:Int) == 1 && (sIx items.size items.size hi-sIx items.size 0 lo) == items.size)=true):=by
  rw [hw.1,hw.2];simp
 show wpAny _ _ (if (((sIx items.size 0 lo:Nat):Int) == 0 && (1:Int) == 1 && (sIx items.size items.size hi-sIx items.size 0 lo) == items.size)=true then _ else _) _ _ s
 rw [if_pos hyes]
 unfold Builtin.Tuple.tupleIsExact
 refine qwb (qwb (wpAny_typeOf ht.typeIs (qwp ?_)))
 rw [if_pos (by decide)]
 exact qwb (wpAny_rule (qwb (qwp (qwp ⟨_,rfl,qwp h⟩))))
end
end HT
namespace L3
open PySem PySem.Spec PyProof.Rows L2
section
variable {lo hi:Option Expr}{ml mh:OM}
def zys (K:QFg):V->Option Int->Option Int->Hp->VK->Prop:=λx lo hi H Q=>∃a xs,x=.ref a/\SqT K H a xs /\
 (HT.sIx xs.length 0 lo=0/\HT.sIx xs.length xs.length hi=xs.length)/\Q (.ref a) H
theorem zyt:SlR X (zys X.K):=by
 intro pins s σ H x v vl vu lo hi sl Q I rx hs pl pu h
 obtain ⟨a,xs,rfl,hx,hw,q⟩:=h
 cases rx
 obtain ⟨its,r,ht,hz⟩:=I.tuple hx
 have hlen:its.toArray.size=xs.length:=by rw [List.size_toArray];exact r.length.symm
 refine ⟨"tuple",_,PyProof.Rows.slot_tuple_getitem.lookup,ht.typeIs,?_⟩
 exact HT.getItem_tuple_whole ht hs pl pu (by rw [hlen];exact hw) ⟨.ref a,H,I,rfl,q⟩
theorem zyu (xs:List D) (lo hi:Option Int) (h:HT.sIx xs.length 0 lo=0/\HT.sIx xs.length xs.length hi=xs.length):zbt xs lo hi=xs:=by
 unfold zbt;rw [h.1,h.2];simp
end
noncomputable def zlg:D->D->Sto->Option (D × Sto)
 | .tup xs,.tup ys,S=>if xs.length+ys.length<=sizeLine then some (.tup (xs++ys),S) else none
 | _,_,_=>none
def zlh (K:QFg):R2:=λx y H Q=>∃a b ys,x=.ref a/\y=.ref b/\SqT K H a []/\SqT K H b ys/\Q (.ref b) H
theorem zyv:OpR X (binaryOp .Add) (zlh X.K):=by
 intro pins s σ H x y v u Q I rx ry h
 obtain ⟨a,b,ys,rfl,rfl,ha,hb,q⟩:=h
 cases rx
 cases ry
 obtain ⟨its,r1,p1,_⟩:=I.tuple ha
 obtain ⟨its2,r2,p2,_⟩:=I.tuple hb
 cases r1
 obtain ⟨⟨cls,dd,data,sl⟩,ho,hc,n,hd⟩:=id p1
 obtain ⟨⟨cls2,dd2,data2,sl2⟩,ho2,hc2,n2,hd2⟩:=id p2
 simp only at hc hd hc2 hd2
 subst hc hd hc2 hd2
 exact concat_meets ⟨_,ho,rfl⟩ ⟨_,ho2,rfl⟩ noFill_tuple_add seq_tuple_add PySem.F.slot_tuple_add PySem.F.entry_tuple_add (PySem.F.args_tuple_add_2 _ _)
   (tuple_addW0 a b ([]:List Value).toArray its2.toArray n n2 dd dd2 sl sl2 (by simp)) ⟨ho,ho2,⟨.ref b,H,I,rfl,q⟩⟩
theorem zyw {K:QFg}:Op3 K zlg (λx y H Q=>zk1 K x y H Q\/zlh K x y H Q):=by
 intro ρ S H x y x' y' v S' Q sim rx ry h p
 unfold zlg at h
 split at h
 ·obtain ⟨hz,e⟩:=zbe h
  cases e
  cases rx with
  | @tup xs a vs ha r =>
   cases ry with
   | @tup ys b ws hb q =>
    cases r with
    | nil=>exact .inr ⟨a,b,ws,rfl,rfl,SqT.of ha,SqT.of hb,p ρ H _ (Ext.refl ..) sim (.tup hb q)⟩
    | cons r1 r2 =>
     refine .inl ⟨a,b,_,ws,rfl,rfl,SqT.of ha,SqT.of hb,by simp,by rw [<-(RDs.cons r1 r2).length,<-q.length];exact hz,λe=>?_,λ_=>?_⟩
     ·subst e
      cases q
      rw [List.append_nil] at p
      exact p ρ H _ (Ext.refl ..) sim (.tup ha (.cons r1 r2))
     ·exact zhs sim ((RDs.cons r1 r2).append q) p
 ·cases h
section
end
noncomputable def zht:FM
 | [.tup xs],S=>some (.int xs.length,S)
 | [.ref n],S=>(lstOf S n).bind λxs=>some (.int xs.length,S)
 | _,_=>none
noncomputable def zfl:FM
 | [.int i],S=>some (.int (if i<0 then -i else i),S)
 | _,_=>none
noncomputable def zdq:FM
 | [.tup xs],S=>some (.tup xs,S)
 | [.ref n],S=>(lstOf S n).bind λxs=>some (.tup xs,S)
 | _,_=>none
section
variable {K:QFg}
theorem zyx:Fn3 K zht (λxs H Q=>∃p ys,xs=[.ref p]/\(SqL K H p ys\/SqT K H p ys)/\Q (.int ys.length) H):=by
 intro ρ S H xs vs v S' Q sim r h p
 unfold zht at h
 split at h
 ·cases h
  obtain ⟨w,rfl,rw'⟩:=r.one
  cases rw' with
  | tup ha r2=>exact ⟨_,_,rfl,.inr (SqT.of ha),by rw [<-r2.length];exact p ρ H _ (Ext.refl ..) sim (.int _)⟩
 ·obtain ⟨ys,h1,h⟩:=bnd h
  cases h
  obtain ⟨w,rfl,rw'⟩:=r.one
  obtain ⟨a,us,ha,sq,r2⟩:=sim.lstOf h1
  cases rw' with
  | ref hn =>
   rw [ha] at hn;cases hn
   exact ⟨_,_,rfl,.inl sq,by rw [<-r2.length];exact p ρ H _ (Ext.refl ..) sim (.int _)⟩
 ·cases h
theorem zyy:Fn3 K zfl (λxs H Q=>∃i,xs=[.int i]/\Q (.int (if i<0 then -i else i)) H):=by
 intro ρ S H xs vs v S' Q sim r h p
 unfold zfl at h
 split at h
 ·cases h
  obtain ⟨w,rfl,rw'⟩:=r.one
  cases rw'
  exact ⟨_,rfl,p ρ H _ (Ext.refl ..) sim (.int _)⟩
 ·cases h
theorem zyz:Fn3 K zdq (λxs H Q=>∃p ys,xs=[.ref p]/\((SqL K H p ys/\∀l,H l=none->Q (.ref l) (upd H l (.tup ys)))\/(SqT K H p ys/\Q (.ref p) H))):=by
 intro ρ S H xs vs v S' Q sim r h p
 unfold zdq at h
 split at h
 ·cases h
  obtain ⟨w,rfl,rw'⟩:=r.one
  cases rw' with
  | tup ha r2=>exact ⟨_,_,rfl,.inr ⟨SqT.of ha,p ρ H _ (Ext.refl ..) sim (.tup ha r2)⟩⟩
 ·obtain ⟨ys,h1,h⟩:=bnd h
  cases h
  obtain ⟨w,rfl,rw'⟩:=r.one
  obtain ⟨a,us,ha,sq,r2⟩:=sim.lstOf h1
  cases rw' with
  | ref hn =>
   rw [ha] at hn;cases hn
   exact ⟨_,_,rfl,.inl ⟨sq,zhs sim r2 p⟩⟩
 ·cases h
end
noncomputable def tyD (S:Sto):D->Option String
 | .non=>some "NoneType" | .bl _=>some "bool" | .int _=>some "int" | .str _=>some "str" | .tup _=>some "tuple"
 | .ref n=>match S[n]? with
  | some (.lst _)=>some "list"
  | some (.dct _)=>some "dict"
  | _=>none
 | .fn _=>none
noncomputable def isI (T U:String):Bool:=T == U || (T == "bool" && U == "int")
noncomputable def zet (U:String):D->Sto->Option (D × Sto):=λx S=>(tyD S x).bind λT=>some (.bl (isI T U),S)
noncomputable def zct:D->List D->Sto->Option (D × Sto)
 | .ref n,[x],S=>match S[n]? with
  | some (.lst xs)=>if xs.length<sizeLine then some (.non,S.set n (.lst (xs++[x]))) else none
  | _=>none
 | _,_,_=>none
noncomputable def zfm:D->List D->Sto->Option (D × Sto)
 | .ref n,[],S=>match S[n]? with
  | some (.lst xs)=>(xs[xs.length-1]?).bind λy=>some (y,S.set n (.lst xs.dropLast))
  | _=>none
 | _,_,_=>none
theorem RDs.dropLast (h:RDs ρ H xs vs):RDs ρ H xs.dropLast vs.dropLast:=by
 rw [List.dropLast_eq_take,List.dropLast_eq_take,h.length]
 exact h.take _
section
variable {K:QFg}
theorem zy0:Mt3 K zct zoi:=by
 intro ρ S H x x' xs vs v S' Q sim rx r h p
 unfold zct at h
 split at h
 ·split at h
  ·rename_i n y S ys e
   obtain ⟨hz,e2⟩:=zbe h
   cases e2
   obtain ⟨w,rfl,rw'⟩:=r.one
   obtain ⟨a,us,ha,hH,r2⟩:=sim.lst e
   cases rx with
   | ref hn =>
    rw [ha] at hn;cases hn
    exact ⟨a,us,w,rfl,rfl,hH,by rw [<-r2.length];exact hz,p ρ _ _ (zfd ha hH) (sim.set ha e hH (r2.append (.cons rw' .nil))) .non⟩
  ·cases h
 ·cases h
theorem zy1:Mt3 K zfm zoj:=by
 intro ρ S H x x' xs vs v S' Q sim rx r h p
 unfold zfm at h
 split at h
 ·split at h
  ·rename_i n S ys e
   obtain ⟨y,h1,h⟩:=bnd h
   cases h
   cases r
   obtain ⟨a,us,ha,hH,r2⟩:=sim.lst e
   obtain ⟨w,hw,rw'⟩:=r2.get h1
   cases rx with
   | ref hn =>
    rw [ha] at hn;cases hn
    exact ⟨a,us,w,rfl,rfl,hH,by rw [<-r2.length];exact hw,p ρ _ _ (zfd ha hH) (sim.set ha e hH r2.dropLast) (rw'.mono (zfd ha hH))⟩
  ·cases h
 ·cases h
end
noncomputable def zgu:D->Sto->Option (List D)
 | .ref n,S=>lstOf S n
 | _,_=>none
noncomputable def zb5 (f:D->List D->Sto->Option (D × Sto)) (o:EM) (as:AM):EM:=λl S=>(o l S).bind λp=>(zgu p.1 p.2).bind λ_=>(as l p.2).bind λq=>f p.1 q.1 q.2
section
variable {id:String}{f:D->List D->Sto->Option (D × Sto)}{r:V->List V->Hp->VK->Prop}
theorem zo5 {K:QFg}{ρ:List Addr}{S:Sto}{H:Hp}{x:D}{x':V}{xs:List D}(sim:Sim K ρ S H) (rx:RD ρ H x x') (h:zgu x S=some xs):tyV K "list" x' H:=by
 unfold zgu at h
 split at h
 ·obtain ⟨a,us,ha,sq,r2⟩:=sim.lstOf h
  cases rx with
  | ref hn =>
   rw [ha] at hn;cases hn
   exact .inl ⟨rfl,us,sq⟩
 ·cases h
theorem zli (slot:Slot "list" name id) (hty:typeOf (.builtin id)=pure (.type "method_descriptor")) (hm:MtM X id r) (h3:Mt3 X.K f r) (ho:PE3 X o mo) (ha:PA3 X (e :: es) mA)
  (hbase:attributeBase o name X.env (eval o X.env)=eval o X.env:=by rfl)
  (hfew:((backTo cpos (starEach (e :: es) X.env)).all (λx=>!x.1) && (backToKw cpos (keywordEach [] X.env)).all (λx=>x.1.isSome)
   && decide ((e :: es).length+([]:List Keyword).length+(if ([]:List Keyword).isEmpty then 0 else 1)<30))=true:=by rfl)
  (hline:(apos.endLine == cpos.line)=true:=by rfl) (hs:starEach (e :: es) X.env=(false,eval e X.env) :: starEach es X.env:=by rfl) (hplain:(backTo cpos (starEach es X.env)).any (·.1)=false:=by rfl) :
  PE3 X (.Call (.Attribute o name apos) (e :: es) [] cpos) (zb5 f mo mA) :=
 PE.imp (zxs PySem.F.plainAttrs_list slot hty hm ho ha hbase hfew hline hs hplain) λσ H Q hx1_=>by
  obtain ⟨ρ,l,S,v,S',sim,ro,hq,p⟩:=hx1_
  obtain ⟨⟨x,S1⟩,h1,hq⟩:=bnd hq
  obtain ⟨xs,h2,hq⟩:=bnd hq
  obtain ⟨⟨ys,S2⟩,h4,hq⟩:=bnd hq
  exact ⟨ρ,l,S,x,S1,sim,ro,h1,λρ1 H1 x' e1 s1 r1=>⟨zo5 s1 r1 h2,ρ1,l,S1,ys,S2,s1,ro.mono e1,h4,λρ2 H2 vs e2 s2 r2=>h3 ρ2 S2 H2 x x' ys vs v S' Q s2 (r1.mono e2) r2 hq (p.ext (e1.trans e2))⟩⟩
theorem zy2 (slot:Slot "list" name id) (hty:typeOf (.builtin id)=pure (.type "method_descriptor")) (hm:MtM X id r) (h3:Mt3 X.K f r) (ho:PE3 X o mo)
  (hbase:attributeBase o name X.env (eval o X.env)=eval o X.env:=by rfl) (hline:(apos.endLine == cpos.line)=true:=by rfl) :
  PE3 X (.Call (.Attribute o name apos) [] [] cpos) (zb5 f mo zae) :=
 PE.imp (zxr PySem.F.plainAttrs_list slot hty hm ho hbase hline) λσ H Q hx2_=>by
  obtain ⟨ρ,l,S,v,S',sim,ro,hq,p⟩:=hx2_
  obtain ⟨⟨x,S1⟩,h1,hq⟩:=bnd hq
  obtain ⟨xs,h2,hq⟩:=bnd hq
  obtain ⟨⟨ys,S2⟩,h4,hq⟩:=bnd hq
  cases h4
  exact ⟨ρ,l,S,x,S1,sim,ro,h1,λρ1 H1 x' e1 s1 r1=>⟨zo5 s1 r1 h2,h3 ρ1 S1 H1 x x' [] [] v S' Q s1 r1 .nil hq (p.ext e1)⟩⟩
theorem zgv (ho:PE3 X o mo) (he:PE3 X e m)
  (hbase:attributeBase o "append" X.env (eval o X.env)=eval o X.env:=by rfl)
  (hfew:((backTo cpos (starEach [e] X.env)).all (λx=>!x.1) && (backToKw cpos (keywordEach [] X.env)).all (λx=>x.1.isSome)
   && decide ([e].length+([]:List Keyword).length+(if ([]:List Keyword).isEmpty then 0 else 1)<30))=true:=by rfl)
  (hline:(apos.endLine == cpos.line)=true:=by rfl) (hs:starEach [e] X.env=(false,eval e X.env) :: starEach [] X.env:=by rfl) :
  PE3 X (.Call (.Attribute o "append" apos) [e] [] cpos) (zb5 zct mo (zac m zae)) :=
 zli PySem.F.slot_list_append PySem.F.type_list_append zk3 zy0 ho (zad he zag hs) hbase hfew hline hs
theorem zy3 (ho:PE3 X o mo) (hbase:attributeBase o "pop" X.env (eval o X.env)=eval o X.env:=by rfl) (hline:(apos.endLine == cpos.line)=true:=by rfl) :
  PE3 X (.Call (.Attribute o "pop" apos) [] [] cpos) (zb5 zfm mo zae):=zy2 PySem.F.slot_list_pop PySem.F.type_list_pop zxu zy1 ho hbase hline
end
section
theorem zy4 {K:QFg}{T U:String}(hT:T∈["NoneType","bool","int","str","tuple","list","dict"]) (hU:U∈["bool","int","str","tuple","list"]):PySem.W.kitOne K (.type T) (.type U)=some (isI T U):=by
 simp only [List.mem_cons,List.not_mem_nil,or_false] at hT hU
 rcases hT with rfl|rfl|rfl|rfl|rfl|rfl|rfl <;> rcases hU with rfl|rfl|rfl|rfl|rfl <;> rfl
theorem zi8 (hg:Gl X "isinstance") (hm:X.mg "isinstance" = none) (hgy:Gl X y) (hmy:X.mg y=none) (hv:bootBuiltins y=some (.type U)) (hU:U∈["bool","int","str","tuple","list"]) (ha:PE3 X a ma)
  (hn:y≠"__name__":=by decide) (hdb:(y == ("__debug__":Str))=false:=by decide)
  (he:starEach (a :: [.Name y p2]) X.env=(false,eval a X.env) :: starEach [.Name y p2] X.env:=by rfl) (he2:starEach [.Name y p2] X.env=(false,eval (.Name y p2) X.env) :: starEach [] X.env:=by rfl) (hpl:(backTo pos (starEach [.Name y p2] X.env)).any (·.1)=false:=by rfl) :
  PE3 X (.Call (.Name "isinstance" p) [a,.Name y p2] [] pos) (eUn (zet U) ma):=by
 have hy:PE X (.Name y p2) (tC (.ty U)):=zut hgy hmy hv rfl hn hdb
 refine PE.imp (ziz (id:="isinstance") (r:=λxs H Q=>∃x T,xs=[x,.ty U]/\TyOf X.K H x (.type T)/\T∈["NoneType","bool","int","str","tuple","list","dict"]/\Q (.bl (isI T U)) H) ?_ hg hm (by decide +kernel) (zgp ha (zgp hy zhg he2) he) (by decide) (by decide) he hpl) ?_
 ·intro pins s σ H xs us Q I r h
  obtain ⟨x,T,rfl,ty,hT,q⟩:=h
  obtain ⟨u1,u2,rfl,r1,r2⟩:=r.two
  cases r2
  exact zwq I r1 ty (zy4 hT hU) λtk=>⟨.bl _,H,I.tok tk,rfl,q⟩
 ·rintro σ H Q ⟨ρ,l,S,v,S',sim,ro,hq,p⟩
  obtain ⟨⟨x,S1⟩,h1,hq⟩:=bnd hq
  obtain ⟨T,h2,hq⟩:=bnd hq
  cases hq
  refine ⟨ρ,l,S,x,_,sim,ro,h1,λρ1 H1 x' e1 s1 r1=>⟨x',T,rfl,?_⟩⟩
  have fin:=p ρ1 H1 _ e1 s1 (.bl (isI T U))
  cases r1 with
  | non=>cases h2;exact ⟨.non,by decide,fin⟩
  | bl b=>cases h2;exact ⟨.bl b,by decide,fin⟩
  | int b=>cases h2;exact ⟨.int b,by decide,fin⟩
  | str b=>cases h2;exact ⟨.str b,by decide,fin⟩
  | tup hh rr=>cases h2;exact ⟨.tup hh,by decide,fin⟩
  | @ref n b hn =>
   unfold tyD at h2
   dsimp only at h2
   split at h2
   ·rename_i ys ey
    cases h2
    obtain ⟨a',us,ha',hH,r2⟩:=s1.lst ey
    rw [ha'] at hn;cases hn
    exact ⟨.lst hH,by decide,fin⟩
   ·rename_i kvs ey
    cases h2
    obtain ⟨us,hH,r2⟩:=s1.at' n b _ hn ey
    exact ⟨.dK hH,by decide,fin⟩
   ·cases h2
  | fn b=>cases h2
end
def sp3 (K:QFg) (n:Nat) (f:FM):Sp:=λvs H Q _=>vs.length=n/\∃ρ ds S v S',Sim K ρ S H/\RDs ρ H ds vs/\f ds S=some (v,S')/\Pv K ρ H v S' Q
section
theorem zy5 (F:FnOk X.prog X.w X.K X.mg X.base CX0 k f fd ps (sp3 X.K n m)) (hr:Room k X.A) (hg:Gl X x) (hm:X.mg x=some (.ref f)) (hk:PySem.W.keepIn X.K (.ref f)=true) (hb:Binds X.K fd ps [])
  (ha:PA3 X (a :: es) mA) (hl:∀l S v S',mA l S=some (v,S')->v.length=n) (hdb:(x == ("__debug__":Str))=false:=by decide) (he:starEach (a :: es) X.env=(false,eval a X.env) :: starEach es X.env:=by rfl) (hpl:(backTo pos (starEach es X.env)).any (·.1)=false:=by rfl) :
  PE3 X (.Call (.Name x p) (a :: es) [] pos) (zaf m mA) :=
 PE.imp (zwz F hr hg hm hk hb .nil zx1 ha hdb he hpl) λσ H Q hx3_=>by
  obtain ⟨ρ,l,S,v,S',sim,ro,hq,p⟩:=hx3_
  obtain ⟨⟨xs,S1⟩,h1,hq⟩:=bnd hq
  exact ⟨ρ,l,S,xs,S1,sim,ro,h1,λρ1 H1 vs e1 s1 r1=>⟨by rw [List.append_nil,<-r1.length];exact hl _ _ _ _ h1,ρ1,xs,S1,v,S',s1,by rw [List.append_nil];exact r1,hq,p.ext e1⟩⟩
theorem za0:∀l S v S',zae l S=some (v,S')->v.length=0:=λl S v S' h=>by cases h;rfl
theorem zak {n:Nat}{m:EM}{mA:AM}(h:∀l S v S',mA l S=some (v,S')->v.length=n):∀l S v S',zac m mA l S=some (v,S')->v.length=n+1:=λl S v S' q=>by
 obtain ⟨⟨x,S1⟩,h1,q⟩:=bnd q
 obtain ⟨⟨y,S2⟩,h2,q⟩:=bnd q
 cases q
 rw [List.length_cons,h _ _ _ _ h2]
end
noncomputable def zbr:SM:=λl S=>some (.nx,l,S)
noncomputable def zal (a b:SM):SM:=λl S=>(a l S).bind λp=>match p.1 with
 | .nx=>b p.2.1 p.2.2
 | f=>some (f,p.2)
noncomputable def zdr (e:EM):SM:=λl S=>(e l S).bind λp=>some (.nx,l,p.2)
noncomputable def za7 (e:EM):SM:=λl S=>(e l S).bind λp=>some (.rt p.1,l,p.2)
noncomputable def sIf (c:TM) (a b:SM):SM:=λl S=>(c l S).bind λp=>if p.1=true then a l p.2 else b l p.2
noncomputable def zao (e:EM) (g:GM):SM:=λl S=>(e l S).bind λp=>(g p.1 l p.2).bind λq=>some (.nx,q)
noncomputable def zah (i:Nat):GM:=λd l S=>some (l.set i (some d),S)
noncomputable def zea:GsM
 | [],l,S=>some (l,S)
 | _,_,_=>none
noncomputable def zco (g:GM) (r:GsM):GsM
 | x :: xs,l,S=>(g x l S).bind λp=>r xs p.1 p.2
 | _,_,_=>none
noncomputable def zeb (n:Nat) (g:GsM):GM
 | .tup xs,l,S=>if xs.length=n then g xs l S else none
 | _,_,_=>none
noncomputable def zc3:D->D->D->Sto->Option Sto
 | .ref n,.int i,v,S=>match S[n]? with
  | some (.lst xs)=>(ixN xs.length i).bind λj=>some (S.set n (.lst (xs.set j v)))
  | _=>none
 | _,_,_,_=>none
noncomputable def zdd (o i:EM):GM:=λv l S=>(o l S).bind λp=>(i l p.2).bind λq=>(zc3 p.1 q.1 v q.2).bind λS'=>some (l,S')
section
variable {st:Stmt}{rest:List Stmt}
theorem zb2:zc0 X [] zbr:=PSs.imp zu9 λE σ H hx1_=>by
 obtain ⟨ρ,l,S,f,l',S',sim,ro,hm,p⟩:=hx1_
 cases hm
 exact p ρ H σ (Ext.refl ..) sim ro
theorem zan (h1:PS3 X st m) (h2:zc0 X rest n):zc0 X (st :: rest) (zal m n):=PSs.imp (zva h1 h2) λE σ H hx2_=>by
 obtain ⟨ρ,l,S,f,l',S',sim,ro,hm,p⟩:=hx2_
 obtain ⟨⟨g,l1,S1⟩,q1,hm⟩:=bnd hm
 refine ⟨ρ,l,S,g,l1,S1,sim,ro,q1,λρ1 H1 σ1 e1 s1 r1=>?_⟩
 cases g with
 | nx=>exact ⟨ρ1,l1,S1,f,l',S',s1,r1,hm,λρ2 H2 σ2 e2 s2 r2=>p ρ2 H2 σ2 (e1.trans e2) s2 r2⟩
 | bk=>cases hm;exact p ρ1 H1 σ1 e1 s1 r1
 | ct=>cases hm;exact p ρ1 H1 σ1 e1 s1 r1
 | rt d=>cases hm;exact p ρ1 H1 σ1 e1 s1 r1
theorem zar (h1:PS3 X st m):zc0 X [st] m:=zvb h1
theorem zfn (he:PE3 X e me) (hs:swapsWith e none pos.line X.env=pure false:=by rfl):PS3 X (.Expr e pos) (zdr me):=PS.imp (zvd he hs) λE σ H hx6_=>by
 obtain ⟨ρ,l,S,f,l',S',sim,ro,hm,p⟩:=hx6_
 obtain ⟨⟨x,S1⟩,q1,hm⟩:=bnd hm
 cases hm
 exact ⟨ρ,l,S,x,_,sim,ro,q1,λρ1 H1 x' e1 s1 _=>p ρ1 H1 σ e1 s1 (ro.mono e1)⟩
theorem zbb (he:PE3 X e me):PS3 X (.Return (some e) pos) (za7 me):=PS.imp (zvf he) λE σ H hx7_=>by
 obtain ⟨ρ,l,S,f,l',S',sim,ro,hm,p⟩:=hx7_
 obtain ⟨⟨x,S1⟩,q1,hm⟩:=bnd hm
 cases hm
 exact ⟨ρ,l,S,x,_,sim,ro,q1,λρ1 H1 x' e1 s1 r1=>p ρ1 H1 σ e1 s1 (ro.mono e1) x' r1⟩
theorem zbz (hc:PT3 X c mc) (ha:zc0 X a m) (hb:zc0 X b n):PS3 X (.If c a b pos) (sIf mc m n):=PS.imp (zvh hc ha hb) λE σ H hx9_=>by
 obtain ⟨ρ,l,S,f,l',S',sim,ro,hm,p⟩:=hx9_
 obtain ⟨⟨x,S1⟩,q1,hm⟩:=bnd hm
 refine ⟨ρ,l,S,x,S1,sim,ro,q1,λρ1 H1 e1 s1=>?_⟩
 cases x with
 | true=>exact zd2 ⟨ρ1,l,S1,f,l',S',s1,ro.mono e1,hm,λρ2 H2 σ2 e2 s2 r2=>p ρ2 H2 σ2 (e1.trans e2) s2 r2⟩
 | false=>exact zd1 ⟨ρ1,l,S1,f,l',S',s1,ro.mono e1,hm,λρ2 H2 σ2 e2 s2 r2=>p ρ2 H2 σ2 (e1.trans e2) s2 r2⟩
theorem za4 (j:Nat) (hN:X.N.Nodup) (hi:X.N[j]? = some x:=by rfl) (hx:Loc X.env.scope x:=by first|exact Or.inl rfl|exact Or.inr rfl) (hf:X.fn x=true\/X.env.scope.names.lookup x=some .local:=by first|exact .inl rfl|exact .inr rfl|assumption):PG3 X (.Name x pos) (zah j) :=
 PG.imp (zvi hN hi hx hf) λv σ H Q hx11_=>by
  obtain ⟨ρ,l,S,d,l',S',sim,ro,rd,hm,p⟩:=hx11_
  cases hm
  exact p ρ H _ (Ext.refl ..) sim (ro.set j rd)
theorem zfo:zi4 X [] zea:=PGs.imp zvl λv σ H Q hx12_=>by
 obtain ⟨ρ,l,S,d,l',S',sim,ro,rd,hm,p⟩:=hx12_
 cases rd with
 | nil=>cases hm;exact ⟨rfl,p ρ H _ (Ext.refl ..) sim ro⟩
 | cons _ _=>cases hm
theorem zcu (h1:PG3 X tgt g) (h2:zi4 X ts' gs) (hs:(assignEach (tgt :: ts') X.env).map (·.2)=assign tgt X.env :: (assignEach ts' X.env).map (·.2):=by rfl):zi4 X (tgt :: ts') (zco g gs):=PGs.imp (zvm h1 h2 hs) λv σ H Q hx13_=>by
 obtain ⟨ρ,l,S,d,l',S',sim,ro,rd,hm,p⟩:=hx13_
 cases rd with
 | nil=>cases hm
 | @cons x v' xs vs r1 r2 =>
  obtain ⟨⟨l1,S1⟩,q1,hm⟩:=bnd hm
  exact ⟨v',vs,rfl,ρ,l,S,x,l1,S1,sim,ro,r1,q1,λρ1 H1 σ1 e1 s1 ro1=>⟨ρ1,l1,S1,xs,l',S',s1,ro1,r2.mono e1,hm,λρ2 H2 σ2 e2 s2 ro2=>p ρ2 H2 σ2 (e1.trans e2) s2 ro2⟩⟩
theorem zfp {k n:Nat}(hc:X.calm=true) (h:zi4 X es gs) (hn:(assignEach es X.env).length=n:=by rfl) (hst:(assignEach es X.env).findIdx? (·.1)=none:=by rfl):PG3 X (.Tuple es k pos) (zeb n gs) :=
 PG.imp (zvo hc h hn hst) λv σ H Q hx14_=>by
  obtain ⟨ρ,l,S,d,l',S',sim,ro,rd,hm,p⟩:=hx14_
  cases rd with
  | @tup xs a vs ha r =>
   have hm:(if xs.length=n then gs xs l S else none)=some (l',S'):=hm
   by_cases hl:xs.length=n
   ·rw [if_pos hl] at hm
    exact ⟨a,vs,rfl,SqT.of ha,by rw [<-r.length];exact hl,ρ,l,S,xs,l',S',sim,ro,r,hm,p⟩
   ·rw [if_neg hl] at hm;cases hm
  | _=>cases hm
theorem zy6 {K:QFg}{ρ:List Addr}{S S':Sto}{H:Hp}{x y z:D}{x' y' z':V}{Q:Hp->Prop}(sim:Sim K ρ S H) (rx:RD ρ H x x') (ry:RD ρ H y y') (rz:RD ρ H z z') (h:zc3 x y z S=some S') (q:∀H',Ext ρ H ρ H'->Sim K ρ S' H'->Q H'):rSetL x' y' z' H Q:=by
 unfold zc3 at h
 split at h
 ·split at h
  ·rename_i hx
   obtain ⟨j,hj,h⟩:=bnd h
   cases h
   cases ry
   obtain ⟨a,us,ha',hH,r3⟩:=sim.lst hx
   cases rx with
   | ref hn =>
    rw [ha'] at hn;cases hn
    exact ⟨a,us,_,j,rfl,rfl,hH,by rw [<-r3.length];exact hj,q _ (zfd ha' hH) (sim.set ha' hx hH (r3.set rz j))⟩
  ·cases h
 ·cases h
theorem zhu (ho:PE3 X o mo) (hi:PE3 X i mi)
  (ha:∀v,assign (.Subscript o i pos) X.env v=(do
   let ov <-holding [v] (eval o X.env)
   let iv <-holding [v,ov] (eval i X.env)
   standAt pos
   holding [v,ov,iv] (setItem ov iv v)
   release [v,ov,iv] []):=by intro _;rfl):PG3 X (.Subscript o i pos) (zdd mo mi) :=
 PG.imp (zvq ho hi zxg ha) λv σ H Q hx15_=>by
  obtain ⟨ρ,l,S,d,l',S',sim,ro,rd,hm,p⟩:=hx15_
  obtain ⟨⟨x,S1⟩,q1,hm⟩:=bnd hm
  obtain ⟨⟨y,S2⟩,q2,hm⟩:=bnd hm
  obtain ⟨S3,q3,hm⟩:=bnd hm
  cases hm
  exact ⟨ρ,l,S,x,S1,sim,ro,q1,λρ1 H1 x' e1 s1 r1=>⟨ρ1,l,S1,y,S2,s1,ro.mono e1,q2,λρ2 H2 y' e2 s2 r2=>zy6 s2 (r1.mono e2) r2 (rd.mono (e1.trans e2)) q3 λH3 e3 s3=>p ρ2 H3 σ (e1.trans (e2.trans e3)) s3 (ro.mono (e1.trans (e2.trans e3)))⟩⟩
theorem zfq (he:PE3 X e me) (hg:PG3 X tgt g) (hs:swapsWithSole [tgt] e pos.line X.env=pure false:=by rfl) (hw:swappedStores [tgt] e X.env=pure none:=by rfl)
  (h1:(assignEach [tgt] X.env).map (·.2)=[assign tgt X.env]:=by rfl):PS3 X (.Assign [tgt] e pos) (zao me g):=PS.imp (zvr he hg hs hw h1) λE σ H hx16_=>by
 obtain ⟨ρ,l,S,f,l',S',sim,ro,hm,p⟩:=hx16_
 obtain ⟨⟨x,S1⟩,q1,hm⟩:=bnd hm
 obtain ⟨⟨l2,S2⟩,q2,hm⟩:=bnd hm
 cases hm
 exact ⟨ρ,l,S,x,S1,sim,ro,q1,λρ1 H1 x' e1 s1 r1=>⟨ρ1,l,S1,x,_,_,s1,ro.mono e1,r1,q2,λρ2 H2 σ2 e2 s2 r2=>p ρ2 H2 σ2 (e1.trans e2) s2 r2⟩⟩
theorem zay (j:Nat) (hN:X.N.Nodup) (he:PE3 X e me) (hi:X.N[j]? = some x:=by rfl) (hx:Loc X.env.scope x:=by first|exact Or.inl rfl|exact Or.inr rfl) (hs:swapsWith e (some (.Name x pos')) pos.line X.env=pure false:=by rfl) (hf:X.fn x=true\/X.env.scope.names.lookup x=some .local:=by first|exact .inl rfl|exact .inr rfl|assumption) :
  PS3 X (.Assign [.Name x pos'] e pos) (zao me (zah j)):=PS.imp (zvs hN hi hx he hs hf) λE σ H hx17_=>by
 obtain ⟨ρ,l,S,f,l',S',sim,ro,hm,p⟩:=hx17_
 obtain ⟨⟨x,S1⟩,q1,hm⟩:=bnd hm
 cases hm
 exact ⟨ρ,l,S,x,_,sim,ro,q1,λρ1 H1 x' e1 s1 r1=>p ρ1 H1 _ e1 s1 ((ro.mono e1).set j r1)⟩
end
noncomputable def zde (g:GM) (b:SM):List D->SM
 | [],l,S=>some (.nx,l,S)
 | x :: xs,l,S=>(g x l S).bind λp=>(b p.1 p.2).bind λq=>match q.1 with
  | .nx=>zde g b xs q.2.1 q.2.2
  | .ct=>zde g b xs q.2.1 q.2.2
  | .bk=>some (.nx,q.2)
  | .rt d=>some (.rt d,q.2)
noncomputable def zdf (g:GM) (b:SM) (n:Nat):Nat->Nat->SM
 | 0,_,_,_=>none
 | k+1,i,l,S=>(lstOf S n).bind λxs=>match xs[i]? with
  | none=>some (.nx,l,S)
  | some x=>(g x l S).bind λp=>(b p.1 p.2).bind λq=>match q.1 with
   | .nx=>zdf g b n k (i+1) q.2.1 q.2.2
   | .ct=>zdf g b n k (i+1) q.2.1 q.2.2
   | .bk=>some (.nx,q.2)
   | .rt d=>some (.rt d,q.2)
noncomputable def zcv (e:EM) (g:GM) (b:SM):SM:=λl S=>(e l S).bind λp=>match p.1 with
 | .tup xs=>zde g b xs l p.2
 | .ref n=>(lstOf p.2 n).bind λxs=>zdf g b n (xs.length+1) 0 l p.2
 | _=>none
noncomputable def zau (lo:Int) (n:Nat):List D:=(List.range n).map λ(i:Nat)=>.int (lo+i)
noncomputable def zbi (as:AM):Lo->Sto->Option ((Int × Nat) × Sto):=λl S=>(as l S).bind λp=>match p.1 with
 | [.int j]=>if -(2 ^ 62)<=j/\j<2 ^ 62 then some ((0,j.toNat),p.2) else none
 | _=>none
noncomputable def zgw (as:AM):Lo->Sto->Option ((Int × Nat) × Sto):=λl S=>(as l S).bind λp=>match p.1 with
 | [.int i,.int j]=>if -(2 ^ 62)<=i/\i<2 ^ 62/\-(2 ^ 62)<=j/\j<2 ^ 62 then some ((i,(j-i).toNat),p.2) else none
 | _=>none
noncomputable def zcw (r:Lo->Sto->Option ((Int × Nat) × Sto)) (g:GM) (b:SM):SM:=λl S=>(r l S).bind λp=>zde g b (zau p.1.1 p.1.2) l p.2
section
variable {K:QFg}{g:GM}{b:SM}{E:Ends}
theorem zlj {next:SM}{x:D}{v:V}{ρ:List Addr}{l:Lo}{S:Sto}{H:Hp}{σ:St}{f:Fl}{l':Lo}{S':Sto}(sim:Sim K ρ S H) (ro:RO ρ H l σ) (rx:RD ρ H x v)
  (hm:((g x l S).bind λp=>(b p.1 p.2).bind λq=>match q.1 with
   | .nx=>next q.2.1 q.2.2
   | .ct=>next q.2.1 q.2.2
   | .bk=>some (.nx,q.2)
   | .rt d=>some (.rt d,q.2))=some (f,l',S')) (p:∀ρ' H' σ',Ext ρ H ρ' H'->Sim K ρ' S' H'->RO ρ' H' l' σ'->zep ρ' H' E σ' f)
  {N:St->Hp->Prop} (hN:∀ρ1 H1 σ1 l1 S1,Ext ρ H ρ1 H1->Sim K ρ1 S1 H1->RO ρ1 H1 l1 σ1->next l1 S1=some (f,l',S')->N σ1 H1) :
  tg K g v σ H λσ2 H2=>ts K b { E with nx:=N,ct:=N,bk:=E.nx } σ2 H2:=by
 obtain ⟨⟨l1,S1⟩,q1,hm⟩:=bnd hm
 obtain ⟨⟨fl,l2,S2⟩,q2,hm⟩:=bnd hm
 refine ⟨ρ,l,S,x,l1,S1,sim,ro,rx,q1,λρ1 H1 σ1 e1 s1 r1=>⟨ρ1,l1,S1,fl,l2,S2,s1,r1,q2,λρ2 H2 σ2 e2 s2 r2=>?_⟩⟩
 cases fl with
 | nx=>exact hN ρ2 H2 σ2 l2 S2 (e1.trans e2) s2 r2 hm
 | ct=>exact hN ρ2 H2 σ2 l2 S2 (e1.trans e2) s2 r2 hm
 | bk=>cases hm;exact p ρ2 H2 σ2 (e1.trans e2) s2 r2
 | rt d=>cases hm;exact p ρ2 H2 σ2 (e1.trans e2) s2 r2
end
section
variable {X:Cx}{tgt iter:Expr}{body:List Stmt}{g:GM}{b:SM}{m:EM}{pos:Pos}
theorem zo6 {K:QFg}{J:It}{vs:List V}{xs:List D}{ρ:List Addr}{l:Lo}{S:Sto}{H:Hp}{σ:St}{f:Fl}{l':Lo}{S':Sto}{E:Ends}(R:List Addr->Hp->Prop) (hR:∀ρ H ρ' H',Ext ρ H ρ' H'->R ρ H->R ρ' H')
  (hgo:∀(i:Nat) ρ H v,R ρ H->vs[i]? = some v->J.go i H) (hy:∀(i:Nat) ρ H v H',R ρ H->i<vs.length->J.yld i H v H'->H' = H/\vs[i]? = some v) (hst:∀ρ H,R ρ H->J.stop vs.length H)
  (hv:∀ρ H,R ρ H->RDs ρ H xs vs) (r0:R ρ H)
  (sim:Sim K ρ S H) (ro:RO ρ H l σ) (hm:zde g b xs l S=some (f,l',S')) (p:∀ρ' H' σ',Ext ρ H ρ' H'->Sim K ρ' S' H'->RO ρ' H' l' σ'->zep ρ' H' E σ' f) :
  ∃W:Nat->Nat->St->Hp->Prop,(∃m,W 0 m σ H)/\∀i m σ H,W i m σ H ->
   (J.stop i H/\E.nx σ H)\/(J.go i H/\∃N:St->Hp->Prop,(∀σ' H',N σ' H'->∃m',m' < m/\W (i+1) m' σ' H')/\∀x H',J.yld i H x H'->tg K g x σ H' λσ2 H2=>ts K b { E with nx:=N,ct:=N,bk:=E.nx } σ2 H2):=by
 refine ⟨λi m σ1 H1=>m=xs.length-i/\i<=xs.length/\∃ρ1 l1 S1,Ext ρ H ρ1 H1/\Sim K ρ1 S1 H1/\RO ρ1 H1 l1 σ1/\zde g b (xs.drop i) l1 S1=some (f,l',S'),⟨xs.length,by simp,Nat.zero_le _,ρ,l,S,Ext.refl ..,sim,ro,hm⟩,?_⟩
 rintro i m σ1 H1 ⟨rfl,hi,ρ1,l1,S1,e1,s1,ro1,hm1⟩
 have R1:=hR _ _ _ _ e1 r0
 have hlen:=(hv _ _ r0).length
 by_cases hlt:i<xs.length
 ·have hx:xs[i]? = some xs[i]:=qge hlt
  obtain ⟨v,hvi,rv⟩:=(hv _ _ R1).get hx
  rw [List.drop_eq_getElem_cons hlt] at hm1
  refine .inr ⟨hgo i ρ1 H1 v R1 hvi,_,λσ' H' h=>h,λy H' hyl=>?_⟩
  obtain ⟨e,hy2⟩:=hy i ρ1 H1 y H' R1 (by omega) hyl
  subst e
  rw [hvi] at hy2;cases hy2
  refine zlj (next:=zde g b (xs.drop (i+1))) s1 ro1 rv hm1 (λρ' H' σ' e'=>p ρ' H' σ' (e1.trans e')) λρ2 H2 σ2 l2 S2 e2 s2 ro2 hm2=>?_
  exact ⟨xs.length-(i+1),by omega,rfl,hlt,ρ2,l2,S2,e1.trans e2,s2,ro2,hm2⟩
 ·have hil:i=xs.length:=by omega
  subst hil
  rw [List.drop_length] at hm1
  cases hm1
  exact .inl ⟨by rw [hlen];exact hst _ _ R1,p ρ1 H1 σ1 e1 s1 ro1⟩
theorem zo7 (ρ:List Addr) (H:Hp) (lo:Int) (n:Nat):RDs ρ H (zau lo n) ((List.range n).map λ(i:Nat)=>V.int (lo+i)):=by
 unfold zau
 generalize List.range n=l
 induction l with
 | nil=>exact .nil
 | cons a r ih=>exact .cons (.int _) ih
theorem zy7 {lo:Int}{n i:Nat}(h:i<n) (hv:v=.int (lo+i)):((List.range n).map λ(i:Nat)=>V.int (lo+i))[i]? = some v:=by
 rw [qgm,List.getElem?_range h,hv];rfl
theorem PI.or (h:PI X tgt iter wi) (h':PI X tgt iter wj):PI X tgt iter (λσ H R=>wi σ H R\/wj σ H R):=by
 intro pins s σ H R I q
 rcases q with q|q
 ·exact h pins s σ H R I q
 ·exact h' pins s σ H R I q
theorem zy8 {K:QFg}{n:Nat}{a:Addr}{ρ:List Addr}{l:Lo}{S:Sto}{H:Hp}{σ:St}{f:Fl}{l':Lo}{S':Sto}{E:Ends}{k:Nat}(ha:ρ[n]? = some a)
  (sim:Sim K ρ S H) (ro:RO ρ H l σ) (hm:zdf g b n k 0 l S=some (f,l',S')) (p:∀ρ' H' σ',Ext ρ H ρ' H'->Sim K ρ' S' H'->RO ρ' H' l' σ'->zep ρ' H' E σ' f) :
  ∃W:Nat->Nat->St->Hp->Prop,(∃m,W 0 m σ H)/\∀i m σ H,W i m σ H ->
   ((Itl K a).stop i H/\E.nx σ H)\/((Itl K a).go i H/\∃N:St->Hp->Prop,(∀σ' H',N σ' H'->∃m',m' < m/\W (i+1) m' σ' H')/\∀x H',(Itl K a).yld i H x H'->tg K g x σ H' λσ2 H2=>ts K b { E with nx:=N,ct:=N,bk:=E.nx } σ2 H2):=by
 refine ⟨λi m σ1 H1=>∃ρ1 l1 S1,Ext ρ H ρ1 H1/\Sim K ρ1 S1 H1/\RO ρ1 H1 l1 σ1/\zdf g b n m i l1 S1=some (f,l',S'),⟨k,ρ,l,S,Ext.refl ..,sim,ro,hm⟩,?_⟩
 rintro i m σ1 H1 ⟨ρ1,l1,S1,e1,s1,ro1,hm1⟩
 cases m with
 | zero=>cases hm1
 | succ m =>
  have ha1:=e1.pre n a ha
  unfold zdf at hm1
  obtain ⟨xs,hx,hm1⟩:=bnd hm1
  obtain ⟨a',vs,ha',sq,rv⟩:=s1.lstOf hx
  rw [ha1] at ha';cases ha'
  cases hi:xs[i]? with
  | none =>
   rw [hi] at hm1
   cases hm1
   have hl:xs.length<=i:=List.getElem?_eq_none_iff.mp hi
   exact .inl ⟨⟨vs,sq,by rw [<-rv.length];exact hl⟩,p ρ1 H1 σ1 e1 s1 ro1⟩
  | some x =>
   rw [hi] at hm1
   obtain ⟨v,hvi,r⟩:=rv.get hi
   refine .inr ⟨⟨vs,v,sq,hvi⟩,_,λσ' H' h=>h,λy H' hyl=>?_⟩
   obtain ⟨e,hy2⟩:=hyl
   subst e
   have hy3:=hy2 vs sq
   rw [hvi] at hy3;cases hy3
   refine zlj (next:=zdf g b n m (i+1)) s1 ro1 r hm1 (λρ' H' σ' e'=>p ρ' H' σ' (e1.trans e')) λρ2 H2 σ2 l2 S2 e2 s2 ro2 hm2=>?_
   exact ⟨m,Nat.lt_succ_self m,ρ2,l2,S2,e1.trans e2,s2,ro2,hm2⟩
theorem zgx (hp:PassesOwn (model X.prog X.w) X.A X.env X.xe) (hc:X.calm=true) (hi:PE3 X iter m) (hg:PG3 X tgt g) (hb:zc0 X body b)
  (hs:∀x,foldedSetIterable iter X.env x=pure x:=by intro _;rfl):PS3 X (.For tgt iter body [] pos) (zcv m g b) :=
 PS.imp (zkw hp hc (PI.or (zno hi) (znp hi)) hg hb hs) λE σ H hx18_=>by
  obtain ⟨ρ,l,S,f,l',S',sim,ro,hm,p⟩:=hx18_
  obtain ⟨⟨x,S1⟩,q1,hm⟩:=bnd hm
  dsimp only at hm
  split at hm
  ·rename_i xs
   refine .inr ⟨ρ,l,S,.tup xs,S1,sim,ro,q1,λρ1 H1 x' e1 s1 r1=>?_⟩
   cases r1 with
   | @tup xs a vs ha r =>
    refine ⟨a,rfl,⟨vs,SqT.of ha⟩,zo6 (vs:=vs) (λρ' H'=>H' a=some (.tup vs)/\RDs ρ' H' xs vs) (λρ H ρ' H' e ⟨h1,h2⟩=>⟨e.tup _ _ h1,h2.mono e⟩)
     (λi ρ H v ⟨h1,_⟩ hv=>⟨vs,v,SqT.of h1,hv⟩) (λi ρ H v H' ⟨h1,_⟩ _ hy=>⟨hy.1,hy.2 vs (SqT.of h1)⟩) (λρ H ⟨h1,_⟩=>⟨vs,SqT.of h1,qlr _⟩) (λρ H h=>h.2) ⟨ha,r⟩ s1 (ro.mono e1) hm λρ' H' σ' e'=>p ρ' H' σ' (e1.trans e')⟩
  ·rename_i n
   obtain ⟨xs,hx,hm⟩:=bnd hm
   refine .inl ⟨ρ,l,S,.ref n,S1,sim,ro,q1,λρ1 H1 x' e1 s1 r1=>?_⟩
   obtain ⟨a,vs,ha,sq,rv⟩:=s1.lstOf hx
   cases r1 with
   | ref hn =>
    rw [ha] at hn;cases hn
    exact ⟨a,rfl,⟨vs,sq⟩,zy8 ha s1 (ro.mono e1) hm (λρ' H' σ' e'=>p ρ' H' σ' (e1.trans e'))⟩
  ·cases hm
theorem zeu {a:Expr}{mA:AM}{p0 pos':Pos}(hp:PassesOwn (model X.prog X.w) X.A X.env X.xe) (hc:X.calm=true) (hgl:Gl X "range") (hmg:X.mg "range" = none) (ha:PA3 X [a] mA) (hg:PG3 X tgt g) (hb:zc0 X body b)
  (hs:∀x,foldedSetIterable (.Call (.Name "range" p0) [a] [] pos') X.env x=pure x:=by intro _;rfl) (hst:starEach [a] X.env=[(false,eval a X.env)]:=by rfl):PS3 X (.For tgt (.Call (.Name "range" p0) [a] [] pos') body [] pos) (zcw (zbi mA) g b) :=
 PS.imp (zkw hp hc (znr hgl hmg ha hst) hg hb hs) λE σ H hx19_=>by
  obtain ⟨ρ,l,S,f,l',S',sim,ro,hm,p⟩:=hx19_
  obtain ⟨⟨⟨lo,n⟩,S1⟩,q1,hm⟩:=bnd hm
  obtain ⟨⟨xs,S2⟩,q2,q1⟩:=bnd q1
  dsimp only at q1 hm
  split at q1
  ·rename_i j
   obtain ⟨hz,e⟩:=zbe q1
   cases e
   refine ⟨ρ,l,S,[.int j],S1,sim,ro,q2,λρ1 H1 vs e1 s1 r1=>?_⟩
   obtain ⟨v,rfl,rv⟩:=r1.one
   cases rv
   refine ⟨j,rfl,hz.1,hz.2,zo6 (vs:=(List.range j.toNat).map λ(i:Nat)=>V.int (0+i)) (λ_ _=>True) (λ_ _ _ _ _ h=>h) (λi ρ H v _ hv=>?_) (λi ρ H v H' _ hl hy=>⟨hy.1,?_⟩) (λρ H _=>?_) (λρ H _=>zo7 ρ H 0 j.toNat) trivial s1 (ro.mono e1) hm λρ' H' σ' e'=>p ρ' H' σ' (e1.trans e')⟩
   ·have:=(qme hv).1
    simp at this
    show i<j.toNat
    omega
   ·obtain ⟨_,hy⟩:=hy
    exact zy7 (by simpa using hl) hy
   ·show j.toNat<=_
    simp
  ·cases q1
end
noncomputable def zbp (n:Nat) (b:SM):FM:=λds S=>(b (ds.map some++List.replicate (n-ds.length) none) S).bind λp=>match p.1 with
 | .rt d=>some (d,p.2.2)
 | .nx=>some (.non,p.2.2)
 | _=>none
theorem RDs.locals (r:RDs ρ H ds vs) (N:List Str):RO ρ H (ds.map some++List.replicate (N.length-ds.length) none) (L2.start N vs):=by
 unfold L2.start
 rw [<-r.length]
 refine ⟨by simp [r.length],λi d h=>?_⟩
 by_cases hl:i<ds.length
 ·rw [List.getElem?_append_left (by simpa using hl),qgm] at h
  cases e:ds[i]? with
  | none=>rw [e] at h;cases h
  | some d' =>
   rw [e] at h
   have h':some (some d')=some (some d):=h
   cases h'
   obtain ⟨v,h1,h2⟩:=r.get e
   exact ⟨v,by rw [List.getElem?_append_left (by rw [qlm,<-r.length];exact hl),qgm,h1];rfl,h2⟩
 ·rw [List.getElem?_append_right (by simpa using hl),List.getElem?_replicate] at h
  split at h
  ·cases h
  ·cases h
theorem zo8 {P:Program}{w:World}{K:QFg}{mg:Str->Option Value}{base:Heap}{x qual:Str}{st:Stmt}{f:Addr}{fd:FuncData}{N ps:List Str}{k n:Nat}{b:SM}(F:Fun K x qual st f fd) (S:FnScope N ps (zax st)) (hn:ps.length=n)
  (hbody:∀(cdv:Value),PySem.W.codeIn K cdv qual=true->∀(A:Around) (outer:List Env) (s:Shared) (H:Hp) (E:XK),Room k (A.deeper (envOfC qual (zax st) s.heap.objs.size f cdv)) ->
   zc0 (zen CX0 P w K mg base N qual (zax st) f cdv A outer s H E).nox (zd8 st) b):FnOk P w K mg base CX0 (k+1) f fd ps (sp3 K n (zbp N.length b)):=by
 obtain ⟨oc,od,kV,doc,pm,an,cdv,ct,osl,rfl,lk,hcd⟩:=F.ex
 refine zw1 lk hcd S (λvs H Q E h=>by rw [h.1,hn]) λA outer s H vs Q E hr h=>?_
 obtain ⟨hl,ρ,ds,S0,v,S',sim,rd,hm,p⟩:=h
 refine ⟨_,PSs.nox (hbody cdv hcd A outer s H E hr),?_⟩
 obtain ⟨⟨fl,l',S1⟩,q,hm⟩:=bnd hm
 refine ⟨ρ,_,S0,fl,l',S1,sim,rd.locals N,q,λρ' H' σ' e' s' r'=>?_⟩
 cases fl with
 | nx=>cases hm;exact p ρ' H' _ e' s' .non
 | rt d=>cases hm;exact λv' rv=>p ρ' H' v' e' s' rv
 | bk=>cases hm
 | ct=>cases hm
noncomputable def zbq (env:Env):List (Str × NameKind)->List (Str × Addr)->List (Str × Addr)
 | [],cs=>cs
 | (n,k) :: r,cs=>if k == .free then (match env.cells.lookup n with|some c=>zbq env r ((n,c) :: cs)|none=>zbq env r cs) else zbq env r cs
theorem zo9 (env:Env):∀(names:List (Str × NameKind)) (cs:List (Str × Addr)),(∀x∈names,x.2=.free->∃c,env.cells.lookup x.1=some c) ->
  (forIn names cs (λx r=>if (x.2 == NameKind.free)=true then do let c <-cellOf env x.1;pure (ForInStep.yield ((x.1,c) :: r)) else pure (ForInStep.yield r)):Sem (List (Str × Addr)))=pure (zbq env names cs)
 | [],cs,_=>rfl
 | (n,k) :: r,cs,h=>by
  have ih:=λcs=>zo9 env r cs λx hx=>h x (List.mem_cons_of_mem _ hx)
  rw [List.forIn_cons]
  by_cases hk:k=.free
  ·subst hk
   obtain ⟨c,hc⟩:=h (n,.free) List.mem_cons_self rfl
   simp only [beq_self_eq_true,if_true,cellOf,hc,zbq,pure_bind,bind_assoc]
   exact ih _
  ·have hb:(k == NameKind.free)=false:=by simpa using hk
   simp only [hb,qbf,if_false,zbq,pure_bind]
   exact ih _
theorem zi9 (scope:Scope) (env:Env) (h:∀x∈scope.names,x.2=.free->∃c,env.cells.lookup x.1=some c):closureFor scope env=pure (zbq env scope.names []):=by
 have e:=zo9 env scope.names [] h
 unfold closureFor
 show (forIn scope.names ([]:List (Str × Addr)) (λ(x:Str × NameKind) (r:List (Str × Addr))=>if (x.2 == NameKind.free)=true then do let c <-cellOf env x.1;pure (ForInStep.yield ((x.1,c) :: r)) else pure (ForInStep.yield r)) >>= λcs=>pure cs)=_
 rw [e,pure_bind]
theorem zfr (env:Env):∀(names:List (Str × NameKind)) (cs:List (Str × Addr)),(∀x c,cs.lookup x=some c->env.cells.lookup x=some c)->∀x c,(zbq env names cs).lookup x=some c->env.cells.lookup x=some c
 | [],cs,h,x,c,q=>h x c q
 | (n,k) :: r,cs,h,x,c,q=>by
  unfold zbq at q
  split at q
  ·split at q
   ·rename_i c' e
    refine zfr env r _ (λy d hy=>?_) x c q
    rw [List.lookup_cons] at hy
    split at hy
    ·rename_i hb
     have:y=n:=by simpa using hb
     cases hy
     rw [this];exact e
    ·exact h y d hy
   ·exact zfr env r cs h x c q
  ·exact zfr env r cs h x c q
theorem zds (env:Env):∀(names:List (Str × NameKind)) (cs:List (Str × Addr)) (x:Str),((x,NameKind.free)∈names\/∃c,cs.lookup x=some c)->(∃c,env.cells.lookup x=some c)->∃c,(zbq env names cs).lookup x=some c
 | [],cs,x,h,_=>by
  rcases h with h|h
  ·cases h
  ·exact h
 | (n,k) :: r,cs,x,h,hx=>by
  unfold zbq
  by_cases hk:(k == NameKind.free)=true
  ·rw [if_pos hk]
   split
   ·rename_i c' e
    refine zds env r _ x ?_ hx
    by_cases hxn:x=n
    ·exact .inr ⟨c',by rw [hxn,List.lookup_cons];simp⟩
    ·rcases h with h|⟨c,h⟩
     ·rcases List.mem_cons.mp h with h|h
      ·cases h;exact absurd rfl hxn
      ·exact .inl h
     ·exact .inr ⟨c,by
       rw [List.lookup_cons]
       have:(x == n)=false:=by simpa using hxn
       rw [this];exact h⟩
   ·rename_i e
    refine zds env r _ x ?_ hx
    rcases h with h|h
    ·rcases List.mem_cons.mp h with h|h
     ·cases h
      obtain ⟨c,hc⟩:=hx
      rw [hc] at e;cases e
     ·exact .inl h
    ·exact .inr h
  ·rw [if_neg hk]
   refine zds env r _ x ?_ hx
   rcases h with h|h
   ·rcases List.mem_cons.mp h with h|h
    ·cases h;exact absurd rfl hk
    ·exact .inl h
   ·exact .inr h
noncomputable def cxC (X:Cx) (N':List Str) (scope:Scope) (C:Addr) (s:Shared) (H:Hp) (fp:List Addr) (pins:List (Addr × Obj)):Cx where
 prog:=X.prog
 w:=X.w
 K:=X.K
 mg:=X.mg
 base:=X.base
 A:=X.A
 N:=N'
 s₀:=s
 H₀:=H
 env:=compEnvC scope (zbq X.env scope.names []) C X.env
 outer:=X.stack
 stack:=X.stack
 ex:=fp
 fn:=λ_=>false
 calm:=X.calm
 pn:=X.pn++pins
 xe:=λ_ _=>False
section
theorem zy9 {elt target iter:Expr}{ifs:List Expr}{scope:Scope}{pos:Pos}{it acc:Value}{env:Env}(I:Nat->Shared->Prop)
  (turn:∀n s,I n s->wpAny (model prog w) A (pyNext it) (λr s₁=>match r with
   | none=>R (.ok .next) s₁
   | some v=>wpAny (model prog w) A (letOwnedTupleGo target it v) (λ_ s₁'=>wpAny (model prog w) A (assign target env v) (λ_ s₂ =>
     wpAny (model prog w) A (forIn ifs true λc r=>if r=true then do let ok <-isTrue c env (eval c env);pure (ForInStep.yield ok) else pure (ForInStep.yield r)) (λok s₃ =>
      if ok=true then wpAny (model prog w) A (eval elt env) (λx s₄ =>
       wpAny (model prog w) A (call (.builtin "list.append") [acc,x]) (λ_ s₅=>∃m,m<n/\I m s₅) (notedBy (model prog w) A env λe s'=>R (.error e) s') s₄) (notedBy (model prog w) A env λe s'=>R (.error e) s') s₃
      else ∃m,m<n/\I m s₃) (notedBy (model prog w) A env λe s'=>R (.error e) s') s₂) (notedBy (model prog w) A env λe s'=>R (.error e) s') s₁') (notedBy (model prog w) A env λe s'=>R (.error e) s') s₁) (notedBy (model prog w) A env λe s'=>R (.error e) s') s)
  (n:Nat) (h:I n s) :
  codeAny (model prog w) A (.compLoop (.ListComp elt [⟨target,iter,ifs,0⟩] scope pos) 0 it acc env) R s:=by
 refine codeAny_loop rfl I (λn s hI=>?_) n h
 show wpAny _ A ((compTurn (.ListComp elt [⟨target,iter,ifs,0⟩] scope pos) 0 it acc env).onRaise (λx=>do noteFrame x env;theTreesLotGoes x)) _ _ s
 refine wpAny_noted ?_
 rw [compTurn_list]
 refine qwb (wpAny_standAt (qwb (wpAny_mono (turn n s hI) (λr s₁ h₁=>?_) λ_ _ h'=>h')))
 cases r with
 | none=>exact qwp h₁
 | some v =>
  refine qwb (wpAny_mono h₁ (λ_ s₁' h₁=>?_) λ_ _ h'=>h')
  refine qwb (wpAny_mono h₁ (λ_ s₂ h₂=>qwb (wpAny_mono h₂ (λok s₃ h₃=>?_) λ_ _ h'=>h')) λ_ _ h'=>h')
  cases ok with
  | false=>exact qwp ⟨rfl,h₃⟩
  | true =>
   exact qwb (qwb (wpAny_mono h₃ (λx s₄ h₄=>qwb (wpAny_mono h₄ (λ_ s₅ h₅=>qwp (qwp ⟨rfl,h₅⟩)) λ_ _ h'=>h')) λ_ _ h'=>h'))
end
def PTs (X:Cx) (ifs:List Expr) (t:TT):Prop:=∀(pins:List (Addr × Obj)) (s:Shared) (σ:St) (H:Hp) (Q:Bool->Hp->Prop),Inv X pins σ H s->t σ H Q ->
 wpAny (model X.prog X.w) X.A (forIn ifs true λc r=>if r=true then do let ok <-isTrue c X.env (eval c X.env);pure (ForInStep.yield ok) else pure (ForInStep.yield r)) (TP X pins σ Q) X.xe s
theorem zza:PTs X [] (λ_ H Q=>Q true H):=λ_ _ _ H _ I h=>wpAny_tests_nil ⟨H,I,h⟩
theorem zzb (h:PT X c t):PTs X [c] t:=λpins s σ H Q I q=>wpAny_tests_one (h pins s σ H Q I q)
def zja (K:QFg) (wi:TI) (src:St->St) (g:TG) (tts:TT) (t:TE):TE:=λσ H Q=>wi σ H λJ H1=>∀D,H1 D=none->K.lookup D=none->∃W:Nat->Nat->St->Hp->Prop,
 (∃m,W 0 m (src σ) (upd H1 D (.lst [])))/\∀i m σ' H',W i m σ' H' ->
  (J.stop i H'/\Q (.ref D) H')\/(J.go i H'/\∃N:St->Hp->Prop,(∀σ' H',N σ' H'->∃m',m' < m/\W (i+1) m' σ' H') /\
   ∀x H'',J.yld i H' x H''->g x σ' H'' λσ2 H2=>tts σ2 H2 λb H3=>if b=true then t σ2 H3 (λv H4=>∃ys,H4 D=some (.lst ys)/\ys.length<sizeLine/\N σ2 (upd H4 D (.lst (ys++[v])))) else N σ2 H3)
theorem zhv {scope:Scope}{env:Env}:∀{names:List (Str × NameKind)}{x:Str},names.lookup x=some .free ->
  ((names.map λ(n,k)=>if (k == NameKind.free && env.scope.kind == .function && env.kindOf n == some .cell) then (n,NameKind.cell) else (n,k)).lookup x=some .cell \/
   (names.map λ(n,k)=>if (k == NameKind.free && env.scope.kind == .function && env.kindOf n == some .cell) then (n,NameKind.cell) else (n,k)).lookup x=some .free)
 | [],x,h=>by simp at h
 | (n,k) :: r,x,h=>by
  have ih:=@zhv scope env r x
  show List.lookup x ((if (k == NameKind.free && env.scope.kind == .function && env.kindOf n == some .cell)=true then (n,NameKind.cell) else (n,k)) :: _)=_\/List.lookup x ((if (k == NameKind.free && env.scope.kind == .function && env.kindOf n == some .cell)=true then (n,NameKind.cell) else (n,k)) :: _)=_
  cases hx:x == n with
  | true =>
   simp only [List.lookup_cons,hx] at h
   cases h
   by_cases hc:(NameKind.free == NameKind.free && env.scope.kind == .function && env.kindOf n == some .cell)=true
   ·rw [if_pos hc];simp [List.lookup_cons,hx]
   ·rw [if_neg hc];simp [List.lookup_cons,hx]
  | false =>
   simp only [List.lookup_cons,hx] at h
   by_cases hc:(k == NameKind.free && env.scope.kind == .function && env.kindOf n == some .cell)=true
   ·rw [if_pos hc];simp only [List.lookup_cons,hx];exact ih h
   ·rw [if_neg hc];simp only [List.lookup_cons,hx];exact ih h
structure CompSc (X:Cx) (N':List Str) (scope:Scope) (src:St->St):Prop where
 kind:scope.kind=.function
 nocell:∀y∈scope.names,y.2≠.cell
 names:∀y∈scope.names,y.2=.local->scope.names.lookup y.1=some .local
 free:∀y∈scope.names,y.2=.free->X.env.kindOf y.1=some .cell\/X.env.kindOf y.1=some .free
 rel:∀y,(relabel scope X.env).names.lookup y=some .cell\/(relabel scope X.env).names.lookup y=some .free->(y,NameKind.free)∈scope.names
 len:∀σ,(src σ).length=N'.length
 src:∀σ (i:Nat) v x,(src σ)[i]? = some (some v)->N'[i]? = some x->∃j:Nat,X.N[j]? = some x/\σ[j]? = some (some v)/\scope.names.lookup x=some .free
section
variable {K:QFg}{ρ ρ':List Addr}{H H':Hp}{S:Sto}
theorem Sim.notin (s:Sim K ρ S H) (h1:H a=none) (h2:K.lookup a=none):∀n:Nat,ρ[n]?≠some a:=λn hn=>by
 have hl:n<S.length:=by rw [<-s.len];exact (qme hn).1
 have q:=s.at' n a _ hn (qge hl)
 cases e:S[n] with
 | lst xs=>rw [e] at q;obtain ⟨vs,z,_⟩:=q;rw [h1] at z;cases z
 | flst xs =>
  rw [e] at q
  obtain ⟨vs,z,_⟩:=q
  rcases z with ⟨o,z⟩|⟨o,_,_,z,_⟩
  ·rw [h1] at z;cases z
  ·rw [h2] at z;cases z
 | iset g m=>rw [e] at q;have q:H a=_:=q;rw [h1] at q;cases q
 | dct kvs=>rw [e] at q;obtain ⟨vs,z,_⟩:=q;rw [h1] at z;cases z
 | tdct kvs=>rw [e] at q;obtain ⟨vs,z,_⟩:=q;rw [h1] at z;cases z
 | fdct kvs=>rw [e] at q;obtain ⟨o,vs,z,_⟩:=q;rw [h1] at z;cases z
 | ftdct kvs=>rw [e] at q;obtain ⟨o,vs,z,_⟩:=q;rw [h1] at z;cases z
 | tset ks=>rw [e] at q;obtain ⟨xs,_,z,_⟩:=q;rw [h1] at z;cases z
 | fnc x=>rw [e] at q;obtain ⟨_,o,z⟩:=q;rw [h2] at z;cases z
 | exc c=>rw [e] at q;obtain ⟨C,_,z⟩:=q;rw [h1] at z;cases z
 | tab x=>rw [e] at q;obtain ⟨_,_,_,_,z,_⟩:=q;rw [h1] at z;cases z
 | lam g caps=>rw [e] at q;obtain ⟨_,_,_,_,z,_⟩:=q;rw [h1] at z;cases z
 | dead=>rw [e] at q;obtain ⟨_,_,z,_⟩:=q;rw [h1] at z;cases z
theorem Sim.adopt (s:Sim K ρ S H) (ha:H a=some (.lst vs)) (hn:∀n:Nat,ρ[n]?≠some a) (r:RDs ρ H xs vs):Sim K (ρ++[a]) (S++[.lst xs]) H:=by
 refine ⟨by simp [s.len],λi j b x1 x2 h1 h2 h3 h4 m1 m2=>?_,λn b o h1 h2=>?_⟩
 ·rcases zbk h1 with g1|⟨e1,f1⟩ <;> rcases zbk h2 with g2|⟨e2,f2⟩
  ·rcases zbk h3 with h3|⟨e3,_⟩ <;> rcases zbk h4 with h4|⟨e4,_⟩
   ·exact s.nd i j b _ _ g1 g2 h3 h4 m1 m2
   ·have:=(qme g2).1;have:=s.len;lia
   ·have:=(qme g1).1;have:=s.len;lia
   ·lia
  ·subst f2;exact absurd g1 (hn i)
  ·subst f1;exact absurd g2 (hn j)
  ·lia
 ·rcases zbk h1 with h1|⟨e1,f1⟩
  ·rcases zbk h2 with h2|⟨e2,f2⟩
   ·exact (s.at' n b o h1 h2).more ext0_push
   ·have:=(qme h1).1;have:=s.len;lia
  ·subst f1
   rcases zbk h2 with h2|⟨e2,f2⟩
   ·have:=(qme h2).1;have:=s.len;lia
   ·subst f2
    exact ⟨vs,ha,r.mono0 ext0_push⟩
theorem Sim.beside (s:Sim K ρ S H) (ha:H a=some (.lst ys)) (hn:∀n:Nat,ρ[n]?≠some a):Sim K ρ S (upd H a u) :=
 ⟨s.len,s.nd,λn b o h1 h2=>(s.at' n b o h1 h2).written ha λ_ z=>hn n (by rw [h1,z])⟩
theorem Ext.beside (e:Ext ρ0 H0 ρ H) (h0:H0 a=none) (ha:H a=some (.lst ys)):Ext ρ0 H0 ρ (upd H a u) :=
 ⟨⟨e.pre,λb vs h=>by rw [zap (zc8 (e.tup b vs h) ha (by intro z;cases z))];exact e.tup b vs h,λb o vs h=>by rw [zap (zc8 (e.frz b o vs h) ha (by intro z;cases z))];exact e.frz b o vs h⟩,λb vs h n=>⟨by rw [zap (zbc h h0)];exact (e.out b vs h n).1,(e.out b vs h n).2⟩⟩
theorem Ext.adopt (e:Ext ρ0 H0 ρ H) (h0:H0 a=none):Ext ρ0 H0 (ρ++[a]) H :=
 ⟨⟨λn b h=>(ext0_push (H:=H)).pre n b (e.pre n b h),e.tup,e.frz⟩,λb vs h n=>⟨(e.out b vs h n).1,λi hi=>by
  rcases zbk hi with hi|⟨_,z⟩
  ·exact (e.out b vs h n).2 i hi
  ·rw [z,h0] at h;cases h⟩⟩
end
abbrev ItM:=Nat->Sto->Option (Option D)
abbrev IM:=Lo->Sto->Option (ItM × Nat × Sto)
def zec (K:QFg) (ρ:List Addr) (H:Hp) (it:ItM) (J:It):Prop:=∀(i:Nat) ρ' S' H',Ext ρ H ρ' H'->Sim K ρ' S' H' ->
 (it i S' = some none->J.stop i H')/\∀x,it i S' = some (some x)->J.go i H'/\∀y H'',J.yld i H' y H''->H'' = H'/\RD ρ' H' x y
inductive ti (K:QFg) (im:IM) (σ:St) (H:Hp) (R:It->Hp->Prop):Prop
 | mk (ρ:_) (l:_) (S:_) (it:_) (k:_) (S':_) (_:Sim K ρ S H) (_:RO ρ H l σ) (_:im l S=some (it,k,S')) (_:∀ρ' H' J,Ext ρ H ρ' H'->Sim K ρ' S' H'->zec K ρ' H' it J->R J H')
def PI3 (X:Cx) (tgt iter:Expr) (im:IM):Prop:=PI X tgt iter (ti X.K im)
theorem PI.imp {X:Cx}{tgt iter:Expr}{t u:TI}(h:PI X tgt iter t) (i:∀σ H R,u σ H R->t σ H R):PI X tgt iter u:=λpins s σ H Q I q=>h pins s σ H Q I (i _ _ _ q)
noncomputable def itX (xs:List D):ItM:=λi _=>some xs[i]?
noncomputable def itL (n:Nat):ItM:=λi S=>(lstOf S n).bind λxs=>some xs[i]?
noncomputable def zcp (e:EM):IM:=λl S=>(e l S).bind λp=>match p.1 with
 | .tup xs=>some (itX xs,xs.length+1,p.2)
 | .ref n=>(lstOf p.2 n).bind λxs=>some (itL n,xs.length+1,p.2)
 | _=>none
noncomputable def zed (r:Lo->Sto->Option ((Int × Nat) × Sto)):IM:=λl S=>(r l S).bind λp=>some (itX (zau p.1.1 p.1.2),p.1.2+1,p.2)
section
variable {K:QFg}
theorem zlk (ha:H a=some (.tup vs)) (r:RDs ρ H xs vs):zec K ρ H (itX xs) (Itt K a):=by
 intro i ρ' S' H' e s
 have ha':=SqT.of (K:=K) (e.tup _ _ ha)
 have r':=r.mono e
 refine ⟨λh=>?_,λx h=>?_⟩
 ·have h:xs[i]? = none:=qoi h
  exact ⟨vs,ha',by rw [<-r.length];exact List.getElem?_eq_none_iff.mp h⟩
 ·have h:xs[i]? = some x:=qoi h
  obtain ⟨v,hv,rv⟩:=r'.get h
  refine ⟨⟨vs,v,ha',hv⟩,λy H'' ⟨e1,e2⟩=>⟨e1,?_⟩⟩
  have:=e2 vs ha'
  rw [hv] at this;cases this
  exact rv
theorem zll (ha:ρ[n]? = some a):zec K ρ H (itL n) (Itl K a):=by
 intro i ρ' S' H' e s
 have ha':=e.pre _ _ ha
 refine ⟨λh=>?_,λx h=>?_⟩
 ·obtain ⟨xs,h1,h⟩:=bnd h
  have h:xs[i]? = none:=qoi h
  obtain ⟨b,vs,hb,sq,r⟩:=s.lstOf h1
  rw [ha'] at hb;cases hb
  exact ⟨vs,sq,by rw [<-r.length];exact List.getElem?_eq_none_iff.mp h⟩
 ·obtain ⟨xs,h1,h⟩:=bnd h
  have h:xs[i]? = some x:=qoi h
  obtain ⟨b,vs,hb,sq,r⟩:=s.lstOf h1
  rw [ha'] at hb;cases hb
  obtain ⟨v,hv,rv⟩:=r.get h
  refine ⟨⟨vs,v,sq,hv⟩,λy H'' ⟨e1,e2⟩=>⟨e1,?_⟩⟩
  have:=e2 vs sq
  rw [hv] at this;cases this
  exact rv
theorem zzc {lo:Int}{n:Nat}:zec K ρ H (itX (zau lo n)) (Itr lo n):=by
 intro i ρ' S' H' e s
 refine ⟨λh=>?_,λx h=>?_⟩
 ·have h:(zau lo n)[i]? = none:=qoi h
  have:=List.getElem?_eq_none_iff.mp h
  simp [zau] at this
  exact this
 ·have h:(zau lo n)[i]? = some x:=qoi h
  have hl:=(qme h).1
  simp only [zau,qlm,List.length_range] at hl
  refine ⟨hl,λy H'' ⟨e1,e2⟩=>⟨e1,?_⟩⟩
  unfold zau at h
  rw [qgm,List.getElem?_range hl] at h
  cases h
  rw [e2]
  exact .int _
end
section
variable {X:Cx}{tgt iter:Expr}{m:EM}{mA:AM}{p0 pos':Pos}{a a2:Expr}
theorem zee (hi:PE3 X iter m):PI3 X tgt iter (zcp m):=PI.imp (PI.or (zno hi) (znp hi)) λσ H R hx1_=>by
 obtain ⟨ρ,l,S,it,k,S',sim,ro,hm,p⟩:=hx1_
 obtain ⟨⟨x,S1⟩,q1,hm⟩:=bnd hm
 dsimp only at hm
 split at hm
 ·rename_i xs
  cases hm
  refine .inr ⟨ρ,l,S,.tup xs,_,sim,ro,q1,λρ1 H1 x' e1 s1 r1=>?_⟩
  cases r1 with
  | @tup xs a vs ha r=>exact ⟨a,rfl,⟨vs,SqT.of ha⟩,p ρ1 H1 _ e1 s1 (zlk ha r)⟩
 ·rename_i n
  obtain ⟨xs,hx,hm⟩:=bnd hm
  cases hm
  refine .inl ⟨ρ,l,S,.ref n,_,sim,ro,q1,λρ1 H1 x' e1 s1 r1=>?_⟩
  obtain ⟨a,vs,ha,sq,rv⟩:=s1.lstOf hx
  cases r1 with
  | ref hn =>
   rw [ha] at hn;cases hn
   exact ⟨a,rfl,⟨vs,sq⟩,p ρ1 H1 _ e1 s1 (zll ha)⟩
 ·cases hm
theorem zjb (hgl:Gl X "range") (hmg:X.mg "range" = none) (ha:PA3 X [a] mA) (hst:starEach [a] X.env=[(false,eval a X.env)]:=by rfl):PI3 X tgt (.Call (.Name "range" p0) [a] [] pos') (zed (zbi mA)) :=
 PI.imp (znr hgl hmg ha hst) λσ H R hx2_=>by
  obtain ⟨ρ,l,S,it,k,S',sim,ro,hm,p⟩:=hx2_
  obtain ⟨⟨⟨lo,n⟩,S1⟩,q1,hm⟩:=bnd hm
  cases hm
  obtain ⟨⟨xs,S2⟩,q2,q1⟩:=bnd q1
  dsimp only at q1
  split at q1
  ·rename_i j
   obtain ⟨hz,e⟩:=zbe q1
   cases e
   refine ⟨ρ,l,S,[.int j],_,sim,ro,q2,λρ1 H1 vs e1 s1 r1=>?_⟩
   obtain ⟨v,rfl,rv⟩:=r1.one
   cases rv
   exact ⟨j,rfl,hz.1,hz.2,p ρ1 H1 _ e1 s1 zzc⟩
  ·cases q1
end
noncomputable def zbx (it:ItM) (g:GM) (t:TM) (e:EM):Nat->Nat->Lo->Sto->Option (List D × Sto)
 | 0,_,_,_=>none
 | k+1,i,l,S=>(it i S).bind λo=>match o with
  | none=>some ([],S)
  | some x=>(g x l S).bind λp=>(t p.1 p.2).bind λq=>if q.1=true then (e p.1 q.2).bind λr=>(zbx it g t e k (i+1) p.1 r.2).bind λz=>some (r.1 :: z.1,z.2) else zbx it g t e k (i+1) p.1 q.2
noncomputable def za2 {α:Type}(ixs:List (Option Nat)) (l:List (Option α)):List (Option α):=ixs.map λo=>match o with
 | some j=>(l[j]?).join
 | none=>none
noncomputable def zb6 (im:IM) (ixs:List (Option Nat)) (g:GM) (t:TM) (e:EM):EM:=λl S=>(im l S).bind λp=>(zbx p.1 g t e p.2.1 0 (za2 ixs l) p.2.2).bind λz=>if z.1.length<=sizeLine then some (.ref z.2.length,z.2++[.lst z.1]) else none
noncomputable def zba:TM:=λ_ S=>some (true,S)
theorem zjc (ixs:List (Option Nat)) (r:RO ρ H l σ):RO ρ H (za2 ixs l) (za2 ixs σ):=by
 refine ⟨by simp [za2],λi d h=>?_⟩
 unfold za2 at h ⊢
 rw [qgm] at h ⊢
 cases e:ixs[i]? with
 | none=>rw [e] at h;cases h
 | some o =>
  rw [e] at h
  cases o with
  | none=>cases h
  | some j =>
   have h:((l[j]?).join:Option D)=some d:=qoi h
   cases e2:l[j]? with
   | none=>rw [e2] at h;cases h
   | some o2 =>
    rw [e2] at h
    have h:o2=some d:=h
    subst h
    obtain ⟨v,h1,h2⟩:=r.get j d e2
    exact ⟨v,by show some ((σ[j]?).join)=_;rw [h1];rfl,h2⟩
inductive CI3 (K:QFg) (it:ItM) (g:GM) (t:TM) (e:EM) (S2:Sto) (all:List D) (ρ1:List Addr) (H1:Hp) (Da:Addr) (i m:Nat) (σ':St) (H':Hp):Prop
 | mk (ρ':List Addr) (l':Lo) (S':Sto) (ds:List D) (vs:List V) (rest:List D) (_:Ext ρ1 H1 ρ' H') (_:Sim K ρ' S' H') (_:RO ρ' H' l' σ') (_:H' Da=some (.lst vs)) (_:(∀n:Nat,ρ'[n]?≠some Da)) (_:RDs ρ' H' ds vs) (_:zbx it g t e m i l' S' = some (rest,S2)) (_:ds++rest=all)
theorem zpa {K:QFg}{im:IM}{ixs:List (Option Nat)}{g:GM}{t:TM}{e:EM}(σ:St) (H:Hp) (Q:VK) (q:te K (zb6 im ixs g t e) σ H Q):zja K (ti K im) (za2 ixs) (tg K g) (tt K t) (te K e) σ H Q:=by
 obtain ⟨ρ,l,S,v,S',sim,ro,hm,p⟩:=q
 obtain ⟨⟨it,k,S1⟩,q1,hm⟩:=bnd hm
 obtain ⟨⟨all,S2⟩,q2,hm⟩:=bnd hm
 obtain ⟨hz,he⟩:=zbe hm
 cases he
 refine ⟨ρ,l,S,it,k,S1,sim,ro,q1,λρ1 H1 J e1 s1 io D hD hK=>?_⟩
 dsimp only at q2 hz p
 refine ⟨λi m σ' H'=>CI3 K it g t e S2 all ρ1 H1 D i m σ' H',⟨k,?_⟩,?_⟩
 ·exact ⟨ρ1,za2 ixs l,S1,[],[],all,zbh hD,s1.laid hD,(zjc ixs (ro.mono e1)).mono (zbh hD),zbw,s1.notin hD hK,.nil,q2,rfl⟩
 ·rintro i m σ' H' ⟨ρ',l',S',ds,vs,rest,e2,s2,ro2,hD2,hn2,rd2,hc,hall⟩
  cases m with
  | zero=>cases hc
  | succ m =>
   unfold zbx at hc
   obtain ⟨o,ho,hc⟩:=bnd hc
   obtain ⟨iStop,iGo⟩:=io i ρ' S' H' e2 s2
   cases o with
   | none =>
    cases hc
    rw [List.append_nil] at hall
    subst hall
    refine .inl ⟨iStop ho,p (ρ'++[D]) H' (.ref D) (e1.trans (e2.adopt hD)) (s2.adopt hD2 hn2 rd2) (.ref ?_)⟩
    rw [<-s2.len];exact zfe ρ' D
   | some x =>
    obtain ⟨⟨l3,S3⟩,q3,hc⟩:=bnd hc
    obtain ⟨⟨b,S4⟩,q4,hc⟩:=bnd hc
    obtain ⟨hgo,hy⟩:=iGo x ho
    refine .inr ⟨hgo,_,λσ' H' h=>h,λy H'' hyl=>?_⟩
    obtain ⟨rfl,ry⟩:=hy y H'' hyl
    refine ⟨ρ',l',S',x,l3,S3,s2,ro2,ry,q3,λρ3 H3 σ3 e3 s3 ro3=>⟨ρ3,l3,S3,b,S4,s3,ro3,q4,λρ4 H4 e4 s4=>?_⟩⟩
    obtain ⟨hD3,hn3⟩:=e3.out D _ hD2 hn2
    obtain ⟨hD4,hn4⟩:=e4.out D _ hD3 hn3
    cases b with
    | false=>exact zd1 ⟨m,Nat.lt_succ_self m,ρ4,l3,S4,ds,vs,rest,e2.trans (e3.trans e4),s4,ro3.mono e4,hD4,hn4,rd2.mono (e3.trans e4),hc,hall⟩
    | true =>
     have hc:((e l3 S4).bind λr=>(zbx it g t e m (i+1) l3 r.2).bind λz=>some (r.1 :: z.1,z.2))=some (rest,S2):=hc
     obtain ⟨⟨y5,S5⟩,q5,hc⟩:=bnd hc
     obtain ⟨⟨rest',S6⟩,q6,hc⟩:=bnd hc
     cases hc
     refine zd2 ⟨ρ4,l3,S4,y5,S5,s4,ro3.mono e4,q5,λρ5 H5 v5 e5 s5 r5=>?_⟩
     obtain ⟨hD5,hn5⟩:=e5.out D _ hD4 hn4
     have e25:=e2.trans (e3.trans (e4.trans e5))
     have rd5:=rd2.mono (e3.trans (e4.trans e5))
     have hlen:vs.length<sizeLine:=by
      have h1:=rd5.length
      have h2:=congrArg List.length hall
      rw [qla,List.length_cons] at h2
      lia
     refine ⟨vs,hD5,hlen,m,Nat.lt_succ_self m,ρ5,l3,S5,ds++[y5],vs++[v5],rest',e25.beside hD hD5,s5.beside hD5 hn5,?_,zbw,hn5,((rd5.append (.cons r5 .nil)).mono0 (zgr hD5)),q6,by rw [<-hall];simp⟩
     have r0:=(ro3.mono e4).mono e5
     exact ⟨r0.len,λi d h=>let ⟨w,h1,h2⟩:=r0.get i d h;⟨w,h1,h2.mono0 (zgr hD5)⟩⟩
theorem zdt:PTs X [] (tt X.K zba):=λpins s σ H Q I hx4_=>by
 obtain ⟨ρ,l,S,v,S',sim,ro,hm,p⟩:=hx4_
 cases hm
 exact zza pins s σ H Q I (p ρ H (Ext.refl ..) sim)
theorem zlm (h:PT3 X c t):PTs X [c] (tt X.K t):=zzb h
noncomputable def zln:D->D->Sto->Option (D × Sto)
 | .int i,.int j,S=>some (.int (i+j),S)
 | .tup xs,.tup ys,S=>if xs.length+ys.length<=sizeLine then some (.tup (xs++ys),S) else none
 | .ref n,.ref m,S=>match S[n]?,S[m]? with
  | some (.lst xs),some (.lst ys)=>if xs.length+ys.length<=sizeLine then some (.ref S.length,S++[.lst (xs++ys)]) else none
  | _,_=>none
 | _,_,_=>none
theorem zzd {K:QFg}:Op3 K zln (λx y H Q=>rI0 (λi j=>.int (i+j)) x y H Q\/(zk1 K x y H Q\/zlh K x y H Q)\/zol x y H Q):=by
 intro ρ S H x y x' y' v S' Q sim rx ry h p
 unfold zln at h
 split at h
 ·cases rx;cases ry;cases h
  exact .inl ⟨_,_,rfl,rfl,p ρ H _ (Ext.refl ..) sim (.int _)⟩
 ·refine .inr (.inl (zyw ρ S H _ _ x' y' v S' Q sim rx ry ?_ p))
  unfold zlg
  exact h
 ·split at h
  ·rename_i xs ys e1 e2
   obtain ⟨hz,e⟩:=zbe h
   cases e
   obtain ⟨a,us,ha,hH,r2⟩:=sim.lst e1
   obtain ⟨b,ws,hb,hH2,r3⟩:=sim.lst e2
   cases rx with
   | ref hn =>
    rw [ha] at hn;cases hn
    cases ry with
    | ref hm =>
     rw [hb] at hm;cases hm
     exact .inr (.inr ⟨a,b,us,ws,rfl,rfl,hH,hH2,by rw [<-r2.length,<-r3.length];exact hz,zfh sim (r2.append r3) p⟩)
  ·cases h
 ·cases h
section
end
def Has (P:Program) (w:World) (K:QFg) (mg:Str->Option Value) (base:Heap) (x:Str) (k n:Nat) (m:FM):Prop :=
 ∃(f:Addr) (fd:FuncData) (ps:List Str),FnOk P w K mg base CX0 k f fd ps (sp3 K n m)/\mg x=some (.ref f)/\PySem.W.keepIn K (.ref f)=true/\Binds K fd ps []
section
theorem za1 (F:Has X.prog X.w X.K X.mg X.base x k n m) (hr:Room j X.A) (hkj:k<=j) (hg:Gl X x)
  (ha:PA3 X (a :: es) mA) (hl:∀l S v S',mA l S=some (v,S')->v.length=n) (hdb:(x == ("__debug__":Str))=false:=by decide) (he:starEach (a :: es) X.env=(false,eval a X.env) :: starEach es X.env:=by rfl) (hpl:(backTo pos (starEach es X.env)).any (·.1)=false:=by rfl) :
  PE3 X (.Call (.Name x p) (a :: es) [] pos) (zaf m mA):=by
 obtain ⟨f,fd,ps,F,hm,hk,hb⟩:=F
 exact zy5 F (hr.mono hkj) hg hm hk hb ha hl hdb he hpl
theorem zze:bootBuiltins "abs" = some (.builtin "abs"):=by decide +kernel
theorem zzf:bootBuiltins "int" = some (.type "int"):=by decide +kernel
theorem zpb:bootBuiltins "tuple" = some (.type "tuple"):=by decide +kernel
theorem zzg:bootBuiltins "list" = some (.type "list"):=by decide +kernel
theorem zpc:bootBuiltins "bool" = some (.type "bool"):=by decide +kernel
theorem zzh:bootBuiltins "min" = some (.builtin "min"):=by decide +kernel
theorem zzi:bootBuiltins "max" = some (.builtin "max"):=by decide +kernel
theorem zlo (hg:Gl X "abs") (hm:X.mg "abs" = none) (ha:PA3 X (a :: es) mA) (he:starEach (a :: es) X.env=(false,eval a X.env) :: starEach es X.env:=by rfl) (hpl:(backTo pos (starEach es X.env)).any (·.1)=false:=by rfl):PE3 X (.Call (.Name "abs" p) (a :: es) [] pos) (zaf zfl mA) :=
 zfi zwn zyy hg hm zze ha (by decide) (by decide) he hpl
theorem zfs (hg:Gl X "tuple") (hm:X.mg "tuple" = none) (ha:PA3 X (a :: es) mA) (he:starEach (a :: es) X.env=(false,eval a X.env) :: starEach es X.env:=by rfl) (hpl:(backTo pos (starEach es X.env)).any (·.1)=false:=by rfl):PE3 X (.Call (.Name "tuple" p) (a :: es) [] pos) (zaf zdq mA) :=
 zyk zxp zyz hg hm zpb ha (by decide) (by decide) he hpl
end
theorem zzj {P:Program}{w:World}{K:QFg}{mg:Str->Option Value}{base:Heap}{x:Str}{st:Stmt}{f:Addr}{fd:FuncData}{N ps:List Str}{k n:Nat}{b:SM}(F:Fun K x x st f fd) (hm:mg x=some (.ref f)) (S:FnScope N ps (zax st)) (hn:ps.length=n) (hb:Binds K fd ps [])
  (hbody:∀(cdv:Value),PySem.W.codeIn K cdv x=true->∀(A:Around) (outer:List Env) (s:Shared) (H:Hp) (E:XK),Room k (A.deeper (envOfC x (zax st) s.heap.objs.size f cdv)) ->
   zc0 (zen CX0 P w K mg base N x (zax st) f cdv A outer s H E).nox (zd8 st) b):Has P w K mg base x (k+1) n (zbp N.length b) :=
 ⟨f,fd,ps,zo8 F S hn hbody,hm,F.kp,hb⟩
noncomputable def chk (scO scope:Scope) (NO N':List Str) (ixs:List (Option Nat)):Bool :=
 decide (scope.kind=.function) && (scope.names.all λy=>y.2 != .cell) && (scope.names.all λy=>y.2 != .local || scope.names.lookup y.1 == some .local) &&
 (scope.names.all λy=>y.2 != .free || (scO.names.lookup y.1 == some .cell || scO.names.lookup y.1 == some .free)) && (ixs.length == N'.length) &&
 ((List.range ixs.length).all λi=>match ixs[i]? with|some (some j)=>(NO[j]? == N'[i]? && (match N'[i]? with|some x=>scope.names.lookup x == some .free|none=>false))|_=>true)
theorem zjd (hX:X.env.scope=scO) (hN:X.N=NO) (h:chk scO scope NO N' ixs=true):CompSc X N' scope (za2 ixs):=by
 unfold chk at h
 simp only [Bool.and_eq_true,decide_eq_true_eq,List.all_eq_true,beq_iff_eq,Bool.or_eq_true,bne_iff_ne,ne_eq] at h
 obtain ⟨⟨⟨⟨⟨h1,h2⟩,h3⟩,h4⟩,h5⟩,h6⟩:=h
 refine ⟨h1,h2,λy hy hl=>?_,λy hy hl=>?_,λy hy=>?_,λσ=>by simp [za2,h5],λσ i v x hv hx=>?_⟩
 ·rcases h3 y hy with z|z
  ·exact absurd hl z
  ·exact z
 ·show X.env.scope.names.lookup y.1=_\/X.env.scope.names.lookup y.1=_
  rw [hX]
  rcases h4 y hy with z|z
  ·exact absurd hl z
  ·exact z
 ·have mem:∃k,(k=NameKind.cell\/k=NameKind.free)/\(y,k)∈(relabel scope X.env).names:=by
   rcases hy with z|z
   ·exact ⟨_,.inl rfl,PySem.mem_of_lookup z⟩
   ·exact ⟨_,.inr rfl,PySem.mem_of_lookup z⟩
  obtain ⟨k,hk,hm⟩:=mem
  unfold relabel at hm
  obtain ⟨⟨n,k'⟩,hm1,hm2⟩:=List.mem_map.mp hm
  dsimp only at hm2
  split at hm2
  ·rename_i hc
   have:k' = .free:=by
    rw [Bool.and_eq_true,Bool.and_eq_true] at hc
    exact eq_of_beq hc.1.1
   cases hm2
   rw [<-this];exact hm1
  ·cases hm2
   rcases hk with z|z
   ·exact absurd z (h2 _ hm1)
   ·rw [<-z];exact hm1
 ·have hl:i<ixs.length:=by
   have:=(qme hv).1
   simpa [za2] using this
  unfold za2 at hv
  rw [qgm] at hv
  have q:=h6 i (List.mem_range.mpr hl)
  cases e:ixs[i]? with
  | none=>rw [e] at hv;cases hv
  | some o =>
   rw [e] at hv
   cases o with
   | none=>cases hv
   | some j =>
    rw [e] at q
    dsimp only at q
    rw [hx] at q
    simp only [Bool.and_eq_true,beq_iff_eq] at q
    have hv:((σ[j]?).join:Option V)=some v:=qoi hv
    refine ⟨j,by rw [hN];exact q.1,?_,q.2⟩
    cases e2:σ[j]? with
    | none=>rw [e2] at hv;cases hv
    | some o2=>rw [e2] at hv;have hv:o2=some v:=hv;rw [hv]
theorem zzk {K:QFg}{H:Hp}{a:Addr}{ns:List Int}{m:FM}(hO:zi1 H) (hS:SqL K H a (ns.map V.int)) (h:∃S',m [.ref 0] [.flst (ns.map D.int)]=some (.bl true,S')):sp3 K 1 m [.ref a] H (λv _=>v=.bl true) λ_ _ _=>False:=by
 obtain ⟨S',h⟩:=h
 have rn:∀ns:List Int,RDs [a] H (ns.map D.int) (ns.map V.int):=λns=>by
  induction ns with
  | nil=>exact .nil
  | cons x r ih=>exact .cons (.int x) ih
 refine ⟨rfl,[a],[.ref 0],_,_,S',⟨rfl,λi j b o1 o2 h1 h2 h3 h4 m1 m2=>?_,λn b o h1 h2=>?_⟩,.cons (.ref rfl) .nil,h,λρ' H' v' e s r=>?_⟩
 ·cases i with
  | zero=>cases h3;cases m1
  | succ i=>cases h3
 ·cases n with
  | succ n=>cases h1
  | zero =>
   cases h1;cases h2
   refine ⟨_,?_,rn ns⟩
   rcases hS with (z|⟨o,z⟩)|z
   ·rcases hO a with y|⟨o,xs,y⟩ <;> (rw [z] at y;cases y)
   ·exact .inl ⟨o,z⟩
   ·exact .inr z
 ·cases r;rfl
noncomputable def top (b:List Stmt) (i:Nat):Stmt:=b.getD i (.Pass ⟨0,0,0,0⟩)
def We (m:EM) (l:Lo) (S:Sto) (Q:D->Sto->Prop):Prop:=∃v S',m l S=some (v,S')/\Q v S'
def Wt (m:TM) (l:Lo) (S:Sto) (Q:Bool->Sto->Prop):Prop:=∃v S',m l S=some (v,S')/\Q v S'
def Wa (m:AM) (l:Lo) (S:Sto) (Q:List D->Sto->Prop):Prop:=∃v S',m l S=some (v,S')/\Q v S'
def Wo (o:Option (D × Sto)) (Q:D->Sto->Prop):Prop:=∃v S',o=some (v,S')/\Q v S'
def Wg (o:Option (Lo × Sto)) (Q:Lo->Sto->Prop):Prop:=∃l S',o=some (l,S')/\Q l S'
def Wr (o:Option (Fl × Lo × Sto)) (Q:Fl->Lo->Sto->Prop):Prop:=∃f l S',o=some (f,l,S')/\Q f l S'
abbrev Ws (m:SM) (l:Lo) (S:Sto) (Q:Fl->Lo->Sto->Prop):Prop:=Wr (m l S) Q
section
theorem zam {i:Nat}:We (zaa i) l S Q = ∃d,l[i]? = some (some d)/\Q d S:=by
 apply propext;unfold We zaa
 constructor
 ·rintro ⟨v,S',h,q⟩
  split at h
  ·rename_i d e;cases h;exact ⟨_,e,q⟩
  ·cases h
 ·rintro ⟨d,e,q⟩
  exact ⟨d,S,by rw [e],q⟩
theorem za6:We (eC d) l S Q=Q d S:=by
 apply propext;unfold We eC
 exact ⟨λhx1_=>by obtain ⟨v,S',h,q⟩:=hx1_;cases h;exact q,λq=>⟨_,_,rfl,q⟩⟩
theorem za9 {f:D->D->Sto->Option (D × Sto)}:We (eOp f a b) l S Q=We a l S λx S1=>We b l S1 λy S2=>Wo (f x y S2) Q:=by
 apply propext
 constructor
 ·rintro ⟨v,S',h,q⟩
  obtain ⟨⟨x,S1⟩,h1,h⟩:=bnd h
  obtain ⟨⟨y,S2⟩,h2,h⟩:=bnd h
  exact ⟨x,S1,h1,y,S2,h2,v,S',h,q⟩
 ·rintro ⟨x,S1,h1,y,S2,h2,v,S',h,q⟩
  exact ⟨v,S',by unfold eOp;rw [h1];show (b l S1).bind _=_;rw [h2];exact h,q⟩
theorem zhw {f:D->Sto->Option (D × Sto)}:We (eUn f a) l S Q=We a l S λx S1=>Wo (f x S1) Q:=by
 apply propext
 constructor
 ·rintro ⟨v,S',h,q⟩
  obtain ⟨⟨x,S1⟩,h1,h⟩:=bnd h
  exact ⟨x,S1,h1,v,S',h,q⟩
 ·rintro ⟨x,S1,h1,v,S',h,q⟩
  exact ⟨v,S',by unfold eUn;rw [h1];exact h,q⟩
theorem zav:Wa zae l S QA=QA [] S:=by
 apply propext
 exact ⟨λhx2_=>by obtain ⟨v,S',h,q⟩:=hx2_;cases h;exact q,λq=>⟨_,_,rfl,q⟩⟩
theorem zaw:Wa (zac a r) l S QA=We a l S λx S1=>Wa r l S1 λxs S2=>QA (x :: xs) S2:=by
 apply propext
 constructor
 ·rintro ⟨v,S',h,q⟩
  obtain ⟨⟨x,S1⟩,h1,h⟩:=bnd h
  obtain ⟨⟨y,S2⟩,h2,h⟩:=bnd h
  cases h
  exact ⟨x,S1,h1,y,_,h2,q⟩
 ·rintro ⟨x,S1,h1,y,S2,h2,q⟩
  exact ⟨x :: y,S2,by unfold zac;rw [h1];show (r l S1).bind _=_;rw [h2];rfl,q⟩
theorem zaz:We (zaf f r) l S Q=Wa r l S λxs S1=>Wo (f xs S1) Q:=by
 apply propext
 constructor
 ·rintro ⟨v,S',h,q⟩
  obtain ⟨⟨x,S1⟩,h1,h⟩:=bnd h
  exact ⟨x,S1,h1,v,S',h,q⟩
 ·rintro ⟨x,S1,h1,v,S',h,q⟩
  exact ⟨v,S',by unfold zaf;rw [h1];exact h,q⟩
theorem zdu {f:D->List D->Sto->Option (D × Sto)}:We (zb5 f a r) l S Q=We a l S λx S1=>(∃xs,zgu x S1=some xs)/\Wa r l S1 λys S2=>Wo (f x ys S2) Q:=by
 apply propext
 constructor
 ·rintro ⟨v,S',h,q⟩
  obtain ⟨⟨x,S1⟩,h1,h⟩:=bnd h
  obtain ⟨xs,h2,h⟩:=bnd h
  obtain ⟨⟨y,S2⟩,h3,h⟩:=bnd h
  exact ⟨x,S1,h1,⟨xs,h2⟩,y,S2,h3,v,S',h,q⟩
 ·rintro ⟨x,S1,h1,⟨xs,h2⟩,y,S2,h3,v,S',h,q⟩
  refine ⟨v,S',?_,q⟩
  unfold zb5;rw [h1];show (zgu x S1).bind _=_;rw [h2];show (r l S1).bind _=_;rw [h3];exact h
theorem zb0:Wt (tE a) l S QB=We a l S λx S1=>∃k,x=.bl k/\QB k S1:=by
 apply propext
 constructor
 ·rintro ⟨v,S',h,q⟩
  obtain ⟨⟨x,S1⟩,h1,h⟩:=bnd h
  refine ⟨x,S1,h1,?_⟩
  cases x with
  | bl k=>cases h;exact ⟨_,rfl,q⟩
  | _=>cases h
 ·rintro ⟨x,S1,h1,k,rfl,q⟩
  exact ⟨k,S1,by unfold tE;rw [h1];rfl,q⟩
theorem zft:Wt (zcm t u) l S QB=Wt t l S λk S1=>if k=true then Wt u l S1 QB else QB false S1:=by
 apply propext
 constructor
 ·rintro ⟨v,S',h,q⟩
  obtain ⟨⟨x,S1⟩,h1,h⟩:=bnd h
  refine ⟨x,S1,h1,?_⟩
  cases x with
  | true=>exact ⟨v,S',h,q⟩
  | false=>cases h;exact q
 ·rintro ⟨x,S1,h1,h⟩
  cases x with
  | true=>obtain ⟨v,S',h,q⟩:=h;exact ⟨v,S',by unfold zcm;rw [h1];exact h,q⟩
  | false=>exact ⟨false,S1,by unfold zcm;rw [h1];rfl,h⟩
theorem zfu:Wt (zdl t u) l S QB=Wt t l S λk S1=>if k=true then QB true S1 else Wt u l S1 QB:=by
 apply propext
 constructor
 ·rintro ⟨v,S',h,q⟩
  obtain ⟨⟨x,S1⟩,h1,h⟩:=bnd h
  refine ⟨x,S1,h1,?_⟩
  cases x with
  | false=>exact ⟨v,S',h,q⟩
  | true=>cases h;exact q
 ·rintro ⟨x,S1,h1,h⟩
  cases x with
  | false=>obtain ⟨v,S',h,q⟩:=h;exact ⟨v,S',by unfold zdl;rw [h1];exact h,q⟩
  | true=>exact ⟨true,S1,by unfold zdl;rw [h1];rfl,h⟩
theorem zef:Wt (zdb t) l S QB=Wt t l S λk S1=>QB (!k) S1:=by
 apply propext
 constructor
 ·rintro ⟨v,S',h,q⟩
  obtain ⟨⟨x,S1⟩,h1,h⟩:=bnd h
  cases h
  exact ⟨x,_,h1,q⟩
 ·rintro ⟨x,S1,h1,q⟩
  exact ⟨!x,S1,by unfold zdb;rw [h1];rfl,q⟩
theorem zhx:Wt zba l S QB=QB true S:=by
 apply propext
 exact ⟨λhx3_=>by obtain ⟨v,S',h,q⟩:=hx3_;cases h;exact q,λq=>⟨_,_,rfl,q⟩⟩
theorem zje:We (zd9 a b) l S Q=We a l S λx S1=>∃k,x=.bl k/\if k=true then We b l S1 Q else Q (.bl false) S1:=by
 apply propext
 constructor
 ·rintro ⟨v,S',h,q⟩
  obtain ⟨⟨x,S1⟩,h1,h⟩:=bnd h
  refine ⟨x,S1,h1,?_⟩
  cases x with
  | bl k =>
   cases k with
   | true=>exact ⟨true,rfl,v,S',h,q⟩
   | false=>cases h;exact ⟨false,rfl,q⟩
  | _=>cases h
 ·rintro ⟨x,S1,h1,k,rfl,h⟩
  cases k with
  | true=>obtain ⟨v,S',h,q⟩:=h;exact ⟨v,S',by unfold zd9;rw [h1];exact h,q⟩
  | false=>exact ⟨_,S1,by unfold zd9;rw [h1];rfl,h⟩
theorem zlp:We (zho a) l S Q=We a l S λx S1=>∃k,x=.bl k/\Q (.bl (!k)) S1:=by
 apply propext
 constructor
 ·rintro ⟨v,S',h,q⟩
  obtain ⟨⟨x,S1⟩,h1,h⟩:=bnd h
  refine ⟨x,S1,h1,?_⟩
  cases x with
  | bl k=>cases h;exact ⟨k,rfl,q⟩
  | _=>cases h
 ·rintro ⟨x,S1,h1,k,rfl,h⟩
  exact ⟨_,S1,by unfold zho;rw [h1];rfl,h⟩
theorem zcj:Ws zbr l S QS=QS .nx l S:=by
 apply propext
 exact ⟨λhx4_=>by obtain ⟨f,v,S',h,q⟩:=hx4_;cases h;exact q,λq=>⟨_,_,_,rfl,q⟩⟩
theorem zjf:Ws (zal m n) l S QS=Ws m l S λf l1 S1=>match f with | .nx=>Ws n l1 S1 QS|f=>QS f l1 S1:=by
 apply propext
 constructor
 ·rintro ⟨f,v,S',h,q⟩
  obtain ⟨⟨g,l1,S1⟩,h1,h⟩:=bnd h
  refine ⟨g,l1,S1,h1,?_⟩
  cases g with
  | nx=>exact ⟨f,v,S',h,q⟩
  | _=>cases h;exact q
 ·rintro ⟨g,l1,S1,h1,h⟩
  cases g with
  | nx=>obtain ⟨f,v,S',h,q⟩:=h;exact ⟨f,v,S',by unfold zal;rw [h1];exact h,q⟩
  | bk=>exact ⟨_,_,_,by unfold zal;rw [h1];rfl,h⟩
  | ct=>exact ⟨_,_,_,by unfold zal;rw [h1];rfl,h⟩
  | rt d=>exact ⟨_,_,_,by unfold zal;rw [h1];rfl,h⟩
theorem za3 (R:Lo->Sto->Prop) (h1:Ws m l S λf l1 S1=>f=.nx/\R l1 S1) (h2:∀l1 S1,R l1 S1->Ws n l1 S1 QS):Ws (zal m n) l S QS:=by
 rw [zjf]
 obtain ⟨f,l1,S1,e,rfl,r⟩:=h1
 exact ⟨_,_,_,e,h2 l1 S1 r⟩
theorem zpd:Ws (sIf t m n) l S QS=Wt t l S λk S1=>if k=true then Ws m l S1 QS else Ws n l S1 QS:=by
 apply propext
 constructor
 ·rintro ⟨f,v,S',h,q⟩
  obtain ⟨⟨x,S1⟩,h1,h⟩:=bnd h
  refine ⟨x,S1,h1,?_⟩
  cases x with
  | true=>exact ⟨f,v,S',h,q⟩
  | false=>exact ⟨f,v,S',h,q⟩
 ·rintro ⟨x,S1,h1,h⟩
  cases x with
  | true=>obtain ⟨f,v,S',h,q⟩:=h;exact ⟨f,v,S',by unfold sIf;rw [h1];exact h,q⟩
  | false=>obtain ⟨f,v,S',h,q⟩:=h;exact ⟨f,v,S',by unfold sIf;rw [h1];exact h,q⟩
theorem zev:Ws (zdr a) l S QS=We a l S λ_ S1=>QS .nx l S1:=by
 apply propext
 constructor
 ·rintro ⟨f,v,S',h,q⟩
  obtain ⟨⟨x,S1⟩,h1,h⟩:=bnd h
  cases h
  exact ⟨x,_,h1,q⟩
 ·rintro ⟨x,S1,h1,q⟩
  exact ⟨_,_,_,by unfold zdr;rw [h1];rfl,q⟩
theorem zcg:Ws (za7 a) l S QS=We a l S λx S1=>QS (.rt x) l S1:=by
 apply propext
 constructor
 ·rintro ⟨f,v,S',h,q⟩
  obtain ⟨⟨x,S1⟩,h1,h⟩:=bnd h
  cases h
  exact ⟨x,_,h1,q⟩
 ·rintro ⟨x,S1,h1,q⟩
  exact ⟨_,_,_,by unfold za7;rw [h1];rfl,q⟩
theorem zbj:Ws (zao a g) l S QS=We a l S λx S1=>Wg (g x l S1) λl2 S2=>QS .nx l2 S2:=by
 apply propext
 constructor
 ·rintro ⟨f,v,S',h,q⟩
  obtain ⟨⟨x,S1⟩,h1,h⟩:=bnd h
  obtain ⟨⟨l2,S2⟩,h2,h⟩:=bnd h
  cases h
  exact ⟨x,S1,h1,_,_,h2,q⟩
 ·rintro ⟨x,S1,h1,l2,S2,h2,q⟩
  refine ⟨_,_,_,?_,q⟩
  unfold zao;rw [h1];show (g x l S1).bind _=_;rw [h2];rfl
theorem zat {i:Nat}:Wg (zah i d l S) QG=QG (l.set i (some d)) S:=by
 apply propext
 exact ⟨λhx7_=>by obtain ⟨v,S',h,q⟩:=hx7_;cases h;exact q,λq=>⟨_,_,rfl,q⟩⟩
theorem zfv {k:Nat}{gs:GsM}:Wg (zeb k gs (.tup xs) l S) QG=(xs.length=k/\Wg (gs xs l S) QG):=by
 apply propext
 constructor
 ·rintro ⟨v,S',h,q⟩
  have h:(if xs.length=k then gs xs l S else none)=some (v,S'):=h
  by_cases hl:xs.length=k
  ·rw [if_pos hl] at h;exact ⟨hl,v,S',h,q⟩
  ·rw [if_neg hl] at h;cases h
 ·rintro ⟨hl,v,S',h,q⟩
  exact ⟨v,S',by show (if xs.length=k then gs xs l S else none)=_;rw [if_pos hl];exact h,q⟩
theorem zfw:Wg (zea [] l S) QG=QG l S:=by
 apply propext
 exact ⟨λhx8_=>by obtain ⟨v,S',h,q⟩:=hx8_;cases h;exact q,λq=>⟨_,_,rfl,q⟩⟩
theorem zfx {gs:GsM}:Wg (zco g gs (x :: xs) l S) QG=Wg (g x l S) λl1 S1=>Wg (gs xs l1 S1) QG:=by
 apply propext
 constructor
 ·rintro ⟨v,S',h,q⟩
  obtain ⟨⟨l1,S1⟩,h1,h⟩:=bnd h
  exact ⟨l1,S1,h1,v,S',h,q⟩
 ·rintro ⟨l1,S1,h1,v,S',h,q⟩
  exact ⟨v,S',by show (g x l S).bind _=_;rw [h1];exact h,q⟩
theorem zjg:Wg (zdd o i v l S) QG=We o l S λx S1=>We i l S1 λy S2=>∃S',zc3 x y v S2=some S'/\QG l S':=by
 apply propext
 constructor
 ·rintro ⟨l',S',h,q⟩
  obtain ⟨⟨x,S1⟩,h1,h⟩:=bnd h
  obtain ⟨⟨y,S2⟩,h2,h⟩:=bnd h
  obtain ⟨S3,h3,h⟩:=bnd h
  cases h
  exact ⟨x,S1,h1,y,S2,h2,_,h3,q⟩
 ·rintro ⟨x,S1,h1,y,S2,h2,S3,h3,q⟩
  refine ⟨l,S3,?_,q⟩
  unfold zdd;rw [h1];show (i l S1).bind _=_;rw [h2];show (zc3 x y v S2).bind _=_;rw [h3];rfl
theorem zbl:Wo (some (d,S)) Q=Q d S:=by
 apply propext
 exact ⟨λhx9_=>by obtain ⟨v,S',h,q⟩:=hx9_;cases h;exact q,λq=>⟨_,_,rfl,q⟩⟩
theorem zew {α:Type}{o:Option α}{f:α->Option (D × Sto)}:Wo (o.bind f) Q = ∃x,o=some x/\Wo (f x) Q:=by
 cases o with
 | none=>simp [Wo]
 | some x=>simp [Wo]
theorem zex {p:Prop} [Decidable p] {x:D × Sto}:Wo (if p then some x else none) Q=(p/\Q x.1 x.2):=by
 obtain ⟨a,b⟩:=x
 by_cases hp:p
 ·rw [if_pos hp]
  apply propext
  exact ⟨λhx10_=>by obtain ⟨v,S',h,q⟩:=hx10_;cases h;exact ⟨hp,q⟩,λq=>⟨a,b,rfl,q.2⟩⟩
 ·simp [hp,Wo]
theorem zpe {g:Int->Int->D}{i j:Int}:Wo (oI0 g (.int i) (.int j) S) Q=Q (g i j) S:=zbl
theorem zpf {C:Int->Int->Bool}{g:Int->Int->D}{i j:Int}:Wo (oI C g (.int i) (.int j) S) Q=(C i j=true/\Q (g i j) S):=zex
theorem zlq {xs:List D}{i:Int}:Wo (dIx (.tup xs) (.int i) S) Q = ∃v,L2.atI xs i=some v/\Q v S:=by
 show Wo ((L2.atI xs i).bind λv=>some (v,S)) Q=_
 rw [zew];simp only [zbl]
theorem zlr {k:Nat}{i:Int}:Wo (dIx (.ref k) (.int i) S) Q = ∃xs,lstOf S k=some xs/\∃v,L2.atI xs i=some v/\Q v S:=by
 show Wo ((lstOf S k).bind λxs=>(L2.atI xs i).bind λv=>some (v,S)) Q=_
 rw [zew];simp only [zew,zbl]
theorem zls:Wo (zht [.tup xs] S) Q=Q (.int xs.length) S:=zbl
theorem zlt {k:Nat}:Wo (zht [.ref k] S) Q = ∃xs,lstOf S k=some xs/\Q (.int xs.length) S:=by
 show Wo ((lstOf S k).bind λxs=>some (.int xs.length,S)) Q=_
 rw [zew];simp only [zbl]
theorem zpg {i:Int}:Wo (zfl [.int i] S) Q=Q (.int (if i<0 then -i else i)) S:=zbl
theorem zdg:Wo (zbo xs S) Q=(xs.length<=sizeLine/\Q (.tup xs) S):=zex
theorem zjh:Wo (zcn xs S) Q=(xs.length<=sizeLine/\Q (.ref S.length) (S++[.lst xs])):=zex
theorem zey {k:Nat}:Wo (zdq [.ref k] S) Q = ∃xs,lstOf S k=some xs/\Q (.tup xs) S:=by
 show Wo ((lstOf S k).bind λxs=>some (.tup xs,S)) Q=_
 rw [zew];simp only [zbl]
theorem zji {i j:Int}:Wo (dEq (.int i) (.int j) S) Q=Q (.bl (decide (i=j))) S:=zbl
theorem zlu:Wo (dNe (.str i) (.str j) S) Q=Q (.bl (!decide (i=j))) S:=zbl
theorem zjj:Wo (dIs x .non S) Q=Q (.bl (zer x)) S:=by
 cases x <;> exact zbl
theorem zlv:Wo (zes x .non S) Q=Q (.bl (!zer x)) S:=by
 cases x <;> exact zbl
theorem zzl {k:Nat}:Wo (zct (.ref k) [x] S) Q = ∃xs,S[k]? = some (.lst xs)/\xs.length<sizeLine/\Q .non (S.set k (.lst (xs++[x]))):=by
 show Wo (match S[k]? with|some (.lst xs)=>if xs.length<sizeLine then some (.non,S.set k (.lst (xs++[x]))) else none|_=>none) Q=_
 cases e:S[k]? with
 | none=>simp [Wo]
 | some o =>
  cases o with
  | lst xs=>simp [zex]
  | flst xs=>simp [Wo]
  | iset f n=>simp [Wo]
  | dct kvs=>simp [Wo]
  | fdct kvs=>simp [Wo]
  | ftdct kvs=>simp [Wo]
  | tset ks=>simp [Wo]
  | fnc x=>simp [Wo]
  | tdct kvs=>simp [Wo]
  | exc c=>simp [Wo]
  | tab x=>simp [Wo]
  | lam g caps=>simp [Wo]
  | dead=>simp [Wo]
theorem zb1 {k:Nat}{b:SM}{ds:List D}:Wo (zbp k b ds S) Q=Ws b (ds.map some++List.replicate (k-ds.length) none) S λf _ S1=>match f with | .rt d=>Q d S1 | .nx=>Q .non S1|_=>False:=by
 apply propext
 constructor
 ·rintro ⟨v,S',h,q⟩
  obtain ⟨⟨f,l1,S1⟩,h1,h⟩:=bnd h
  refine ⟨f,l1,S1,h1,?_⟩
  cases f with
  | rt d=>cases h;exact q
  | nx=>cases h;exact q
  | bk=>cases h
  | ct=>cases h
 ·rintro ⟨f,l1,S1,h1,q⟩
  cases f with
  | rt d=>exact ⟨_,_,by unfold zbp;rw [h1];rfl,q⟩
  | nx=>exact ⟨_,_,by unfold zbp;rw [h1];rfl,q⟩
  | bk=>cases q
  | ct=>cases q
end
theorem Wo.mono {o:Option (D × Sto)}(h:Wo o Q) (i:∀v S,Q v S->Q' v S):Wo o Q':=let ⟨v,S,e,q⟩:=h;⟨v,S,e,i v S q⟩
theorem Wr.mono {o:Option (Fl × Lo × Sto)}(h:Wr o Q) (i:∀f v S,Q f v S->Q' f v S):Wr o Q':=let ⟨f,v,S,e,q⟩:=h;⟨f,v,S,e,i f v S q⟩
section
theorem zzm:Ws (zcw (zbi as) g b) l S QS=Wa as l S λxs S1=>∃j,xs=[.int j]/\(-(2 ^ 62)<=j/\j<2 ^ 62)/\Wr (zde g b (zau 0 j.toNat) l S1) QS:=by
 apply propext
 constructor
 ·rintro ⟨f,v,S',h,q⟩
  obtain ⟨⟨⟨lo,n⟩,S1⟩,h1,h⟩:=bnd h
  obtain ⟨⟨xs,S2⟩,h2,h1⟩:=bnd h1
  dsimp only at h1
  split at h1
  ·rename_i j
   obtain ⟨hz,e⟩:=zbe h1
   cases e
   exact ⟨_,_,h2,j,rfl,hz,f,v,S',h,q⟩
  ·cases h1
 ·rintro ⟨xs,S1,h1,j,rfl,hz,f,v,S',h,q⟩
  refine ⟨f,v,S',?_,q⟩
  have:zbi as l S=some ((0,j.toNat),S1):=by
   unfold zbi;rw [h1];show (if _ then _ else _)=_;rw [if_pos hz]
  unfold zcw;show (zbi as l S).bind _=_;rw [this];exact h
theorem zph:Ws (zcv e g b) l S QS=We e l S λx S1=>Wr (match x with | .tup xs=>zde g b xs l S1 | .ref n=>(lstOf S1 n).bind λxs=>zdf g b n (xs.length+1) 0 l S1|_=>none) QS:=by
 apply propext
 constructor
 ·rintro ⟨f,v,S',h,q⟩
  obtain ⟨⟨x,S1⟩,h1,h⟩:=bnd h
  exact ⟨x,S1,h1,f,v,S',h,q⟩
 ·rintro ⟨x,S1,h1,f,v,S',h,q⟩
  exact ⟨f,v,S',by unfold zcv;rw [h1];exact h,q⟩
theorem zjk {lo:Int}{n i:Nat}(h:(zau lo n)[i]? = some x):i<n/\x=.int (lo+i):=by
 have hl:=(qme h).1
 simp only [zau,qlm,List.length_range] at hl
 unfold zau at h
 rw [qgm,List.getElem?_range hl] at h
 exact ⟨hl,(qoi h).symm⟩
theorem zeg (lo:Int) (n:Nat):(zau lo n).length=n:=by simp [zau]
end
mutual
noncomputable def za5 (S:Sto):Nat->D->Option PyData
 | 0,_=>none
 | _+1,.non=>some .none
 | _+1,.bl b=>some (.bool b)
 | _+1,.int i=>if i.natAbs.log2<1920 then some (.int i) else none
 | _+1,.str x=>some (.str x)
 | k+1,.tup xs=>(pyAll S k xs).bind λds=>some (.tuple ds)
 | k+1,.ref n=>(lstOf S n).bind λxs=>(pyAll S k xs).bind λds=>some (.list ds)
 | _+1,.fn _=>none
termination_by k=>(k,0)
noncomputable def pyAll (S:Sto):Nat->List D->Option (List PyData)
 | _,[]=>some []
 | k,x :: xs=>(za5 S k x).bind λd=>(pyAll S k xs).bind λds=>some (d :: ds)
termination_by k xs=>(k,xs.length+1)
end
noncomputable def zez:FM
 | [x],S=>(za5 S 140 x).bind λd=>if d.shown.length<=sizeLine then some (.str d.shown,S) else none
 | _,_=>none
section
theorem zpi (I:Inv X pins σ H s) (sim:Sim X.K ρ S H) (ih:∀(d:D) (v:V) (u:Value) (p:PyData),RD ρ H d v->RelV v u->za5 S k d=some p->(∃as,Reads s.heap u p as)/\p.showable=true/\p.hasDict=false/\p.depth<=k):∀(xs:List D) (vs:List V) (us:List Value) (ds:List PyData),RDs ρ H xs vs->Vals vs us->pyAll S k xs=some ds->(∃as,ReadsAll s.heap us ds as)/\PyData.showableAll ds=true/\PyData.hasDictAll ds=false/\PyData.depthAll ds<=k:=by
 intro xs
 induction xs with
 | nil =>
  intro vs us ds r e h
  unfold pyAll at h;cases h;cases r;cases e
  exact ⟨⟨_,.nil⟩,rfl,rfl,Nat.zero_le _⟩
 | cons x xs ihx =>
  intro vs us ds r e h
  unfold pyAll at h
  obtain ⟨d,h1,h⟩:=bnd h
  obtain ⟨ds',h2,h⟩:=bnd h
  cases h
  cases r with
  | cons r1 r2 =>
   cases e with
   | cons e1 e2 =>
    obtain ⟨⟨as,q1⟩,q2,q3,q4⟩:=ih x _ _ d r1 e1 h1
    obtain ⟨⟨bs,p1⟩,p2,p3,p4⟩:=ihx _ _ ds' r2 e2 h2
    refine ⟨⟨_,.cons q1 p1⟩,?_,?_,?_⟩
    ·unfold PyData.showableAll;rw [q2,p2];rfl
    ·unfold PyData.hasDictAll;rw [q3,p3];rfl
    ·unfold PyData.depthAll;omega
theorem zlw (I:Inv X pins σ H s) (sim:Sim X.K ρ S H):∀(k:Nat) (d:D) (v:V) (u:Value) (p:PyData),RD ρ H d v->RelV v u->za5 S k d=some p->(∃as,Reads s.heap u p as)/\p.showable=true/\p.hasDict=false/\p.depth<=k:=by
 intro k
 induction k with
 | zero=>intro d v u p _ _ h;unfold za5 at h;cases h
 | succ k ih =>
  intro d v u p r e h
  cases d with
  | non  =>
   unfold za5 at h;cases h;cases r;cases e
   exact ⟨⟨_,.none⟩,rfl,rfl,Nat.zero_le _⟩
  | bl b =>
   unfold za5 at h;cases h;cases r;cases e
   exact ⟨⟨_,.bool b⟩,rfl,rfl,Nat.zero_le _⟩
  | int i =>
   unfold za5 at h
   obtain ⟨hz,e2⟩:=zbe h
   cases e2;cases r
   obtain ⟨t,rfl⟩:=e
   exact ⟨⟨_,.int i t⟩,by unfold PyData.showable;exact decide_eq_true hz,rfl,Nat.zero_le _⟩
  | str x =>
   unfold za5 at h;cases h;cases r
   obtain ⟨t,rfl⟩:=e
   exact ⟨⟨_,.str x t⟩,rfl,rfl,Nat.zero_le _⟩
  | fn _=>unfold za5 at h;cases h
  | tup xs =>
   unfold za5 at h
   obtain ⟨ds,h1,h⟩:=bnd h
   cases h
   cases r with
   | tup ha r =>
    cases e
    obtain ⟨its,rv,⟨o,ho,hc,n,hd⟩,hz⟩:=I.tuple (SqT.of ha)
    obtain ⟨⟨as,h2⟩,h3,h4,h5⟩:=zpi I sim ih xs _ _ ds r rv h1
    refine ⟨⟨as,.tuple ho hc hd (by simpa using h2)⟩,?_,?_,?_⟩
    ·unfold PyData.showable;exact h3
    ·unfold PyData.hasDict;exact h4
    ·unfold PyData.depth;omega
  | ref n =>
   unfold za5 at h
   obtain ⟨xs,h0,h⟩:=bnd h
   obtain ⟨ds,h1,h⟩:=bnd h
   cases h
   obtain ⟨a,vs,ha,sq,rd⟩:=sim.lstOf h0
   cases r with
   | ref hn =>
    rw [ha] at hn;cases hn
    cases e
    obtain ⟨its,rv,pl,hz⟩:=I.list sq
    obtain ⟨o,ho,hc,m,hd⟩:=pl.isList
    obtain ⟨⟨as,h2⟩,h3,h4,h5⟩:=zpi I sim ih xs _ _ ds rd rv h1
    refine ⟨⟨_,.list ho hc hd (by simpa using h2)⟩,?_,?_,?_⟩
    ·unfold PyData.showable;exact h3
    ·unfold PyData.hasDict;exact h4
    ·unfold PyData.depth;omega
end
section
theorem zzn (hr:Room k X.A):CallR X (.builtin "repr") (λxs H Q=>∃v ρ S d pd,xs=[v]/\Sim X.K ρ S H/\RD ρ H d v/\za5 S 140 d=some pd/\pd.shown.length<=sizeLine/\Q (.str pd.shown) H):=by
 intro pins s σ H xs us Q I r h
 obtain ⟨v,ρ,S,d,pd,rfl,sim,rd,hp,hz,q⟩:=h
 obtain ⟨u,rfl,ru⟩:=zdy r
 have key:=zlw I sim 140 d v u pd rd ru hp
 have byRef:∀a,u=.ref a->wpAny (model X.prog X.w) X.A (call (.builtin "repr") [u]) (EP X pins σ Q) X.xe s:=λb hb=>by
  subst hb
  obtain ⟨⟨as,h1⟩,h2,h3,h4⟩:=key
  have hu:X.A.units+(pd.depth+1)<cLine:=by have:=hr.un;omega
  refine repr_of_reads' h1 h2 (λz=>by rw [h3] at z;cases z) hr.gd hu (λ_ _ e=>e) (λh' u tk hk=>?_) hz
  exact ⟨.str pd.shown,H,I.kept hk,⟨u,rfl⟩,q⟩
 have hp':=hp
 cases rd with
 | non=>cases ru;unfold za5 at hp';cases hp';exact P.repr_of_none ⟨.str _,H,I.tok _,⟨_,rfl⟩,q⟩
 | bl b=>cases ru;unfold za5 at hp';cases hp';exact P.repr_of_bool ⟨.str _,H,I.tok _,⟨_,by cases b <;> rfl⟩,q⟩
 | int i =>
  obtain ⟨t,rfl⟩:=ru
  unfold za5 at hp'
  obtain ⟨hi,e⟩:=zbe hp'
  cases e
  exact P.repr_of_int hi ⟨.str _,H,I.tok _,⟨_,rfl⟩,q⟩
 | str x=>obtain ⟨t,rfl⟩:=ru;unfold za5 at hp';cases hp';exact P.repr_of_str ⟨.str _,H,I.tok _,⟨_,rfl⟩,q⟩ hz
 | tup ha r=>exact byRef _ ru
 | ref hn=>exact byRef _ ru
 | fn b=>unfold za5 at hp';cases hp'
theorem zzo {K:QFg}:Fn3 K zez (λxs H Q=>∃v ρ S d pd,xs=[v]/\Sim K ρ S H/\RD ρ H d v/\za5 S 140 d=some pd/\pd.shown.length<=sizeLine/\Q (.str pd.shown) H):=by
 intro ρ S H xs vs v S' Q sim r h p
 unfold zez at h
 split at h
 ·obtain ⟨pd,h1,h⟩:=bnd h
  obtain ⟨hz,e⟩:=zbe h
  cases e
  obtain ⟨w,rfl,rw'⟩:=r.one
  exact ⟨w,ρ,_,_,pd,rfl,sim,rw',h1,hz,p ρ H _ (Ext.refl ..) sim (.str _)⟩
 ·cases h
theorem zzp:bootBuiltins "repr" = some (.builtin "repr"):=by decide +kernel
theorem zpj (hr:Room k X.A) (hg:Gl X "repr") (hm:X.mg "repr" = none) (ha:PA3 X (a :: es) mA) (he:starEach (a :: es) X.env=(false,eval a X.env) :: starEach es X.env:=by rfl) (hpl:(backTo pos (starEach es X.env)).any (·.1)=false:=by rfl):PE3 X (.Call (.Name "repr" p) (a :: es) [] pos) (zaf zez mA) :=
 zfi (zzn hr) zzo hg hm zzp ha (by decide) (by decide) he hpl
end
theorem zzq:Wo (zez [x] S) Q = ∃pd,za5 S 140 x=some pd/\pd.shown.length<=sizeLine/\Q (.str pd.shown) S:=by
 show Wo ((za5 S 140 x).bind λd=>if d.shown.length<=sizeLine then some (.str d.shown,S) else none) Q=_
 rw [zew]
 simp only [zex]
theorem zzr:fillsNumberSlot (.type "tuple") "mul" = pure false :=
 PySem.fillsNumberSlot_seq (id:="tuple.__mul__") (r:=some (.builtin "tuple.__rmul__")) PySem.F.slot_tuple_mul.lookup (by decide +kernel) PySem.F.slot_tuple_rmul.lookup (by decide +kernel)
theorem zzs:seqRepeat? (.type "tuple")=pure (some (.builtin "tuple.__mul__")):=by
 unfold seqRepeat?
 rw [PySem.seqSlot_of (T:="tuple") (name:="__mul__") (id:="tuple.__mul__") PySem.F.slot_tuple_mul.lookup (by decide +kernel),PySem.seqSlot_of (T:="tuple") (name:="__rmul__") (id:="tuple.__rmul__") PySem.F.slot_tuple_rmul.lookup (by decide +kernel)]
 rfl
open PySem.AutoSeq1 (wpAny_loadPart')
theorem zzt (a:Int) (t:Tok) (l:Addr) (items:Array Value) (n:Nat) (dd:Option Addr) (sl:Array (Option Value)) :
  Meets (Builtin.«int.__rmul__» ⟨[.int a t,.ref l],[]⟩) (λ_ R s=>s.heap.get? l=some { cls:=.type "tuple",dict:=dd,data:=.seq items n,slots:=sl }/\R (.ok (.ret Value.notImplemented)) s) :=
 .of_wp λprog w A R s h=>by obtain ⟨hp,g,d,tk,os⟩:=s;obtain ⟨hl,h⟩:=h;wp_walk;exact ⟨_,rfl,h⟩
section
theorem zzu (ht:IsTup s.heap t items) (k0:2<=k) (k1:k<2 ^ 31) (hi:items.isEmpty=false) (hz:items.size*k.toNat<=sizeLine)
  (h:Q (.ref s.heap.objs.size) { s with heap:=s.heap.push { cls:=.type "tuple",data:=.seq ((List.replicate k.toNat items).foldl (·++·) #[]) } }) (h6:((List.replicate k.toNat items).foldl (·++·) #[]).size<=sizeLine) :
  wpAny (model prog w) A (call (.builtin "tuple.__mul__") [.ref t,.int k u]) Q E s:=by
 refine wpAny_call_entry PySem.F.slot_tuple_mul ht.typeIs PySem.F.entry_tuple_mul ?_ (PySem.F.args_tuple_mul_2 _ _)
 show wpAny _ _ (asIndex (.int k u) >>= _) _ _ s
 refine qwb ?_
 show wpAny _ _ (pure k) _ _ s
 refine qwp ?_
 have e1:(decide (k < -(2 ^ 63)) || decide (k ≥ 2 ^ 63))=false:=by
  rw [Bool.or_eq_false_iff];exact ⟨decide_eq_false (by omega),decide_eq_false (by omega)⟩
 have e2:(items.isEmpty || k == 1)=false:=by rw [hi,Bool.false_or];exact beq_false_of_ne (by omega)
 have e3:(decide (k<=0) || items.isEmpty)=false:=by rw [hi,Bool.or_false];exact decide_eq_false (by omega)
 show wpAny _ _ (if (decide (k < -(2 ^ 63)) || decide (k ≥ 2 ^ 63))=true then _ else _) _ _ s
 rw [if_neg (by rw [e1];exact Bool.false_ne_true)]
 refine qwb (tupleItemsOf_ ht ?_)
 show wpAny _ _ (if (items.isEmpty || k == 1)=true then _ else _) _ _ s
 rw [if_neg (by rw [e2];exact Bool.false_ne_true)]
 show wpAny _ _ (if (decide (k<=0) || items.isEmpty)=true then _ else _) _ _ s
 rw [if_neg (by rw [e3];exact Bool.false_ne_true)]
 have hk:(items.size:Int)*k=((items.size*k.toNat:Nat):Int):=by rw [Int.natCast_mul,Int.toNat_of_nonneg (by omega)]
 have hs:(sizeLine:Nat)=16777216:=by decide
 show wpAny _ _ (if (items.size:Int)*k > (2 ^ 63-1) / 8 then _ else _) _ _ s
 rw [if_neg (by rw [hk];omega)]
 show wpAny _ _ (if Builtin.Tuple.tupleTooMany ((items.size:Int)*k)=true then _ else _) _ _ s
 rw [if_neg (by unfold Builtin.Tuple.tupleTooMany;rw [hk];simp only [decide_eq_true_eq];omega)]
 first
  | exact qwb (m:=Builtin.Tuple.tupleExact _) (wpAny_newObj_type (qwp ⟨_,rfl,h⟩) h6)
  | exact qwb (m:=Builtin.Tuple.tupleExact _) (wpAny_newObj_type (qwp ⟨_,rfl,qwp h⟩) h6)
theorem zzv (ht:IsTup s.heap t items) (h:Q (.ref t) s) :
  wpAny (model prog w) A (call (.builtin "tuple.__mul__") [.ref t,.int 1 u]) Q E s:=by
 refine wpAny_call_entry PySem.F.slot_tuple_mul ht.typeIs PySem.F.entry_tuple_mul ?_ (PySem.F.args_tuple_mul_2 _ _)
 show wpAny _ _ (asIndex (.int 1 u) >>= _) _ _ s
 refine qwb ?_
 show wpAny _ _ (pure (1:Int)) _ _ s
 refine qwp ?_
 show wpAny _ _ (if (decide ((1:Int) < -(2 ^ 63)) || decide ((1:Int) ≥ 2 ^ 63))=true then _ else _) _ _ s
 rw [if_neg (by decide)]
 refine qwb (tupleItemsOf_ ht ?_)
 show wpAny _ _ (if (items.isEmpty || (1:Int) == 1)=true then _ else _) _ _ s
 rw [if_pos (by simp)]
 unfold Builtin.Tuple.tupleIsExact
 refine qwb (qwb (wpAny_typeOf ht.typeIs (qwp ?_)))
 rw [if_pos (by decide)]
 exact qwb (wpAny_rule (qwp ⟨_,rfl,h⟩))
theorem zzw (ht:IsTup s.heap t items) (k0:k=0) (hi:items.isEmpty=false)
  (h:Q (.ref s.heap.objs.size) { s with heap:=s.heap.push { cls:=.type "tuple",data:=.seq #[] } }) :
  wpAny (model prog w) A (call (.builtin "tuple.__mul__") [.ref t,.int k u]) Q E s:=by
 subst k0
 refine wpAny_call_entry PySem.F.slot_tuple_mul ht.typeIs PySem.F.entry_tuple_mul ?_ (PySem.F.args_tuple_mul_2 _ _)
 show wpAny _ _ (asIndex (.int 0 u) >>= _) _ _ s
 refine qwb ?_
 show wpAny _ _ (pure (0:Int)) _ _ s
 refine qwp ?_
 show wpAny _ _ (if (decide ((0:Int) < -(2 ^ 63)) || decide ((0:Int) ≥ 2 ^ 63))=true then _ else _) _ _ s
 rw [if_neg (by decide)]
 refine qwb (tupleItemsOf_ ht ?_)
 show wpAny _ _ (if (items.isEmpty || (0:Int) == 1)=true then _ else _) _ _ s
 rw [if_neg (by rw [hi];decide)]
 show wpAny _ _ (if (decide ((0:Int)<=0) || items.isEmpty)=true then _ else _) _ _ s
 rw [if_pos (by simp)]
 first
  | exact qwb (m:=Builtin.Tuple.tupleExact _) (wpAny_newObj_type (qwp ⟨_,rfl,h⟩) (Nat.zero_le _))
  | exact qwb (m:=Builtin.Tuple.tupleExact _) (wpAny_newObj_type (qwp ⟨_,rfl,h⟩) (by decide))
end
def zpk (K:QFg):R2:=λx y H Q=>∃a k xs,x=.ref a/\y=.int k/\SqT K H a xs/\xs≠[]/\0<=k/\k<2 ^ 31/\xs.length*k.toNat<=sizeLine /\
 (k=1->Q (.ref a) H)/\(k≠1->∀p,H p=none->Q (.ref p) (upd H p (.tup (List.replicate k.toNat xs).flatten)))
theorem zzx:OpR X (binaryOp .Mult) (zpk X.K):=by
 intro pins s σ H x y v u Q I rx ry h
 obtain ⟨a,k,xs,rfl,rfl,hx,hne,k0,k1,hz,q1,q2⟩:=h
 cases rx
 obtain ⟨t,rfl⟩:=ry
 obtain ⟨its,r,pt,_⟩:=I.tuple hx
 have hne':its≠[]:=λz=>hne (r.nil_iff.mp z)
 have hie:its.toArray.isEmpty=false:=by cases its with
  | nil=>exact absurd rfl hne'
  | cons _ _=>simp
 obtain ⟨⟨cls,dd,data,sl⟩,ho,hc,n,hd⟩:=id pt
 simp only at hc hd
 subst hc hd
 refine wpAny_binaryOp_repeat_ref (T:="tuple") (U:="int") (by decide) ⟨_,ho,rfl⟩ (λs'=>typeIs_int s' k t) zzr PySem.F.fills_int_mul PySem.F.slot_int_rmul zzs PySem.F.slot_int_index.lookup
  (call_meets PySem.F.slot_int_rmul (typeIs_int s k t) PySem.F.entry_int_rmul (PySem.F.args_int_rmul_2 _ _) (zzt k t a its.toArray n dd sl) ⟨ho,rfl,⟨_,ho,rfl⟩,?_⟩)
 have f0:∀m:Nat,List.foldl (λx1 x2=>x1++x2) #[] (List.replicate m its.toArray)=(List.replicate m its).flatten.toArray:=λm=>by
  have:=zoh its m []
  rw [List.nil_append] at this
  exact this
 have hl:xs.length=its.length:=r.length
 by_cases e1:k=1
 ·subst e1
  exact zzv pt ⟨.ref a,H,I,rfl,q1 rfl⟩
 ·by_cases e0:k=0
  ·refine zzw pt e0 hie ?_
   have hv:Vals ([]:List V) ([]:List Value):=.nil
   refine ⟨.ref s.heap.objs.size,_,I.laid (t':=s.toks) (o:=.tup []) (λb ob q=>qps _ q) (qlr _) ?_,rfl,?_⟩
   ·exact ⟨Nat.zero_le _,[],.nil,IsTD.new _ _⟩
   ·have:=q2 e1 _ (I.hok.fresh (qlr _))
    subst e0
    exact this
  ·have hlen:(List.replicate k.toNat its).flatten.length=k.toNat*its.length:=zom its k.toNat
   refine zzu pt (by omega) k1 hie (by rw [List.size_toArray,<-hl];exact hz) ?_ ?_
   ·rw [f0]
    refine ⟨.ref s.heap.objs.size,_,I.laid (t':=s.toks) (o:=.tup (List.replicate k.toNat xs).flatten) (λb ob q=>qps _ q) (qlr _) ?_,rfl,q2 e1 _ (I.hok.fresh (qlr _))⟩
    exact ⟨by rw [zom,Nat.mul_comm];exact hz,_,r.rep k.toNat,IsTD.new _ _⟩
   ·rw [f0,List.size_toArray,hlen,Nat.mul_comm,<-hl];exact hz
noncomputable def zeh:D->D->Sto->Option (D × Sto)
 | .int i,.int j,S=>if (-(2 ^ 64)<i/\i<2 ^ 64)\/(-(2 ^ 64)<j/\j<2 ^ 64) then some (.int (i*j),S) else none
 | .tup (x :: xs),.int k,S=>if 0<=k/\k<2 ^ 31/\(xs.length+1)*k.toNat<=sizeLine then some (.tup (List.replicate k.toNat (x :: xs)).flatten,S) else none
 | _,_,_=>none
theorem zzy {K:QFg}:Op3 K zeh (λx y H Q=>rI CMul (λi j=>.int (i*j)) x y H Q\/zpk K x y H Q):=by
 intro ρ S H x y x' y' v S' Q sim rx ry h p
 unfold zeh at h
 split at h
 ·obtain ⟨hc,e⟩:=zbe h
  cases e;cases rx;cases ry
  exact .inl ⟨_,_,rfl,rfl,hc,p ρ H _ (Ext.refl ..) sim (.int _)⟩
 ·rename_i x xs k
  obtain ⟨⟨k0,k1,hz⟩,e⟩:=zbe h
  cases e;cases ry
  cases rx with
  | @tup _ a vs ha r =>
   have hl:=r.length
   refine .inr ⟨a,k,vs,rfl,rfl,SqT.of ha,?_,k0,k1,by rw [<-hl];exact hz,λe=>?_,λ_=>zhs sim (r.rep k.toNat) p⟩
   ·intro z;rw [z] at hl;cases hl
   ·subst e
    have e2:(List.replicate (1:Int).toNat (x :: xs)).flatten=x :: xs:=by simp
    rw [e2] at p
    exact p ρ H _ (Ext.refl ..) sim (.tup ha r)
 ·cases h
section
theorem zhy (ha:PE3 X a ma) (hb:PE3 X b mb):PE3 X (.BinOp a .Mult b pos) (eOp zeh ma mb):=zhp (op_mul.or zzx) zzy ha hb
end
noncomputable def whl (c:TM) (b:SM):Nat->SM
 | 0,_,_=>none
 | k+1,l,S=>(c l S).bind λp=>if p.1=true then (b l p.2).bind λq=>match q.1 with
  | .nx=>whl c b k q.2.1 q.2.2
  | .ct=>whl c b k q.2.1 q.2.2
  | .bk=>some (.nx,q.2)
  | .rt d=>some (.rt d,q.2) else some (.nx,l,p.2)
section
theorem zpl (n:Nat) (hp:PassesOwn (model X.prog X.w) X.A X.env X.xe) (hc:PT3 X c mc) (hb:zc0 X body mb):PS3 X (.While c body [] pos) (whl mc mb n) :=
 PS.imp (zvu hp hc hb) λE σ H hx1_=>by
  obtain ⟨ρ,l,S,f,l',S',sim,ro,hm,p⟩:=hx1_
  refine ⟨λm σ1 H1=>∃ρ1 l1 S1,Ext ρ H ρ1 H1/\Sim X.K ρ1 S1 H1/\RO ρ1 H1 l1 σ1/\whl mc mb m l1 S1=some (f,l',S'),⟨n,ρ,l,S,Ext.refl ..,sim,ro,hm⟩,?_⟩
  rintro m σ1 H1 ⟨ρ1,l1,S1,e1,s1,ro1,hm1⟩
  cases m with
  | zero=>cases hm1
  | succ m =>
   unfold whl at hm1
   obtain ⟨⟨k,S2⟩,q1,hm1⟩:=bnd hm1
   refine ⟨ρ1,l1,S1,k,S2,s1,ro1,q1,λρ2 H2 e2 s2=>?_⟩
   cases k with
   | false =>
    cases hm1
    exact zd1 (p ρ2 H2 σ1 (e1.trans e2) s2 (ro1.mono e2))
   | true =>
    have hm1:((mb l1 S2).bind λq=>match q.1 with
     | .nx=>whl mc mb m q.2.1 q.2.2
     | .ct=>whl mc mb m q.2.1 q.2.2
     | .bk=>some (.nx,q.2)
     | .rt d=>some (.rt d,q.2))=some (f,l',S'):=hm1
    obtain ⟨⟨fl,l3,S3⟩,q2,hm1⟩:=bnd hm1
    refine zd2 ⟨_,λσ' H' h=>h,ρ2,l1,S2,fl,l3,S3,s2,ro1.mono e2,q2,λρ3 H3 σ3 e3 s3 ro3=>?_⟩
    cases fl with
    | nx=>exact ⟨m,Nat.lt_succ_self m,ρ3,l3,S3,e1.trans (e2.trans e3),s3,ro3,hm1⟩
    | ct=>exact ⟨m,Nat.lt_succ_self m,ρ3,l3,S3,e1.trans (e2.trans e3),s3,ro3,hm1⟩
    | bk=>cases hm1;exact p ρ3 H3 σ3 (e1.trans (e2.trans e3)) s3 ro3
    | rt d=>cases hm1;exact p ρ3 H3 σ3 (e1.trans (e2.trans e3)) s3 ro3
end
section
end
noncomputable def zc4:D->D->Sto->Option (D × Sto):=λx y S=>(za5 S 60 x).bind λp=>(za5 S 60 y).bind λq=>if p.canLay0=true/\q.canLay0=true then some (.bl (!p.eqv q),S) else none
def zpm (K:QFg) (neg:Bool):R2:=λx y H Q=>∃ρ S dx dy p q,Sim K ρ S H/\RD ρ H dx x/\RD ρ H dy y/\za5 S 60 dx=some p/\za5 S 60 dy=some q/\p.canLay0=true/\q.canLay0=true/\Q (.bl (if neg then !p.eqv q else p.eqv q)) H
section
theorem zzz (hr:Room k X.A):OpR X (compareOp .NotEq) (zpm X.K true):=by
 intro pins s σ H x y v u Q I rx ry h
 obtain ⟨ρ,S,dx,dy,p,q,sim,r1,r2,h1,h2,c1,c2,hq⟩:=h
 obtain ⟨⟨as,k1⟩,_,_,k2⟩:=zlw I sim 60 dx x v p r1 rx h1
 obtain ⟨⟨bs,k3⟩,_,_,k4⟩:=zlw I sim 60 dy y u q r2 ry h2
 have hu:X.A.units+min p.depth q.depth<cLine:=by have:=hr.un;have:min p.depth q.depth<=p.depth:=Nat.min_le_left _ _;omega
 exact PySem.SeqAt.compareNe_reads k1 k3 c1 c2 hu ⟨.bl _,H,I,rfl,hq⟩
theorem zz0 {K:QFg}:Op3 K zc4 (zpm K true):=by
 intro ρ S H x y x' y' v S' Q sim rx ry h p
 obtain ⟨d1,h1,h⟩:=bnd h
 obtain ⟨d2,h2,h⟩:=bnd h
 obtain ⟨hc,e⟩:=zbe h
 cases e
 exact ⟨ρ,_,x,y,d1,d2,sim,rx,ry,h1,h2,hc.1,hc.2,p ρ H _ (Ext.refl ..) sim (.bl _)⟩
theorem zgy (hr:Room k X.A) (ha:PE3 X a ma) (hb:PE3 X b mb):PT3 X (.Compare a [.NotEq] [b] pos) (tE (eOp zc4 ma mb)):=zdn (zzz hr) zz0 ha hb (zda b)
end
noncomputable def zhz:D->Bool
 | .non=>true | .bl _=>true | .int _=>true | .str _=>true
 | _=>false
noncomputable def zfy:D->D->Bool
 | .non,.non=>true
 | .bl a,.bl b=>a == b
 | .bl a,.int b=>(if a then 1 else 0) == b
 | .int a,.bl b=>a == (if b then 1 else 0)
 | .int a,.int b=>a == b
 | .str a,.str b=>a == b
 | _,_=>false
noncomputable def zpn (S:Sto):D->Option (List D)
 | .tup xs=>some xs
 | .ref n=>lstOf S n
 | _=>none
noncomputable def zjl (neg:Bool):D->D->Sto->Option (D × Sto):=λx y S=>(zpn S y).bind λxs=>if zhz x=true/\xs.all zhz=true then some (.bl (if neg then !(xs.any λy=>zfy y x) else xs.any λy=>zfy y x),S) else none
theorem zpo (r:RD ρ H x x'):zd0 x' = zhz x:=by
 cases r <;> rfl
theorem zz1 (r:RD ρ H x x') (r':RD ρ H y y'):eqV x' y' = zfy x y:=by
 cases r <;> cases r' <;> rfl
theorem zpp:∀{xs:List D}{vs:List V},RDs ρ H xs vs->vs.all zd0=xs.all zhz
 | _,_,.nil=>rfl
 | _,_,.cons r q=>by rw [List.all_cons,List.all_cons,zpo r,zpp q]
theorem zpq (rx:RD ρ H x x'):∀{xs:List D}{vs:List V},RDs ρ H xs vs->inV x' vs=xs.any λy=>zfy y x
 | _,_,.nil=>rfl
 | _,_,.cons r q=>by
  have ih:=zpq rx q
  unfold inV at ih ⊢
  rw [List.any_cons,List.any_cons,zz1 r rx,ih]
theorem zpr {K:QFg}{neg:Bool}:Op3 K (zjl neg) (rIn K neg):=by
 intro ρ S H x y x' y' v S' Q sim rx ry h p
 obtain ⟨xs,h1,h⟩:=bnd h
 obtain ⟨hc,e⟩:=zbe h
 cases e
 have fin:∀a vs,y' = .ref a->(SqL K H a vs\/SqT K H a vs)->RDs ρ H xs vs->rIn K neg x' y' H Q:=λa vs e1 e2 r=>by
  refine ⟨a,vs,e1,e2,by rw [zpo rx];exact hc.1,by rw [zpp r];exact hc.2,?_⟩
  rw [zpq rx r]
  exact p ρ H _ (Ext.refl ..) sim (.bl _)
 cases ry with
 | tup ha r=>cases h1;exact fin _ _ rfl (.inr (SqT.of ha)) r
 | ref hn =>
  obtain ⟨a,vs,ha,sq,r⟩:=sim.lstOf h1
  rw [ha] at hn;cases hn
  exact fin _ _ rfl (.inl sq) r
 | _=>cases h1
noncomputable def zjm:Sto->D->Option ((Int->Bool) × Nat)
 | S,.ref n=>match S[n]? with
  | some (.iset f k)=>some (f,k)
  | _=>none
 | _,_=>none
theorem Sim.isetOf {K:QFg}{ρ:List Addr}{S:Sto}{H:Hp}{x:D}{v:V}{f:Int->Bool}{k:Nat}(s:Sim K ρ S H) (r:RD ρ H x v) (h:zjm S x=some (f,k)):∃n a,x=.ref n/\v=.ref a/\ρ[n]? = some a/\S[n]? = some (.iset f k)/\H a=some (.set f k):=by
 unfold zjm at h
 split at h
 ·rename_i n
  split at h
  ·rename_i f' k' e
   cases h
   cases r with
   | @ref _ a hn=>exact ⟨n,a,rfl,rfl,hn,e,s.at' n a _ hn e⟩
  ·cases h
 ·cases h
noncomputable def zjn (neg:Bool):D->D->Sto->Option (D × Sto)
 | .int i,y,S=>(zjm S y).bind λp=>some (.bl (if neg then !p.1 i else p.1 i),S)
 | _,_,_=>none
def zlx (neg:Bool):R2:=λx y H Q=>∃i a f n,x=.int i/\y=.ref a/\H a=some (.set f n)/\Q (.bl (if neg then !f i else f i)) H
section
theorem op_inI:OpR X (compareOp .In) (zlx false):=by
 intro pins s σ H x y v u Q I rx ry h
 obtain ⟨i,a,f,n,rfl,rfl,hH,q⟩:=h
 obtain ⟨t,rfl⟩:=rx
 cases ry
 exact PySem.wpAny_inSet_of (knd:=intKind X.prog X.w) (k:=i) (PySem.intKind_is X.prog X.w i t) rfl (I.hok a _ hH) ⟨.bl _,H,I.tok _,rfl,q⟩
theorem op_notInI:OpR X (compareOp .NotIn) (zlx true):=by
 intro pins s σ H x y v u Q I rx ry h
 obtain ⟨i,a,f,n,rfl,rfl,hH,q⟩:=h
 obtain ⟨t,rfl⟩:=rx
 cases ry
 exact PySem.wpAny_notInSet_of (knd:=intKind X.prog X.w) (k:=i) (PySem.intKind_is X.prog X.w i t) rfl (I.hok a _ hH) ⟨.bl _,H,I.tok _,rfl,q⟩
theorem op3_inI {K:QFg}{neg:Bool}:Op3 K (zjn neg) (zlx neg):=by
 intro ρ S H x y x' y' v S' Q sim rx ry h p
 unfold zjn at h
 split at h
 ·obtain ⟨⟨f,k⟩,h1,h⟩:=bnd h
  cases h
  cases rx
  obtain ⟨n,a,rfl,rfl,_,_,hH⟩:=sim.isetOf ry h1
  exact ⟨_,a,f,k,rfl,rfl,hH,p ρ H _ (Ext.refl ..) sim (.bl _)⟩
 ·cases h
noncomputable def dIn (neg:Bool):D->D->Sto->Option (D × Sto):=λx y S=>match zjn neg x y S with|some v=>some v|none=>zjl neg x y S
theorem zz2 (ha:PE3 X a ma) (hb:PE3 X b mb) (hm:behindInMarks .In b=false:=by rfl):PT3 X (.Compare a [.In] [b] pos) (tE (eOp (dIn false) ma mb)):=zdn (op_inI.or zxm) (op3_inI.or zpr) ha hb hm
theorem zjo (ha:PE3 X a ma) (hb:PE3 X b mb) (hm:behindInMarks .NotIn b=false:=by rfl):PT3 X (.Compare a [.NotIn] [b] pos) (tE (eOp (dIn true) ma mb)):=zdn (op_notInI.or zxn) (op3_inI.or zpr) ha hb hm
end
section
end
section
end
section
end
noncomputable def zfz:Nat:=1000000
noncomputable def zf0:D->List D->Sto->Option (D × Sto)
 | .ref n,[.int i],S=>match S[n]? with
  | some (.lst xs)=>(seqIndex? i xs.length).bind λk=>(xs[k]?).bind λy=>if -(2 ^ 63)<=i/\i<2 ^ 63 then some (y,S.set n (.lst (xs.eraseIdx k))) else none
  | _=>none
 | _,_,_=>none
theorem RDs.eraseIdx:∀{xs:List D}{vs:List V}(k:Nat),RDs ρ H xs vs->RDs ρ H (xs.eraseIdx k) (vs.eraseIdx k)
 | _,_,_,.nil=>.nil
 | _,_,0,.cons _ q=>q
 | _,_,k+1,.cons r q=>.cons r (RDs.eraseIdx k q)
theorem zz3 {K:QFg}:Mt3 K zf0 zok:=by
 intro ρ S H x x' xs vs v S' Q sim rx r h p
 unfold zf0 at h
 split at h
 ·split at h
  ·rename_i n i S ys e
   obtain ⟨k,h1,h⟩:=bnd h
   obtain ⟨y,h2,h⟩:=bnd h
   obtain ⟨hz,e2⟩:=zbe h
   cases e2
   obtain ⟨w,rfl,rw'⟩:=r.one
   cases rw'
   obtain ⟨a,us,ha,hH,r2⟩:=sim.lst e
   obtain ⟨w2,hw,rw2⟩:=r2.get h2
   cases rx with
   | ref hn =>
    rw [ha] at hn;cases hn
    exact ⟨a,us,i,k,w2,rfl,rfl,hH,hz.1,hz.2,by rw [<-r2.length];exact h1,hw,p ρ _ _ (zfd ha hH) (sim.set ha e hH (r2.eraseIdx k)) (rw2.mono (zfd ha hH))⟩
  ·cases h
 ·cases h
section
theorem zz4 (ho:PE3 X o mo) (he:PE3 X e m)
  (hbase:attributeBase o "pop" X.env (eval o X.env)=eval o X.env:=by rfl)
  (hfew:((backTo cpos (starEach [e] X.env)).all (λx=>!x.1) && (backToKw cpos (keywordEach [] X.env)).all (λx=>x.1.isSome)
   && decide ([e].length+([]:List Keyword).length+(if ([]:List Keyword).isEmpty then 0 else 1)<30))=true:=by rfl)
  (hline:(apos.endLine == cpos.line)=true:=by rfl) (hs:starEach [e] X.env=(false,eval e X.env) :: starEach [] X.env:=by rfl) :
  PE3 X (.Call (.Attribute o "pop" apos) [e] [] cpos) (zb5 zf0 mo (zac m zae)) :=
 zli PySem.F.slot_list_pop PySem.F.type_list_pop zxv zz3 ho (zad he zag hs) hbase hfew hline hs
end
section
end
noncomputable def zgz (lo:Int) (n:Nat):List V:=(List.range n).map λ(i:Nat)=>V.int (lo+i)
theorem zps:∀{xs:List V}{us:List Value},xs.length=us.length->(∀(j:Nat) x u,xs[j]? = some x->us[j]? = some u->RelV x u)->Vals xs us
 | [],[],_,_=>.nil
 | [],_ :: _,h,_=>by simp at h
 | _ :: _,[],h,_=>by simp at h
 | x :: xs,u :: us,h,q=>.cons (q 0 x u rfl rfl) (zps (by simpa using h) λj y w h1 h2=>q (j+1) y w (by simpa using h1) (by simpa using h2))
section
theorem zz5:CallR X (.type "range") (λxs H Q=>∃j,xs=[.int j]/\∀r,H r=none->Q (.ref r) (upd H r (.rng 0 j))):=by
 intro pins s σ H xs us Q I r h
 obtain ⟨j,rfl,q⟩:=h
 obtain ⟨u1,rfl,r1⟩:=r.one
 obtain ⟨t,rfl⟩:=r1
 exact call_range_1 ⟨.ref _,_,I.laid (o:=.rng 0 j) (λb o e=>qps _ e) (qlr _) ⟨_,_,_,Heap.get?_push_size _ rfl⟩,rfl,q _ I.fresh⟩
theorem zz6 (hc:X.calm=true):CallR X (.type "list") (λxs H Q=>∃p lo hi,xs=[.ref p]/\H p=some (.rng lo hi)/\(-(2 ^ 62)<=lo/\lo<2 ^ 62/\-(2 ^ 62)<=hi/\hi<2 ^ 62)/\(hi-lo).toNat<=sizeLine/\∀l,H l=none->Q (.ref l) (upd H l (.lst (zgz lo (hi-lo).toNat)))):=by
 intro pins s σ H xs us Q I r h
 obtain ⟨p,lo,hi,rfl,hH,⟨b1,b2,b3,b4⟩,hz,q⟩:=h
 obtain ⟨u1,rfl,r1⟩:=r.one
 cases r1
 obtain ⟨t,u,v,e⟩:=I.hok p _ hH
 have hn:Builtin.Range.rangeSize lo hi 1=((hi-lo).toNat:Nat):=by rw [rangeSize_one];split <;> omega
 have hz2:(hi-lo).toNat<=2 ^ 24:=Nat.le_trans hz (by decide)
 refine PySem.call_list_range (n:=(hi-lo).toNat) (I.ok.hd hc) e (small_one b1 b2 b3 b4) (by rw [hn]) hz2 λh' tk acc c' k he hi'=>?_
 obtain ⟨h1,h2⟩:=hi'
 refine ⟨.ref _,_,I.laid (o:=.lst (zgz lo (hi-lo).toNat)) k (qlr _) ⟨by unfold zgz;rw [qlm,List.length_range];exact hz,acc.toList,c',zps (by simp [zgz,h1]) λj x w e1 e2=>?_,he⟩,rfl,q _ I.fresh⟩
 rw [Array.getElem?_toList] at e2
 obtain ⟨t',rfl⟩:=h2 j w e2
 unfold zgz at e1
 rw [qgm] at e1
 cases e3:(List.range (hi-lo).toNat)[j]? with
 | none=>rw [e3] at e1;cases e1
 | some i =>
  rw [e3] at e1
  cases e1
  have:=(qme e3).2
  simp at this
  subst this
  exact ⟨t',by rw [Int.mul_one]⟩
theorem zz7 (ρ:List Addr) (H:Hp) (lo:Int) (n:Nat):RDs ρ H (zau lo n) (zgz lo n):=zo7 ρ H lo n
theorem zz8:bootBuiltins "range" = some (.type "range"):=by decide +kernel
noncomputable def zly (r:Lo->Sto->Option ((Int × Nat) × Sto)):EM:=λl S=>(r l S).bind λp=>if p.1.2<=sizeLine then some (.ref p.2.length,p.2++[.lst (zau p.1.1 p.1.2)]) else none
theorem zz9 (hc:X.calm=true) (hg:Gl X "list") (hm:X.mg "list" = none) (hgr:Gl X "range") (hmr:X.mg "range" = none) (ha:PA3 X [a] mA)
  (he:starEach [.Call (.Name "range" p0) [a] [] pos'] X.env=[(false,eval (.Call (.Name "range" p0) [a] [] pos') X.env)]:=by rfl)
  (he2:starEach [a] X.env=(false,eval a X.env) :: starEach [] X.env:=by rfl) :
  PE3 X (.Call (.Name "list" p) [.Call (.Name "range" p0) [a] [] pos'] [] pos) (zly (zbi mA)) :=
 PE.imp (zi0 (zz6 hc) hg hm zzg (zgp (zi0 zz5 hgr hmr zz8 ha (by decide) (by decide) he2 rfl) zhg he) (by decide) (by decide) he rfl) λσ H Q hx2_=>by
  obtain ⟨ρ,l,S,v,S',sim,ro,hm,p⟩:=hx2_
  obtain ⟨⟨⟨lo,n⟩,S1⟩,q1,hm⟩:=bnd hm
  obtain ⟨⟨xs,S2⟩,q2,q1⟩:=bnd q1
  dsimp only at q1 hm
  obtain ⟨hz,e⟩:=zbe hm
  cases e
  split at q1
  ·rename_i j
   obtain ⟨hb,e⟩:=zbe q1
   cases e
   refine ⟨ρ,l,S,[.int j],S1,sim,ro,q2,λρ1 H1 vs e1 s1 r1=>?_⟩
   obtain ⟨v,rfl,rv⟩:=r1.one
   cases rv
   refine ⟨j,rfl,λr hr=>⟨r,0,j,rfl,zbw,⟨by decide,by decide,hb.1,hb.2⟩,by simpa using hz,?_⟩⟩
   have:=zfh (s1.laid (u:=.rng 0 j) hr) (zz7 ρ1 _ 0 j.toNat) (p.ext (e1.trans (zbh hr)))
   simpa using this
  ·cases q1
end
noncomputable def isT:D->Bool
 | .bl b=>b
 | _=>false
noncomputable def zh0:D->Bool
 | .bl _=>true
 | _=>false
noncomputable def vT:V->Bool
 | .bl b=>b
 | _=>false
noncomputable def zjp:V->Bool
 | .bl _=>true
 | _=>false
noncomputable def zf1:FM
 | [.ref n],S=>(lstOf S n).bind λxs=>if xs.all zh0=true then some (.bl (xs.any isT),S) else none
 | _,_=>none
theorem yaa (r:RD ρ H x x'):vT x' = isT x/\zjp x' = zh0 x:=by
 cases r <;> exact ⟨rfl,rfl⟩
theorem zpt:∀{xs:List D}{vs:List V},RDs ρ H xs vs->vs.all vT=xs.all isT/\vs.any vT=xs.any isT/\vs.all zjp=xs.all zh0
 | _,_,.nil=>⟨rfl,rfl,rfl⟩
 | _,_,.cons r q=>by
  obtain ⟨h1,h2⟩:=yaa r
  obtain ⟨h3,h4,h5⟩:=zpt q
  simp only [List.all_cons,List.any_cons,h1,h2,h3,h4,h5,and_self]
section
theorem yab {ys:List V}(tr:Nat->Bool) (h:∀(i:Nat) y,ys[i]? = some y->tr i=vT y):(List.range ys.length).all tr=ys.all vT/\(List.range ys.length).any tr=ys.any vT:=by
 have e:(List.range ys.length).map tr=ys.map vT:=by
  apply List.ext_getElem?
  intro i
  rw [qgm,qgm]
  by_cases hi:i<ys.length
  ·rw [List.getElem?_range hi,qge hi]
   simp [h i _ (qge hi)]
  ·rw [List.getElem?_eq_none_iff.mpr (by simpa using hi),List.getElem?_eq_none_iff.mpr (by simpa using hi)];rfl
 have a1:(List.range ys.length).all tr=((List.range ys.length).map tr).all id:=by rw [List.all_map];rfl
 have a2:ys.all vT=(ys.map vT).all id:=by rw [List.all_map];rfl
 have a3:(List.range ys.length).any tr=((List.range ys.length).map tr).any id:=by rw [List.any_map];rfl
 have a4:ys.any vT=(ys.map vT).any id:=by rw [List.any_map];rfl
 exact ⟨by rw [a1,a2,e],by rw [a3,a4,e]⟩
def zpu (K:QFg) (f:List V->Bool):List V->Hp->VK->Prop:=λxs H Q=>∃p ys,xs=[.ref p]/\SqL K H p ys/\ys.all zjp=true/\Q (.bl (f ys)) H
theorem yac {pins:List (Addr × Obj)}{s:Shared}{σ:St}{H:Hp}{p:Addr}{ys:List V}{E:Value->Shared->Prop}{R:Bool->Bool->Shared->Prop}(hc:X.calm=true) (I:Inv X pins σ H s) (hq:SqL X.K H p ys) (hb:ys.all zjp=true)
  (h:∀s',Inv X pins σ H s'->R (ys.all vT) (ys.any vT) s') :
  wpAny (model X.prog X.w) X.A.in1 (pyIter (.ref p)) (λit s₂=>∃I fp wr n P St tr,it=.ref I/\Walks X.prog X.w X.A.in1 I fp wr n P St/\St 0 s₂.heap/\TruthOf X.prog X.w X.A.in1 P tr /\
   ∀h' tk,(∀b o,b ∉ wr->s₂.heap.get? b=some o->h'.get? b=some o)->R ((List.range n).all tr) ((List.range n).any tr) { s₂ with heap:=h',toks:=tk }) E s:=by
 obtain ⟨its,rv,pl,hz⟩:=I.list hq
 refine wpAny_pyIter_list pl.isList ?_
 have hne:p≠s.heap.objs.size:=by
  obtain ⟨o,ho,_⟩:=pl.isList
  exact Nat.ne_of_lt (Heap.lt_size ho)
 have I1:Inv X pins σ H { s with heap:=s.heap.push { cls:=.type "list_iterator",data:=.fields #[.ref p,rawInt 0] } }:=I.kept (t':=s.toks) λb o e=>qps _ e
 have fp:=I.fpOk (qlr s.heap.objs.size) I.fresh
 refine ⟨_,_,_,its.toArray.size,_,_,λi=>match its[i]? with|some (.bool b)=>b|_=>false,rfl,Walks.list (A:=X.A.in1) (I.ok.hd hc) s.heap.objs.size p hne its.toArray,?_,?_,?_⟩
 ·obtain ⟨o,ho,hc',n,hd⟩:=pl.isList
  exact ⟨⟨_,Heap.get?_push_size _ rfl,rfl,rfl⟩,⟨o,qps _ ho,hc',n,hd⟩⟩
 ·intro i v s' Q E' hP hQ
  have e1:its[i]? = some v:=by simpa using hP
  have hl:=rv.length
  have hi:i<ys.length:=by rw [hl];exact (qme e1).1
  obtain ⟨u,hu,ru⟩:=rv.get (qge hi)
  rw [e1] at hu;cases hu
  have hb2:=List.all_eq_true.mp hb _ (List.getElem_mem hi)
  dsimp only at hQ
  rw [e1] at hQ
  revert ru hb2
  generalize ys[i]=y
  intro ru hb2
  cases y with
  | bl b=>cases ru;exact wpAny_truthy_bool hQ
  | _=>exact absurd (show false=true from hb2) Bool.false_ne_true
 ·intro h' tk k
  have hs:its.toArray.size=ys.length:=by rw [List.size_toArray,rv.length]
  obtain ⟨a1,a2⟩:=yab (ys:=ys) (λi=>match its[i]? with|some (.bool b)=>b|_=>false) (λi y hy=>by
   obtain ⟨u,hu,ru⟩:=rv.get hy
   have hb2:=List.all_eq_true.mp hb _ (qmg hy)
   rw [hu]
   cases y with
   | bl b=>cases ru;rfl
   | _=>exact absurd (show false=true from hb2) Bool.false_ne_true)
  rw [hs,a1,a2]
  exact h _ (I1.turned (t':=tk) (λb o hb' e=>k b o (by simpa using hb') e) fp.1 fp.2.1 fp.2.2.2.1 fp.2.2.2.2.1 fp.2.2.2.2.2)
theorem yad (hc:X.calm=true):CallR X (.builtin "any") (zpu X.K λys=>ys.any vT):=by
 intro pins s σ H xs us Q I r h
 obtain ⟨p,ys,rfl,hq,hb,q⟩:=h
 obtain ⟨u1,rfl,r1⟩:=r.one
 cases r1
 exact PySem.call_any_walk (yac (R:=λ_ a s'=>EP X pins σ Q (.bool a) s') hc I hq hb λs' I'=>⟨.bl _,H,I',rfl,q⟩)
theorem yae {K:QFg}:Fn3 K zf1 (zpu K λys=>ys.any vT):=by
 intro ρ S H xs vs v S' Q sim r h p
 unfold zf1 at h
 split at h
 ·obtain ⟨ys,h1,h⟩:=bnd h
  obtain ⟨hb,e⟩:=zbe h
  cases e
  obtain ⟨w,rfl,rw'⟩:=r.one
  obtain ⟨a,us,ha,sq,r2⟩:=sim.lstOf h1
  obtain ⟨t1,t2,t3⟩:=zpt r2
  cases rw' with
  | ref hn =>
   rw [ha] at hn;cases hn
   exact ⟨_,us,rfl,sq,by rw [t3];exact hb,by dsimp only;rw [t2];exact p ρ H _ (Ext.refl ..) sim (.bl _)⟩
 ·cases h
theorem yaf:bootBuiltins "any" = some (.builtin "any"):=by decide +kernel
theorem zpv (hc:X.calm=true) (hg:Gl X "any") (hm:X.mg "any" = none) (ha:PA3 X (a :: es) mA) (he:starEach (a :: es) X.env=(false,eval a X.env) :: starEach es X.env:=by rfl) (hpl:(backTo pos (starEach es X.env)).any (·.1)=false:=by rfl):PE3 X (.Call (.Name "any" p) (a :: es) [] pos) (zaf zf1 mA) :=
 zfi (yad hc) yae hg hm yaf ha (by decide) (by decide) he hpl
end
section
end
section
end
section
end
section
end
section
theorem yag (hb:s.heap.IsTupleIter b t n) (ht:s.heap.IsTuple t vs) (hu:vs[n]? = some u)
  (q:∀h1,h1.IsTupleIter b t (n+1)->Heap.SameBut b s.heap h1->Q u { s with heap:=h1 }):wpAny (model prog w) A (Builtin.SmallTypes.nextOf (.ref b)) Q E s:=by
 obtain ⟨ob,gb,cb,db⟩:=id hb
 obtain ⟨ot,gt,_,nt,dt⟩:=ht
 unfold Builtin.SmallTypes.nextOf
 refine qwb (wpAny_callSpecial?_slot (name:=Str.ofString "__next__") hb.typeIs F.slot_tuple_iterator_next (wpAny_call_entry F.slot_tuple_iterator_next hb.typeIs F.entry_tuple_iterator_next ?_ (F.args_tuple_iterator_next_1 _)))
 show wpAny _ _ (field (.ref b) 0 >>= _) _ _ s
 refine qwb (wpAny_field gb db (x:=.ref t) rfl ?_)
 show wpAny _ _ (if (Value.ref t == Value.none)=true then _ else _) _ _ s
 rw [if_neg (by intro z;cases z)]
 show wpAny _ _ (field (.ref b) 1 >>= _) _ _ s
 refine qwb (wpAny_field gb db (x:=.int n 0) rfl ?_)
 show wpAny _ _ (seqItems? (.ref t) >>= _) _ _ s
 refine qwb (wpAny_seqItems gt dt ?_)
 simp only [Int.toNat_natCast,hu]
 refine qwb (wpAny_setField gb db (by simp) (qwp ⟨u,rfl,qwp (q _ ⟨_,Heap.get?_update_self _ gb (Obj.isFreed_of_fields (Obj.data_mapFields db _)),(Obj.cls_mapFields ..).trans cb,by rw [Obj.data_mapFields db];simp [rawInt]⟩ (Heap.SameBut.update ..))⟩))
theorem zlz (hA:A.handled=none) (hb:s.heap.IsTupleIter b t n) (ht:s.heap.IsTuple t vs) (hu:vs[n]? = none)
  (q:∀h1 x,Heap.ExtBut b s.heap h1->(∃o,h1.get? x=some o/\o.cls=.type "StopIteration")->E (.ref x) { s with heap:=h1 }):wpAny (model prog w) A (Builtin.SmallTypes.nextOf (.ref b)) Q E s:=by
 obtain ⟨ob,gb,cb,db⟩:=id hb
 obtain ⟨ot,gt,_,nt,dt⟩:=ht
 unfold Builtin.SmallTypes.nextOf
 refine qwb (wpAny_callSpecial?_slot (name:=Str.ofString "__next__") hb.typeIs F.slot_tuple_iterator_next (wpAny_call_entry F.slot_tuple_iterator_next hb.typeIs F.entry_tuple_iterator_next ?_ (F.args_tuple_iterator_next_1 _)))
 show wpAny _ _ (field (.ref b) 0 >>= _) _ _ s
 refine qwb (wpAny_field gb db (x:=.ref t) rfl ?_)
 show wpAny _ _ (if (Value.ref t == Value.none)=true then _ else _) _ _ s
 rw [if_neg (by intro z;cases z)]
 show wpAny _ _ (field (.ref b) 1 >>= _) _ _ s
 refine qwb (wpAny_field gb db (x:=.int n 0) rfl ?_)
 show wpAny _ _ (seqItems? (.ref t) >>= _) _ _ s
 refine qwb (wpAny_seqItems gt dt ?_)
 simp only [Int.toNat_natCast,hu]
 refine qwb (wpAny_rule (qwb (wpAny_setField gb db (by simp) ?_)))
 show wpAny _ _ (newExc (.type "StopIteration") [] >>= _) _ _ _
 refine qwb ?_
 simp only [newExc,newTuple]
 refine qwb (wpAny_newObj_type ?_ (by size_fits))
 refine qwb (m:=firstArgMember _ _) (wpAny_of_eq (a:=Value.none) (by first|rfl|(simp only [firstArgMember];rfl)) ?_)
 refine wpAny_newObj_type ?_ (by size_fits)
 simp only [raiseNew]
 refine qwb (wpAny_handled ?_)
 first|rw [show A.in1.handled=none from hA]|rw [hA]
 refine qwb (qwp (wpAny_throw ?_))
 exact q _ _ (((Heap.SameBut.update ..).extBut.push _).push _) ⟨_,Heap.get?_push_size _ rfl,rfl⟩
end
theorem zpw (hA:A.handled=none) (b t:Addr) (hne:t≠b) (vs:Array Value) :
  Draws prog w A b [b,t] vs.size (λi v=>vs[i]? = some v) (λi h=>h.IsTupleIter b t i/\h.IsTuple t vs) where
 live:=λ_ _ st=>let ⟨o,ho,_⟩:=st.1;⟨o,ho⟩
 frame:=λ_ _ _ st hk=>⟨let ⟨o,ho,r⟩:=st.1;⟨o,hk b (by simp) o ho,r⟩,let ⟨o,ho,r⟩:=st.2;⟨o,hk t (by simp) o ho,r⟩⟩
 item:=λi s Q E hi st hQ=>yag st.1 st.2 (u:=vs[i]) (by simp [hi]) λh1 hb1 hs1=>hQ _ h1 s.toks (by simp [hi]) ⟨hb1,st.2.extBut hs1.extBut hne⟩ hs1
 done:=λs Q E st hE=>zlz hA st.1 st.2 (by simp) hE
theorem Inv.dealt {X:Cx}{pins:List (Addr × Obj)}{σ:L2.St}{H:Hp}{s:Shared}{h1:Heap}{t1:Nat}{ch:List Addr}{xs:List V}{us:List Value}(I:Inv X pins σ H s) (hf:∀b∈ch,zby X pins H b)
  (k:∀b o,b ∉ ch->s.heap.get? b=some o->h1.get? b=some o) (g:IsTD h1 s.heap.objs.size us.toArray) (r:Vals xs us) (hz:xs.length<=sizeLine) :
  Inv X pins σ (upd H s.heap.objs.size (.tup xs)) { s with heap:=h1,toks:=t1 }:=by
 have hn:H s.heap.objs.size=none:=I.hok.fresh (qlr _)
 have ne:∀b o,s.heap.get? b=some o->b≠s.heap.objs.size:=λb o e=>Nat.ne_of_lt (Heap.lt_size e)
 have nf:∀b u,H b=some u->b ∉ ch:=λb u e z=>by rw [(hf b z).1] at e;cases e
 refine I.step (g':=s.gens) (d':=s.drawn) (ch:=ch) (λb hb=>?_) (λb o _ _ hc e _=>k b o hc e) (λb o _ _ hc e _=>⟨o.slots,k b o hc e⟩) (λb o _ e n=>by rw [zap (ne b o e)];exact n)
  (λb o hc e=>⟨o,k b o hc e⟩) (λb ys e=>by rw [zap (zbc e hn)];exact e) (λb o u e=>by rw [zap (zbc e hn)];exact e) (λb ps e=>⟨#[],by rw [zap (zbc e hn),e];simp⟩) (λm hm=>?_) (λb u e=>?_) I.bare
 ·obtain ⟨_,q1,_,q3,q4,q5⟩:=hf b hb
  exact ⟨q3,q1,q4,q5⟩
 ·obtain ⟨o,es,ep,ho,q⟩:=hm
  exact ⟨o,es,ep,k _ o (λz=>(hf _ z).2.1 rfl) ho,q⟩
 ·by_cases hb:b=s.heap.objs.size
  ·subst hb;rw [zbw] at e;cases e;exact ⟨hz,us,r,g⟩
  ·rw [zap hb] at e
   refine (I.hok b u e).stay (λc v hc q=>k c v ?_ q) (λc q=>by rw [zap (zbc q hn)];exact q) λc xs q=>by rw [zap (zbc q hn)];exact q
   rcases hc with z|z
   ·rw [z];exact nf b u e
   ·exact nf c _ z
noncomputable def Itn (J:It):It:=⟨J.go,λi H x H1=>∃y p,J.yld i H y H/\H p=none/\x=.ref p/\H1=upd H p (.tup [.int i,y]),J.stop⟩
section
variable {P:Program}{w:World}{K:QFg}{elts:List Expr}{z:Nat}{tp:Pos}
theorem zl0 {T:Heap->Prop}(hT:∀h,T h->∃o,h.get? b=some o/\∀v,o.data≠.cell v) (i:Nat) (h:Heap) (st:(∃old,IsEnum h e b i old)/\T h):∀c∈[e,b],∃o,h.get? c=some o/\∀v,o.data≠.cell v:=λc hc=>by
 have hc:c=e\/c=b:=by simpa using hc
 rcases hc with rfl|rfl
 ·obtain ⟨⟨old,q⟩,_⟩:=st
  exact ⟨_,q,λv z=>by
   have z:Data.fields _=Data.cell v:=z
   cases z⟩
 ·exact hT h st.2
theorem zjq {h:Heap}{a b:Addr}{c d:Value}{p q:Obj->Prop}(ha:∃o,h.get? a=some o/\o.cls=c/\p o) (hb:∃o,h.get? b=some o/\o.cls=d/\q o) (n:c≠d):a≠b:=by
 rintro rfl
 obtain ⟨o,e,c1,_⟩:=ha
 obtain ⟨o2,e2,c2,_⟩:=hb
 rw [e] at e2;cases e2
 exact n (c1.symm.trans c2)
theorem zl1 {X:Cx}{pins:List (Addr × Obj)}{σ:L2.St}{H:Hp}{s:Shared}{e b:Addr}{i tk:Nat}{x:V}{u:Value}{h1 h2:Heap}{J:It}{T:Heap->Prop}(I:Inv X pins σ H s) (hf:∀c∈[e,b],zby X pins H c) (ru:RelV x u)
  (le:e<s.heap.objs.size) (lb:b<s.heap.objs.size) (hk:∀c o,c≠e->c≠b->s.heap.get? c=some o->h1.get? c=some o) (hT:h1.get? s.heap.objs.size=some { cls:=.type "tuple",data:=.seq #[.int i tk,u] })
  (he2:IsEnum h2 e b ((i:Int)+1) u) (hs2:Heap.SameBut e h1 h2) (t2:T h2) (y:J.yld i H x H) :
  ∃x1 H1,Inv X pins σ H1 { s with heap:=h2,toks:=tk+1 }/\RelV x1 (.ref s.heap.objs.size)/\(Itn J).yld i H x1 H1/\((∃old,IsEnum h2 e b ((i+1:Nat):Int) old)/\T h2)/\∀c∈[e,b],H1 c=none:=by
 have hn:H s.heap.objs.size=none:=I.hok.fresh (qlr _)
 refine ⟨.ref s.heap.objs.size,upd H s.heap.objs.size (.tup [.int i,x]),?_,rfl,⟨x,s.heap.objs.size,y,hn,rfl,rfl⟩,⟨⟨u,by simpa using he2⟩,t2⟩,λc hc=>?_⟩
 ·refine Inv.dealt (us:=[.int i tk,u]) I hf (λc o hc q=>?_) ⟨_,(hs2.2 _ (Nat.ne_of_gt le)).trans hT,rfl,_,rfl,rfl⟩ (.cons ⟨tk,rfl⟩ (.cons ru .nil)) (by show 2<=sizeLine;decide)
  have h3:c≠e/\c≠b:=⟨λz=>hc (by simp [z]),λz=>hc (by simp [z])⟩
  exact (hs2.2 c h3.1).trans (hk c o h3.1 h3.2 q)
 ·have:c≠s.heap.objs.size:=by
   have hc:c=e\/c=b:=by simpa using hc
   rcases hc with rfl|rfl
   ·exact Nat.ne_of_lt le
   ·exact Nat.ne_of_lt lb
  rw [zap this];exact (hf c hc).1
theorem yah (a e b:Addr) (heb:e≠b):Turn P w K (.Tuple elts z tp) (Itn (Itl K a)) [e,b] e (λi h=>(∃old,IsEnum h e b i old)/\h.IsListIter b a i) where
 mem:=by simp
 obj:=λi h st=>zl0 (T:=λh=>h.IsListIter b a i) (λh ⟨o,q,c,d⟩=>⟨o,q,λv z=>by rw [d] at z;cases z⟩) i h st
 keep:=λi h h1 st k=>⟨let ⟨old,q⟩:=st.1;⟨old,k e (by simp) _ q⟩,st.2.at λo q=>k b (by simp) o q⟩
 item:=by
  intro X hP hw hK hc i pins s σ H E I hf st hg
  subst hP hw hK
  obtain ⟨xs,x,hq,hx⟩:=hg
  obtain ⟨its,rv,p,hz⟩:=I.list hq
  obtain ⟨u,hu,ru⟩:=rv.get hx
  obtain ⟨⟨old,he⟩,hb⟩:=st
  have nab:a≠b:=zjq p.isList hb (by decide)
  have nae:a≠e:=zjq (d:=.type "enumerate") (q:=λ_=>True) p.isList ⟨_,he,rfl,trivial⟩ (by decide)
  have hlt:i<its.toArray.size:=by simpa using (qme hu).1
  refine wpAny_pyNext_enum_itemD (Draws.list (A:=X.A.in1) (I.ok.hd hc) b a nab its.toArray) he ⟨hb,p.isList⟩ hlt heb (by simp [heb,nae.symm]) λx1 h1 tk hP ho hs1 hT hsz hk=>?_
  have hx1:x1=u:=by
   have:its.toArray[i]? = some u:=by simpa using hu
   rw [this] at hP;exact (qoi hP).symm
  subst hx1
  obtain ⟨ob,gb,_⟩:=id hb
  refine ⟨_,rfl,wpAny_letOwnedTupleGo_enum ho λh2 he2 hs2=>?_⟩
  replace hs2:Heap.SameBut e h1 h2:=hs2
  exact zl1 (J:=Itl X.K a) (T:=λh=>h.IsListIter b a (i+1)) I hf ru (Heap.lt_size he) (Heap.lt_size gb) hk hT he2 hs2 (hs1.1.at λo q=>(hs2.2 b heb.symm).trans q) ⟨rfl,λys hy=>by rw [I.list_inj hy hq];exact hx⟩
 done:=by
  intro X hP hw hK hc i pins s σ H E I hf st hg
  subst hP hw hK
  obtain ⟨xs,hq,hx⟩:=hg
  obtain ⟨its,rv,p,hz⟩:=I.list hq
  obtain ⟨⟨old,he⟩,hb⟩:=st
  obtain ⟨f0,f1,f2,f3,f4,f5⟩:=hf b (by simp)
  have hl:=rv.length
  exact wpAny_pyNext_enum_end (I.ok.hd hc) he hb p.isList (by simp;omega) λh1 eb=>⟨rfl,I.turned (t':=s.toks) (λc o hb q=>eb c o hb q) f0 f1 f3 f4 f5⟩
 self:=λA i s Q E st h=>let ⟨old,q⟩:=st.1;wpAny_pyIter_enum q h
theorem yai {E:Value->Shared->Prop}{n:Nat}{vs:Array Value}{Q:Option Value->Shared->Prop}(hA:A.handled=none) (he:IsEnum s.heap e b n old) (hb:s.heap.IsTupleIter b t n)
  (ht:s.heap.IsTuple t vs) (hu:vs[n]? = none) (q:∀h1,Heap.ExtBut b s.heap h1->Q none { s with heap:=h1 }):wpAny (model P w) A (pyNext (.ref e)) Q E s:=by
 have ty:s.TypeIs (.ref e) "enumerate":=⟨_,he,rfl⟩
 unfold pyNext
 refine qwb (wpAny_attempt (wpAny_callSpecial?_slot (name:=Str.ofString "__next__") ty F.slot_enumerate_next (wpAny_call_entry F.slot_enumerate_next ty F.entry_enumerate_next ?_ (F.args_enumerate_next_1 _))))
 show wpAny _ _ (field (.ref e) 2 >>= _) _ _ _
 refine qwb (wpAny_field he rfl (x:=.ref b) rfl ?_)
 refine qwb (zlz hA hb ht hu λh1 x q1 ⟨o,g,c⟩=>?_)
 exact qwb (wpAny_isInstance (T:="StopIteration") (b:=true) ⟨o,g,c⟩ isSubtype_stop (qwp (q _ q1)))
theorem yaj (a e b:Addr) (heb:e≠b):Turn P w K (.Tuple elts z tp) (Itn (Itt K a)) [e,b] e (λi h=>(∃old,IsEnum h e b i old)/\h.IsTupleIter b a i) where
 mem:=by simp
 obj:=λi h st=>zl0 (T:=λh=>h.IsTupleIter b a i) (λh ⟨o,q,c,d⟩=>⟨o,q,λv z=>by rw [d] at z;cases z⟩) i h st
 keep:=λi h h1 st k=>⟨let ⟨old,q⟩:=st.1;⟨old,k e (by simp) _ q⟩,let ⟨o,q,r⟩:=st.2;⟨o,k b (by simp) o q,r⟩⟩
 item:=by
  intro X hP hw hK hc i pins s σ H E I hf st hg
  subst hP hw hK
  obtain ⟨xs,x,hq,hx⟩:=hg
  obtain ⟨its,rv,p,hz⟩:=I.tuple hq
  obtain ⟨u,hu,ru⟩:=rv.get hx
  obtain ⟨⟨old,he⟩,hb⟩:=st
  have p:s.heap.IsTuple a its.toArray:=p
  have nab:a≠b:=zjq p hb (by decide)
  have nae:a≠e:=zjq (d:=.type "enumerate") (q:=λ_=>True) p ⟨_,he,rfl,trivial⟩ (by decide)
  have hlt:i<its.toArray.size:=by simpa using (qme hu).1
  refine wpAny_pyNext_enum_itemD (zpw (A:=X.A.in1) (I.ok.hd hc) b a nab its.toArray) he ⟨hb,p⟩ hlt heb (by simp [heb,nae.symm]) λx1 h1 tk hP ho hs1 hT hsz hk=>?_
  have hx1:x1=u:=by
   have:its.toArray[i]? = some u:=by simpa using hu
   rw [this] at hP;exact (qoi hP).symm
  subst hx1
  obtain ⟨ob,gb,_⟩:=id hb
  refine ⟨_,rfl,wpAny_letOwnedTupleGo_enum ho λh2 he2 hs2=>?_⟩
  replace hs2:Heap.SameBut e h1 h2:=hs2
  exact zl1 (J:=Itt X.K a) (T:=λh=>h.IsTupleIter b a (i+1)) I hf ru (Heap.lt_size he) (Heap.lt_size gb) hk hT he2 hs2 (hs1.1.extBut hs2.extBut heb.symm) ⟨rfl,λys hy=>by rw [I.tuple_inj hy hq];exact hx⟩
 done:=by
  intro X hP hw hK hc i pins s σ H E I hf st hg
  subst hP hw hK
  obtain ⟨xs,hq,hx⟩:=hg
  obtain ⟨its,rv,p,hz⟩:=I.tuple hq
  obtain ⟨⟨old,he⟩,hb⟩:=st
  obtain ⟨f0,f1,f2,f3,f4,f5⟩:=hf b (by simp)
  have hl:=rv.length
  exact yai (I.ok.hd hc) he hb p (by simp;omega) λh1 eb=>⟨rfl,I.turned (t':=s.toks) (λc o hb q=>eb c o hb q) f0 f1 f3 f4 f5⟩
 self:=λA i s Q E st h=>let ⟨old,q⟩:=st.1;wpAny_pyIter_enum q h
end
open AutoSeq1
theorem yak (t:Addr) (vs:Array Value) (m:Nat) (dc:Option Addr) (sl:Array (Option Value)) :
  Meets (Builtin.«enumerate.__new__» ⟨[.type "enumerate",.ref t],[]⟩) (λ_ R s=>s.heap.get? t=some { cls:=.type "tuple",dict:=dc,data:=.seq vs m,slots:=sl } /\
   R (.ok (.ret (.ref (s.heap.push { cls:=.type "tuple_iterator",data:=.fields #[.ref t,.int 0 0] }).objs.size)))
    { s with heap:=(s.heap.push { cls:=.type "tuple_iterator",data:=.fields #[.ref t,.int 0 0] }).push { cls:=.type "enumerate",data:=.fields #[.none,.bool false,.ref s.heap.objs.size,rawInt 0,.none,.none] } }) :=
 .of_wp λprog w A R s hx1_=>by
  obtain ⟨ht,h⟩:=hx1_
  have sub1:=sub_enumerate
  obtain ⟨hp,g,d,tk,os⟩:=s
  have tt:Heap.IsTuple (Shared.heap ⟨hp,g,d,tk,os⟩) t vs:=⟨_,ht,rfl,m,rfl⟩
  wp_walk using wpAny_loadPart' ht
  refine wpAny_stack_any λ_=>qwp ?_
  split
  ·rename_i c _ _ _ _ _
   cases (c == Value.type "enumerate") <;> (wp_walk using wpAny_loadPart' ht,wpAny_pyIter_tuple tt;exact ⟨_,rfl,h⟩)
  ·wp_walk using wpAny_loadPart' ht,wpAny_pyIter_tuple tt
   exact ⟨_,rfl,h⟩
section
theorem yal (ht:s.heap.IsTuple t vs)
  (q:∀h1,IsEnum h1 (s.heap.objs.size+1) s.heap.objs.size 0 .none->h1.IsTupleIter s.heap.objs.size t 0->(∀b o,s.heap.get? b=some o->h1.get? b=some o)->Q (.ref (s.heap.objs.size+1)) { s with heap:=h1 }) :
  wpAny (model prog w) A (call (.type "enumerate") [.ref t]) Q E s:=by
 obtain ⟨⟨c,dc,dt,sl⟩,gt,hc,m,hd⟩:=ht
 replace hc:c=.type "tuple":=hc
 replace hd:dt=.seq vs m:=hd
 subst hc hd
 refine callType_new F.called_enumerate (by decide) (F.typeCall_enumerate_1 _) (F.newCall_enumerate_1 _) (λo=>F.args_object_init_2 o _) F.entry_enumerate_new (yak t vs m dc sl) ⟨gt,?_⟩
 have hz:(s.heap.push { cls:=.type "tuple_iterator",data:=.fields #[.ref t,.int 0 0] }).objs.size=s.heap.objs.size+1:=Heap.size_push ..
 show _/\_
 rw [hz]
 have he:IsEnum ((s.heap.push { cls:=.type "tuple_iterator",data:=.fields #[.ref t,.int 0 0] }).push { cls:=.type "enumerate",data:=.fields #[.none,.bool false,.ref s.heap.objs.size,rawInt 0,.none,.none] }) (s.heap.objs.size+1) s.heap.objs.size 0 .none:=by
  rw [<-hz];exact Heap.get?_push_size _ rfl
 exact ⟨⟨_,he,rfl⟩,q _ he ⟨_,qps _ (Heap.get?_push_size _ rfl),rfl,rfl⟩ λb o x=>qps _ (qps _ x)⟩
end
theorem zl2:bootBuiltins "enumerate" = some (.type "enumerate"):=by decide +kernel
section
def yam (K:QFg) (ta:TA):TI:=λσ H R=>ta σ H λvs H1=>∃a,vs=[.ref a]/\(∃xs,SqL K H1 a xs)/\R (Itn (Itl K a)) H1
def yan (K:QFg) (ta:TA):TI:=λσ H R=>ta σ H λvs H1=>∃a,vs=[.ref a]/\(∃xs,SqT K H1 a xs)/\R (Itn (Itt K a)) H1
theorem zjr {pins:List (Addr × Obj)}{σ:L2.St}{R:It->Hp->Prop}{E:Value->Shared->Prop}{J:It}{T:Nat->Heap->Prop}(I:Inv X pins σ H s) (tu:Turn X.prog X.w X.K (.Tuple elts z tp) J [s.heap.objs.size+1,s.heap.objs.size] (s.heap.objs.size+1) (λi h=>(∃old,IsEnum h (s.heap.objs.size+1) s.heap.objs.size i old)/\T i h))
  (he:IsEnum h1 (s.heap.objs.size+1) s.heap.objs.size 0 .none) (t0:T 0 h1) (hk:∀b o,s.heap.get? b=some o->h1.get? b=some o) (q:R J H):wpAny (model X.prog X.w) X.A (pyIter (.ref (s.heap.objs.size+1))) (PIE X pins σ (.Tuple elts z tp) R) E { s with heap:=h1 }:=by
 refine wpAny_pyIter_enum (s:={ s with heap:=h1 }) he ⟨_,_,_,J,H,rfl,I.kept (t':=s.toks) hk,tu,⟨⟨_,he⟩,t0⟩,λc hc=>?_,q⟩
 have:s.heap.objs.size<=c:=by
  have hc:c=s.heap.objs.size+1\/c=s.heap.objs.size:=by simpa using hc
  rcases hc with rfl|rfl
  ·exact Nat.le_succ _
  ·exact qlr _
 exact I.fpOk this (I.hok.fresh this)
theorem yao {ta:TA}(hg:Gl X "enumerate") (hm:X.mg "enumerate" = none) (ha:PA X [a] ta) (hs:starEach [a] X.env=[(false,eval a X.env)]:=by rfl):PI X (.Tuple elts z tp) (.Call (.Name "enumerate" p) [a] [] pos) (yam X.K ta):=by
 intro pins s σ H R I h
 refine Call_ (zd7 I hg hm zl2 (PyProof.Rows.callWith_type1 (thn (ha pos pins s σ H _ I h) λus s1 ⟨vs,H1,I1,r1,q1⟩=>?_) hs rfl))
 obtain ⟨b,rfl,⟨xs,hq⟩,q⟩:=q1
 cases r1 with
 | cons r rr =>
  cases rr
  cases r
  obtain ⟨its,rv,pl,hz⟩:=I1.list hq
  exact call_enumerate_list pl.isList λh1 he hb _ hk=>zjr (T:=λi h=>h.IsListIter s1.heap.objs.size b i) I1 (yah b _ _ (Nat.succ_ne_self _)) he hb hk q
theorem yap {ta:TA}(hg:Gl X "enumerate") (hm:X.mg "enumerate" = none) (ha:PA X [a] ta) (hs:starEach [a] X.env=[(false,eval a X.env)]:=by rfl):PI X (.Tuple elts z tp) (.Call (.Name "enumerate" p) [a] [] pos) (yan X.K ta):=by
 intro pins s σ H R I h
 refine Call_ (zd7 I hg hm zl2 (PyProof.Rows.callWith_type1 (thn (ha pos pins s σ H _ I h) λus s1 ⟨vs,H1,I1,r1,q1⟩=>?_) hs rfl))
 obtain ⟨b,rfl,⟨xs,hq⟩,q⟩:=q1
 cases r1 with
 | cons r rr =>
  cases rr
  cases r
  obtain ⟨its,rv,pl,hz⟩:=I1.tuple hq
  exact yal (show s1.heap.IsTuple b its.toArray from pl) λh1 he hb hk=>zjr (T:=λi h=>h.IsTupleIter s1.heap.objs.size b i) I1 (yaj b _ _ (Nat.succ_ne_self _)) he hb hk q
end
noncomputable def zdv (it:ItM) (g:GM) (b:SM):Nat->Nat->SM
 | 0,_,_,_=>none
 | k+1,i,l,S=>(it i S).bind λo=>match o with
  | none=>some (.nx,l,S)
  | some x=>(g x l S).bind λp=>(b p.1 p.2).bind λq=>match q.1 with
   | .nx=>zdv it g b k (i+1) q.2.1 q.2.2
   | .ct=>zdv it g b k (i+1) q.2.1 q.2.2
   | .bk=>some (.nx,q.2)
   | .rt d=>some (.rt d,q.2)
noncomputable def zh1 (im:IM) (g:GM) (b:SM):SM:=λl S=>(im l S).bind λp=>zdv p.1 g b p.2.1 0 l p.2.2
def zjs (K:QFg) (ρ:List Addr) (H:Hp) (it:ItM) (J:It):Prop:=∀(i:Nat) ρ' S' H',Ext ρ H ρ' H'->Sim K ρ' S' H' ->
 (it i S' = some none->J.stop i H')/\∀x,it i S' = some (some x)->J.go i H'/\∀y H'',J.yld i H' y H''->Ext ρ' H' ρ' H''/\Sim K ρ' S' H''/\RD ρ' H'' x y
noncomputable def itN (it:ItM):ItM:=λi S=>(it i S).map λo=>o.map λx=>.tup [.int i,x]
section
variable {K:QFg}
theorem zl3 (h:zec K ρ H it J):zjs K ρ H (itN it) (Itn J):=by
 intro i ρ1 S1 H1 e s
 obtain ⟨h1,h2⟩:=h i ρ1 S1 H1 e s
 unfold itN
 refine ⟨λq=>?_,λx q=>?_⟩
 ·cases hi:it i S1 with
  | none=>rw [hi] at q;cases q
  | some o =>
   cases o with
   | none=>exact h1 hi
   | some x=>rw [hi] at q;cases q
 ·cases hi:it i S1 with
  | none=>rw [hi] at q;cases q
  | some o =>
   cases o with
   | none=>rw [hi] at q;cases q
   | some y =>
    rw [hi] at q;cases q
    obtain ⟨q1,q2⟩:=h2 y hi
    refine ⟨q1,λv H2 ⟨y2,p,hy1,hp,e1,e2⟩=>?_⟩
    subst e1 e2
    obtain ⟨_,r⟩:=q2 y2 H1 hy1
    exact ⟨zbh hp,s.laid hp,.tup zbw (.cons (.int _) (.cons (r.mono (zbh hp)) .nil))⟩
theorem yaq (ok:zjs K ρ H it J)
  (sim:Sim K ρ S H) (ro:RO ρ H l σ) (hm:zdv it g b k 0 l S=some (f,l',S')) (p:∀ρ' H' σ',Ext ρ H ρ' H'->Sim K ρ' S' H'->RO ρ' H' l' σ'->zep ρ' H' E σ' f) :
  ∃W:Nat->Nat->L2.St->Hp->Prop,(∃m,W 0 m σ H)/\∀i m σ H,W i m σ H ->
   (J.stop i H/\E.nx σ H)\/(J.go i H/\∃N:L2.St->Hp->Prop,(∀σ' H',N σ' H'->∃m',m' < m/\W (i+1) m' σ' H')/\∀x H',J.yld i H x H'->tg K g x σ H' λσ2 H2=>ts K b { E with nx:=N,ct:=N,bk:=E.nx } σ2 H2):=by
 refine ⟨λi m σ1 H1=>∃ρ1 l1 S1,Ext ρ H ρ1 H1/\Sim K ρ1 S1 H1/\RO ρ1 H1 l1 σ1/\zdv it g b m i l1 S1=some (f,l',S'),⟨k,ρ,l,S,Ext.refl ..,sim,ro,hm⟩,?_⟩
 rintro i m σ1 H1 ⟨ρ1,l1,S1,e1,s1,ro1,hm1⟩
 cases m with
 | zero=>cases hm1
 | succ m =>
  unfold zdv at hm1
  obtain ⟨o,hi,hm1⟩:=bnd hm1
  obtain ⟨k1,k2⟩:=ok i ρ1 S1 H1 e1 s1
  cases o with
  | none=>cases hm1;exact .inl ⟨k1 hi,p ρ1 H1 σ1 e1 s1 ro1⟩
  | some x =>
   obtain ⟨k3,k4⟩:=k2 x hi
   refine .inr ⟨k3,_,λσ' H' h=>h,λy H2 hyl=>?_⟩
   obtain ⟨x2,s2,r2⟩:=k4 y H2 hyl
   refine zlj (next:=zdv it g b m (i+1)) s2 (ro1.mono x2) r2 hm1 (λρ' H' σ' e'=>p ρ' H' σ' ((e1.trans x2).trans e')) λρ3 H3 σ3 l3 S3 e3 s3 ro3 hm3=>?_
   exact ⟨m,Nat.lt_succ_self m,ρ3,l3,S3,(e1.trans x2).trans e3,s3,ro3,hm3⟩
end
section
end
theorem zpx {α:Type}{c:Prop} [Decidable c] {a:Option α}{v:α}(h:(if c then a else none)=some v):c/\a=some v:=by
 by_cases hc:c
 ·rw [if_pos hc] at h;exact ⟨hc,h⟩
 ·rw [if_neg hc] at h;cases h
section
end
section
end
section
variable {lo hi:Option Expr}{ml mh:OM}
end
section
end
noncomputable def zl4:D->D->Sto->Option (D × Sto)
 | .str z,.int i,S=>if z.length<=sizeLine then (atI z.cps.toList i).bind λc=>some (.str ⟨#[c]⟩,S) else none
 | _,_,_=>none
noncomputable def zai:D->D->Sto->Option (D × Sto):=λx y S=>match dIx x y S with|some v=>some v|none=>zl4 x y S
theorem yar {K:QFg}:Op3 K zl4 zk2:=by
 intro ρ S H x y x' y' v S' Q sim rx ry h p
 unfold zl4 at h
 split at h
 ·cases rx;cases ry
  split at h
  ·rename_i hz
   obtain ⟨c,h1,h⟩:=bnd h
   cases h
   exact ⟨_,_,c,rfl,rfl,hz,h1,p ρ H _ (Ext.refl ..) sim (.str _)⟩
  ·cases h
 ·cases h
theorem yas {K:QFg}:Op3 K zai (rIx K):=by
 intro ρ S H x y x' y' v S' Q sim rx ry hm p
 unfold zai at hm
 cases e:dIx x y S with
 | some w=>rw [e] at hm;cases hm;exact zyr ρ S H x y x' y' _ _ Q sim rx ry e p
 | none=>rw [e] at hm;exact .inr (.inr (yar ρ S H x y x' y' _ _ Q sim rx ry hm p))
noncomputable def zb7:FM
 | [.str z],S=>if z.length<=sizeLine then some (.int z.length,S) else none
 | xs,S=>zht xs S
section
variable {X:Cx}{a b:Expr}{ma mb:EM}{mA:AM}{es:List Expr}{pos p:Pos}{K:QFg}
theorem zas (ha:PE3 X a ma) (hb:PE3 X b mb) (hs:zob b:=by intro _ _;rfl):PE3 X (.Subscript a b pos) (eOp zai ma mb):=PE.imp (zxc zxe ha hb hs) (zi5 yas)
theorem yat:Fn3 K zb7 (λxs H Q=>(∃p ys,xs=[.ref p]/\(SqL K H p ys\/SqT K H p ys)/\Q (.int ys.length) H)\/∃z,xs=[.str z]/\z.length<=sizeLine/\Q (.int z.length) H):=by
 intro ρ S H xs vs v S' Q sim r h p
 unfold zb7 at h
 split at h
 ·obtain ⟨hz,e⟩:=zbe h
  cases e
  obtain ⟨w,rfl,rw'⟩:=r.one
  cases rw'
  exact .inr ⟨_,rfl,hz,p ρ H _ (Ext.refl ..) sim (.int _)⟩
 ·exact .inl (zyx ρ S H _ vs v S' Q sim r h p)
theorem zdh (hg:Gl X "len") (hm:X.mg "len" = none) (ha:PA3 X (a :: es) mA) (he:starEach (a :: es) X.env=(false,eval a X.env) :: starEach es X.env:=by rfl) (hpl:(backTo pos (starEach es X.env)).any (·.1)=false:=by rfl):PE3 X (.Call (.Name "len" p) (a :: es) [] pos) (zaf zb7 mA) :=
 zfi (call_len_seq.or zxo) yat hg hm PySem.boot_len ha (by decide) (by decide) he hpl
end
noncomputable def zg0:D->Option Key
 | .int i=>some (.inl i)
 | .str x=>some (.inr x)
 | _=>none
noncomputable def zei (kvs:List (Key × D)) (k:Key):Option D:=(kvs.find? λkv=>decide (kv.1=k)).map (·.2)
noncomputable def zjt (kvs:List (Key × D)) (k:Key) (v:D):List (Key × D):=if (kvs.any λkv=>decide (kv.1=k))=true then kvs.map (λkv=>if kv.1=k then (kv.1,v) else kv) else kvs++[(k,v)]
section
variable {K:QFg}{ρ:List Addr}{H:Hp}{S:Sto}
theorem zl5:∀{kvs:List (Key × D)}{vs:List V},RDs ρ H (kvs.map (·.2)) vs->(zei kvs k=none->zbv ((kvs.map (·.1)).zip vs) k=none)/\∀d,zei kvs k=some d->∃v,zbv ((kvs.map (·.1)).zip vs) k=some v/\RD ρ H d v
 | [],vs,r=>by
  cases r
  exact ⟨λ_=>rfl,λd h=>by cases h⟩
 | (k',d') :: kvs,vs,r=>by
  cases r with
  | @cons _ v _ vs r1 r2 =>
   by_cases e:k' = k
   ·have e1:zei ((k',d') :: kvs) k=some d':=by simp [zei,e]
    have e2:zbv ((((k',d') :: kvs).map (·.1)).zip (v :: vs)) k=some v:=zhj (p:=(k',v)) e
    rw [e1,e2]
    exact ⟨λz=>(by cases z),λd h=>(by cases h;exact ⟨v,rfl,r1⟩)⟩
   ·have e1:zei ((k',d') :: kvs) k=zei kvs k:=by simp [zei,e]
    have e2:zbv ((((k',d') :: kvs).map (·.1)).zip (v :: vs)) k=zbv ((kvs.map (·.1)).zip vs) k:=zhk (p:=(k',v)) e
    rw [e1,e2]
    exact zl5 r2
theorem zpy (k:Key):∀{kvs:List (Key × D)}{vs:List V},RDs ρ H (kvs.map (·.2)) vs->(((kvs.map (·.1)).zip vs).any λkv=>decide (kv.1=k))=kvs.any λkv=>decide (kv.1=k)
 | [],vs,r=>by cases r;rfl
 | (k',d') :: kvs,vs,r=>by
  cases r with
  | @cons _ v _ vs r1 r2 =>
   show (decide (k' = k) || (((kvs.map (·.1)).zip vs).any λkv=>decide (kv.1=k)))=(decide (k' = k) || _)
   rw [zpy k r2]
theorem yau (rv:RD ρ H d v) (r:RDs ρ H (kvs.map (·.2)) vs):∃ws,zbs ((kvs.map (·.1)).zip vs) k v=((zjt kvs k d).map (·.1)).zip ws/\RDs ρ H ((zjt kvs k d).map (·.2)) ws:=by
 unfold zbs zjt
 rw [zpy k r]
 by_cases e:(kvs.any λkv=>decide (kv.1=k))=true
 ·rw [if_pos e,if_pos e]
  clear e
  induction kvs generalizing vs with
  | nil=>cases r;exact ⟨[],rfl,.nil⟩
  | cons p kvs ih =>
   obtain ⟨k',d'⟩:=p
   cases r with
   | @cons _ u _ us r1 r2 =>
    obtain ⟨ws,h1,h2⟩:=ih r2
    by_cases e:k' = k
    ·refine ⟨v :: ws,?_,?_⟩
     ·simp only [List.map_cons,List.zip_cons_cons,if_pos e];rw [<-h1]
     ·simp only [List.map_cons,if_pos e];exact .cons rv h2
    ·refine ⟨u :: ws,?_,?_⟩
     ·simp only [List.map_cons,List.zip_cons_cons,if_neg e];rw [<-h1]
     ·simp only [List.map_cons,if_neg e];exact .cons r1 h2
 ·rw [if_neg e,if_neg e]
  refine ⟨vs++[v],?_,?_⟩
  ·rw [List.map_append,List.zip_append (by rw [qlm];have:=r.length;rw [qlm] at this;exact this)];rfl
  ·rw [List.map_append];exact r.append (.cons rv .nil)
theorem zju (h:zg0 d=some k) (r:RD ρ H d v):v=kV k:=by
 cases r <;> first|(cases h;rfl)|cases h
end
section
variable {X:Cx}{a b e:Expr}{ma mb me:EM}{pos pos':Pos}{k:Nat}
theorem zg1 (hr:Room k X.A):X.A.units+1<cLine:=by have:=hr.un;omega
theorem yav (hr:Room k X.A):OpR X (compareOp .In) (λy x H Q=>∃a o,x=.ref a/\zeo H a y o/\Q (.bl o.isSome) H):=by
 intro pins s σ H y x v u Q I ry rx h
 obtain ⟨a,o,rfl,g,q⟩:=h
 cases rx
 exact zx4 (zg1 hr) I g ry λs' I'=>⟨.bl _,H,I',rfl,q⟩
theorem yaw (hr:Room k X.A):OpR X (compareOp .NotIn) (λy x H Q=>∃a o,x=.ref a/\zeo H a y o/\Q (.bl (!o.isSome)) H):=by
 intro pins s σ H y x v u Q I ry rx h
 obtain ⟨a,o,rfl,g,q⟩:=h
 cases rx
 exact zx5 (zg1 hr) I g ry λs' I'=>⟨.bl _,H,I',rfl,q⟩
end
theorem zpz (kvs:List (Key × V)):zd3 (.dK kvs):=⟨λ_ z=>(by cases z),λ_ _ z=>(by cases z)⟩
section
end
section
end
section
end
noncomputable def sgn (z:Str):List D:=z.cps.toList.map λc=>.str ⟨#[c]⟩
noncomputable def Its (z:Str):It:=⟨λi _=>i<z.cps.size,λi H x H'=>H' = H/\∃c,z.cps[i]? = some c/\x=.str ⟨#[c]⟩,λi _=>z.cps.size<=i⟩
theorem zp0 (z:Str):(sgn z).length=z.cps.size:=by simp [sgn]
theorem yax {K:QFg}{ρ:List Addr}{H:Hp}{z:Str}:zec K ρ H (itX (sgn z)) (Its z):=by
 intro i ρ' S' H' e s
 refine ⟨λh=>?_,λx h=>?_⟩
 ·have h:(sgn z)[i]? = none:=qoi h
  have:=List.getElem?_eq_none_iff.mp h
  rw [zp0] at this
  exact this
 ·have h:(sgn z)[i]? = some x:=qoi h
  have hl:=(qme h).1
  rw [zp0] at hl
  refine ⟨hl,λy H'' ⟨e1,c,e2,e3⟩=>⟨e1,?_⟩⟩
  subst e3
  unfold sgn at h
  rw [qgm] at h
  have e4:z.cps.toList[i]? = some c:=by simpa using e2
  rw [e4] at h
  cases h
  exact .str _
section
variable {P:Program}{w:World}{K:QFg}{elts:List Expr}{z:Nat}{tp:Pos}
theorem zp6 (x:Str) (t:Tok) (T:String) (e b:Addr) (heb:e≠b) (Dr:∀A:Around,A.handled=none->Draws P w A b [b] x.cps.size (λi v=>∃c u,x.cps[i]? = some c/\v=.str ⟨#[c]⟩ u) (λi h=>h.IsStrIter b T x t i)) :
  Turn P w K (.Tuple elts z tp) (Itn (Its x)) [e,b] e (λi h=>(∃old,IsEnum h e b i old)/\(h.IsStrIter b T x t i/\i<=x.cps.size)) where
 mem:=by simp
 obj:=λi h st=>zl0 (T:=λh=>h.IsStrIter b T x t i/\i<=x.cps.size) (λh ⟨⟨o,q,c,d⟩,_⟩=>⟨o,q,λv z=>by rw [d] at z;cases z⟩) i h st
 keep:=λi h h1 st k=>⟨let ⟨old,q⟩:=st.1;⟨old,k e (by simp) _ q⟩,let ⟨⟨o,q,r⟩,l⟩:=st.2;⟨⟨o,k b (by simp) o q,r⟩,l⟩⟩
 item:=by
  intro X hP hw hK hc i pins s σ H E I hf st hg
  subst hP hw hK
  obtain ⟨⟨old,he⟩,hb,hle⟩:=st
  have hlt:i<x.cps.size:=hg
  refine wpAny_pyNext_enum_itemD (Dr X.A.in1 (I.ok.hd hc)) he hb hlt heb (by simp [heb]) λx1 h1 tk hP ho hs1 hT hsz hk=>?_
  obtain ⟨c,u,hc1,rfl⟩:=hP
  obtain ⟨ob,gb,_⟩:=id hb
  refine ⟨_,rfl,wpAny_letOwnedTupleGo_enum ho λh2 he2 hs2=>?_⟩
  replace hs2:Heap.SameBut e h1 h2:=hs2
  exact zl1 (J:=Its x) (x:=.str ⟨#[c]⟩) (T:=λh=>h.IsStrIter b T x t (i+1)/\i+1<=x.cps.size) I hf ⟨u,rfl⟩ (Heap.lt_size he) (Heap.lt_size gb) hk hT he2 hs2 ⟨let ⟨o,q,r⟩:=hs1;⟨o,(hs2.2 b heb.symm).trans q,r⟩,hlt⟩ ⟨rfl,c,hc1,rfl⟩
 done:=by
  intro X hP hw hK hc i pins s σ H E I hf st hg
  subst hP hw hK
  obtain ⟨⟨old,he⟩,hb,hle⟩:=st
  have hge:x.cps.size<=i:=hg
  have hi:i=x.cps.size:=by omega
  subst hi
  obtain ⟨f0,f1,f2,f3,f4,f5⟩:=hf b (by simp)
  exact wpAny_pyNext_enum_endD (Dr X.A.in1 (I.ok.hd hc)) he hb λh1 eb=>⟨rfl,I.turned (t':=s.toks) (λc o hb q=>eb c o hb q) f0 f1 f3 f4 f5⟩
 self:=λA i s Q E st h=>let ⟨old,q⟩:=st.1;wpAny_pyIter_enum q h
end
section
def yay (ta:TA):TI:=λσ H R=>ta σ H λvs H1=>∃x,vs=[.str x]/\R (Itn (Its x)) H1
theorem yaz {ta:TA}(hg:Gl X "enumerate") (hm:X.mg "enumerate" = none) (ha:PA X [a] ta) (hs:starEach [a] X.env=[(false,eval a X.env)]:=by rfl):PI X (.Tuple elts z tp) (.Call (.Name "enumerate" p) [a] [] pos) (yay ta):=by
 intro pins s σ H R I h
 refine Call_ (zd7 I hg hm zl2 (PyProof.Rows.callWith_type1 (thn (ha pos pins s σ H _ I h) λus s1 ⟨vs,H1,I1,r1,q1⟩=>?_) hs rfl))
 obtain ⟨x,rfl,q⟩:=q1
 cases r1 with
 | cons r rr =>
  cases rr
  obtain ⟨t,rfl⟩:=r
  refine call_enumerate_str λh1 he hb _ hk=>?_
  cases hall:x.cps.all (· < 128)
  ·have hb':h1.IsStrIter s1.heap.objs.size "str_iterator" x t 0:=by simpa [strIterType,hall] using hb
   exact zjr (T:=λi h=>h.IsStrIter s1.heap.objs.size "str_iterator" x t i/\i<=x.cps.size) I1 (zp6 x t _ _ _ (Nat.succ_ne_self _) λA hA=>Draws.strWide hA _ x t) he ⟨hb',Nat.zero_le _⟩ hk q
  ·have hb':h1.IsStrIter s1.heap.objs.size "str_ascii_iterator" x t 0:=by simpa [strIterType,hall] using hb
   exact zjr (T:=λi h=>h.IsStrIter s1.heap.objs.size "str_ascii_iterator" x t i/\i<=x.cps.size) I1 (zp6 x t _ _ _ (Nat.succ_ne_self _) λA hA=>Draws.strAscii hA _ x t) he ⟨hb',Nat.zero_le _⟩ hk q
end
inductive tiL (K:QFg) (im:IM) (σ:St) (H:Hp) (R:It->Hp->Prop):Prop
 | mk (ρ:_) (l:_) (S:_) (it:_) (k:_) (S':_) (_:Sim K ρ S H) (_:RO ρ H l σ) (_:im l S=some (it,k,S')) (_:∀ρ' H' J,Ext ρ H ρ' H'->Sim K ρ' S' H'->zjs K ρ' H' it J->R J H')
def zh2 (X:Cx) (tgt iter:Expr) (im:IM):Prop:=PI X tgt iter (tiL X.K im)
noncomputable def zjv (m:AM):IM:=λl S=>(m l S).bind λp=>match p.1 with
 | [.tup xs]=>some (itN (itX xs),xs.length+1,p.2)
 | [.ref n]=>(lstOf p.2 n).bind λxs=>some (itN (itL n),xs.length+1,p.2)
 | [.str z]=>some (itN (itX (sgn z)),z.cps.size+1,p.2)
 | _=>none
section
theorem ya0 (hgl:Gl X "enumerate") (hmg:X.mg "enumerate" = none) (ha:PA3 X [a] mA) (hst:starEach [a] X.env=[(false,eval a X.env)]:=by rfl):zh2 X (.Tuple elts z tp) (.Call (.Name "enumerate" p0) [a] [] pos') (zjv mA) :=
 PI.imp (PI.or (PI.or (yao hgl hmg ha hst) (yap hgl hmg ha hst)) (yaz hgl hmg ha hst)) λσ H R hx1_=>by
  obtain ⟨ρ,l,S,it,k,S',sim,ro,hm,p⟩:=hx1_
  obtain ⟨⟨xs,S2⟩,q2,q1⟩:=bnd hm
  dsimp only at q1
  split at q1
  ·rename_i ys
   cases q1
   refine .inl (.inr ⟨ρ,l,S,[.tup ys],_,sim,ro,q2,λρ1 H1 vs e1 s1 r1=>?_⟩)
   obtain ⟨v,rfl,rv⟩:=r1.one
   cases rv with
   | @tup _ c us hc' r=>exact ⟨c,rfl,⟨us,SqT.of hc'⟩,p ρ1 H1 _ e1 s1 (zl3 (zlk hc' r))⟩
  ·rename_i n
   obtain ⟨ys,hx,q1⟩:=bnd q1
   cases q1
   refine .inl (.inl ⟨ρ,l,S,[.ref n],_,sim,ro,q2,λρ1 H1 vs e1 s1 r1=>?_⟩)
   obtain ⟨v,rfl,rv⟩:=r1.one
   obtain ⟨c,us,hc',sq,rv'⟩:=s1.lstOf hx
   cases rv with
   | ref hn =>
    rw [hc'] at hn;cases hn
    exact ⟨c,rfl,⟨us,sq⟩,p ρ1 H1 _ e1 s1 (zl3 (zll hc'))⟩
  ·rename_i y
   cases q1
   refine .inr ⟨ρ,l,S,[.str y],_,sim,ro,q2,λρ1 H1 vs e1 s1 r1=>?_⟩
   obtain ⟨v,rfl,rv⟩:=r1.one
   cases rv
   exact ⟨y,rfl,p ρ1 H1 _ e1 s1 (zl3 yax)⟩
  ·cases q1
theorem zp7 {tgt iter:Expr}{im:IM}(hp:PassesOwn (model X.prog X.w) X.A X.env X.xe) (hc:X.calm=true) (hi:zh2 X tgt iter im) (hg:PG3 X tgt g) (hb:zc0 X body b) (hs:∀x,foldedSetIterable iter X.env x=pure x:=by intro _;rfl) :
  PS3 X (.For tgt iter body [] pos) (zh1 im g b) :=
 PS.imp (zkw hp hc hi hg hb hs) λE σ H hx2_=>by
  obtain ⟨ρ,l,S,f,l',S',sim,ro,hm,p⟩:=hx2_
  obtain ⟨⟨it,k,S1⟩,q1,hm⟩:=bnd hm
  exact ⟨ρ,l,S,it,k,S1,sim,ro,q1,λρ1 H1 J e1 s1 ok=>yaq ok s1 (ro.mono e1) hm λρ' H' σ' e'=>p ρ' H' σ' (e1.trans e')⟩
end
noncomputable def zh3:D->D->Sto->Option (D × Sto)
 | .ref n,.ref m,S=>match S[n]?,S[m]? with
  | some (.lst xs),some (.lst [])=>some (.bl xs.isEmpty,S)
  | _,_=>none
 | _,_,_=>none
def zp8:R2:=λx y H Q=>∃a b xs,x=.ref a/\y=.ref b/\H a=some (.lst xs)/\H b=some (.lst [])/\Q (.bl xs.isEmpty) H
section
theorem ya1 (hr:Room k X.A):OpR X (compareOp .Eq) zp8:=by
 intro pins s σ H x y v u Q I rx ry h
 obtain ⟨a,b,xs,rfl,rfl,ha,hb,q⟩:=h
 cases rx;cases ry
 obtain ⟨z,its,n,r,hl,e⟩:=I.lstM ha
 obtain ⟨z2,its2,n2,r2,hl2,e2⟩:=I.lstM hb
 cases r2
 have hu:X.A.units<cLine:=by have:=hr.un;omega
 have l1:s.heap.IsList a its.toArray:=⟨_,e,rfl,n,rfl⟩
 have l2:s.heap.IsList b ([]:List Value).toArray:=⟨_,e2,rfl,n2,rfl⟩
 cases xs with
 | nil =>
  cases r
  have:=SeqAt.RcAt.lists (A:=X.A) (e:=λ_=>true) l1 l2 rfl hu (λj h1 _=>by simp at h1)
  exact this X.prog X.w X.xe _ ⟨.bl _,H,I,rfl,q⟩
 | cons y ys =>
  cases r with
  | cons r1 r2 =>
   exact SeqAt.RcAt.lists_lengths (A:=X.A) l1 l2 (by simp) hu X.prog X.w X.xe _ ⟨.bl _,H,I,rfl,q⟩
theorem ya2 {K:QFg}:Op3 K zh3 zp8:=by
 intro ρ S H x y x' y' v S' Q sim rx ry h p
 unfold zh3 at h
 split at h
 ·split at h
  ·rename_i n m S xs e1 e2
   cases h
   obtain ⟨a,us,ha,hH,r2⟩:=sim.lst e1
   obtain ⟨b,ws,hb,hH2,r3⟩:=sim.lst e2
   cases r3
   cases rx with
   | ref hn =>
    rw [ha] at hn;cases hn
    cases ry with
    | ref hm =>
     rw [hb] at hm;cases hm
     refine ⟨a,b,us,rfl,rfl,hH,hH2,?_⟩
     have:us.isEmpty=xs.isEmpty:=by cases r2 <;> rfl
     rw [this]
     exact p ρ H _ (Ext.refl ..) sim (.bl _)
  ·cases h
 ·cases h
theorem ya3 (hr:Room k X.A) (ha:PE3 X a ma) (hb:PE3 X b mb):PE3 X (.Compare a [.Eq] [b] pos) (eOp zh3 ma mb):=zhq (ya1 hr) ya2 ha hb (zda b)
end
def ya4:V->Option Int->Option Int->Hp->VK->Prop:=λx lo hi H Q=>∃z,x=.str z/\z.length<=sizeLine/\Q (.str (Txt.slice z lo hi)) H
theorem zp9 (h:IsPart v o):∃l:Option (Int × Tok),v=partValue l/\o=l.map (·.1):=by
 cases h with
 | none=>exact ⟨none,rfl,rfl⟩
 | int i t=>exact ⟨some (i,t),rfl,rfl⟩
theorem ya5:SlR X ya4:=by
 intro pins s σ H x v vl vu lo hi sl Q I rx hs pl pu h
 obtain ⟨z,rfl,hz,q⟩:=h
 obtain ⟨t,rfl⟩:=rx
 obtain ⟨l,rfl,rfl⟩:=zp9 pl
 obtain ⟨u,rfl,rfl⟩:=zp9 pu
 refine ⟨"str",_,F.slot_str_getitem.lookup,typeIs_str _ _ _,?_⟩
 refine wpAny_getItem_str_slice (l:=l) (u:=u) (st:=none) hs rfl ?_
 refine post_val_or_str ⟨Nat.le_trans (Txt.slice_le z _ _) hz,λt' k=>?_⟩
 exact ⟨.str _,H,I.tok _,⟨t',rfl⟩,q⟩
noncomputable def zcx (m:EM) (lo hi:OM):EM:=λl S=>(m l S).bind λp=>(lo l p.2).bind λq=>(hi l q.2).bind λr=>match p.1 with
 | .tup xs=>some (.tup (zbt xs q.1 r.1),r.2)
 | .ref n=>(lstOf r.2 n).bind λxs=>some (.ref r.2.length,r.2++[.lst (zbt xs q.1 r.1)])
 | .str z=>if z.length<=sizeLine then some (.str (Txt.slice z q.1 r.1),r.2) else none
 | _=>none
section
variable {lo hi:Option Expr}{ml mh:OM}
theorem zf2 (he:PE3 X a ma) (hl:PO3 X lo ml) (hu:PO3 X hi mh):PE3 X (.Subscript a (.Slice lo hi none p2) pos) (zcx ma ml mh):=PE.imp (zxa (((sl_tup.or zyt).or zxk).or ya5) he hl hu) λσ H Q hx1_=>by
 obtain ⟨ρ,l,S,v,S',sim,ro,hm,p⟩:=hx1_
 obtain ⟨⟨x,S1⟩,h1,hm⟩:=bnd hm
 obtain ⟨⟨y,S2⟩,h2,hm⟩:=bnd hm
 obtain ⟨⟨z,S3⟩,h3,hm⟩:=bnd hm
 refine ⟨ρ,l,S,x,S1,sim,ro,h1,λρ1 H1 x' e1 s1 r1=>⟨ρ1,l,S1,y,S2,s1,ro.mono e1,h2,λρ2 H2 e2 s2=>⟨ρ2,l,S2,z,S3,s2,ro.mono (e1.trans e2),h3,λρ3 H3 e3 s3=>?_⟩⟩⟩
 have e13:=e1.trans (e2.trans e3)
 cases r1 with
 | @tup xs a vs ha r =>
  cases hm
  have ha3:=(e2.trans e3).tup _ _ ha
  have r3:=r.mono (e2.trans e3)
  have hlen:=r.length
  by_cases hw:HT.sIx vs.length 0 y=0/\HT.sIx vs.length vs.length z=vs.length
  ·refine .inl (.inl (.inr ⟨a,vs,rfl,SqT.of ha3,hw,?_⟩))
   have:=zyu xs y z (by rw [hlen];exact hw)
   dsimp only at p
   rw [this] at p
   exact p ρ3 H3 _ e13 s3 (.tup ha3 r3)
  ·refine .inl (.inl (.inl ⟨a,vs,rfl,SqT.of ha3,hw,?_⟩))
   have rc:RDs ρ3 H3 (zbt xs y z) (zdz vs y z):=by
    unfold zbt zdz
    rw [hlen]
    exact (r3.drop _).take _
   exact zhs s3 rc (Pv.ext p e13)
 | @ref j b hj =>
  obtain ⟨xs,hx,hm⟩:=bnd (show (lstOf S3 j).bind (λxs=>some (D.ref S3.length,S3++[.lst (zbt xs y z)]))=some (v,S') from hm)
  cases hm
  obtain ⟨c,us,hc,sq,rv⟩:=s3.lstOf hx
  have:=(e2.trans e3).pre _ _ hj
  rw [this] at hc;cases hc
  have rc:RDs ρ3 H3 (zbt xs y z) (zdz us y z):=by
   unfold zbt zdz
   rw [rv.length]
   exact (rv.drop _).take _
  exact .inl (.inr ⟨b,us,rfl,sq,zfh s3 rc (Pv.ext p e13)⟩)
 | str t =>
  obtain ⟨hz,e⟩:=zbe (show (if t.length<=sizeLine then some (D.str (Txt.slice t y z),S3) else none)=some (v,S') from hm)
  cases e
  exact .inr ⟨t,rfl,hz,p ρ3 H3 _ e13 s3 (.str _)⟩
 | _=>cases hm
end
noncomputable def zl6:D->D->Sto->Option (D × Sto)
 | .str i,.str j,S=>if i.length+j.length<=sizeLine then some (.str (i++j),S) else none
 | _,_,_=>none
noncomputable def zbf:D->D->Sto->Option (D × Sto):=λx y S=>match zl6 x y S with|some v=>some v|none=>zln x y S
theorem op3_plusS {K:QFg}:Op3 K zl6 (λx y H Q=>∃i j,x=.str i/\y=.str j/\i.length+j.length<=sizeLine/\Q (.str (i++j)) H):=by
 intro ρ S H x y x' y' v S' Q sim rx ry h p
 unfold zl6 at h
 split at h
 ·obtain ⟨hz,e⟩:=zbe h
  cases e;cases rx;cases ry
  exact ⟨_,_,rfl,rfl,hz,p ρ H _ (Ext.refl ..) sim (.str _)⟩
 ·cases h
theorem zb3 (ha:PE3 X a ma) (hb:PE3 X b mb):PE3 X (.BinOp a .Add b pos) (eOp zbf ma mb):=zhp (op_add_str.or (op_add.or ((op_catT.or zyv).or zxw))) (op3_plusS.or zzd) ha hb
section
variable {X:Cx}{a:Expr}{es:List Expr}{mA:AM}{pos p:Pos}{K:QFg}
end
noncomputable def zf3:D->List D->Sto->Option (D × Sto)
 | .ref n,[.int i,x],S=>match S[n]? with
  | some (.lst xs)=>if 0<=i/\i<=xs.length/\xs.length<sizeLine then some (.non,S.set n (.lst (xs.take i.toNat++[x]++xs.drop i.toNat))) else none
  | _=>none
 | _,_,_=>none
def zqa:V->List V->Hp->VK->Prop:=λx vs H Q=>∃l xs i y,x=.ref l/\vs=[.int i,y]/\H l=some (.lst xs)/\0<=i/\i<=xs.length/\xs.length<sizeLine/\Q .non (upd H l (.lst (xs.take i.toNat++[y]++xs.drop i.toNat)))
section
theorem ya6:MtM X "list.insert" zqa:=by
 intro pins s σ H x vs v us Q I rx rv h
 obtain ⟨l,xs,i,y,rfl,rfl,hH,h1,h2,hz,q⟩:=h
 cases rx
 obtain ⟨u,w,rfl,ru,rw'⟩:=rv.two
 obtain ⟨t,rfl⟩:=ru
 obtain ⟨z,its,n,r,hl,e⟩:=I.lstM hH
 have hsz:(16777216:Nat)=sizeLine:=by decide
 have hfit:¬(!Builtin.List.listFitsIndex i)=true:=by
  unfold Builtin.List.listFitsIndex
  simp only [Bool.not_eq_true',Bool.not_eq_false]
  simp;omega
 refine call_meets F.slot_list_insert ⟨_,e,rfl⟩ F.entry_list_insert (F.args_list_insert_3 _ _ _) (PySem.AutoListH.list_insert_list_int_val_1 l its.toArray n i t w hfit (by rw [List.size_toArray];omega)) ⟨e,?_⟩
 refine ⟨.non,_,I.lset (its':=its.take i.toNat++[w]++its.drop i.toNat) hH e ?_ (((r.take _).append (.cons rw' .nil)).append (r.drop _)) ?_,rfl,q⟩
 ·have hk:(if i<0 then (i+((its.toArray.size:Nat):Int)).toNat else min i.toNat its.toArray.size)=i.toNat:=by
   rw [if_neg (by omega),List.size_toArray];omega
  show (its.toArray.extract 0 (if i<0 then (i+((its.toArray.size:Nat):Int)).toNat else min i.toNat its.toArray.size)).push w++its.toArray.extract (if i<0 then (i+((its.toArray.size:Nat):Int)).toNat else min i.toNat its.toArray.size)=_
  rw [hk]
  apply Array.toList_inj.mp
  simp
  rw [<-List.drop_take]
  simp
 ·simp only [qla,List.length_take,List.length_drop,List.length_cons,List.length_nil];omega
theorem ya7 {K:QFg}:Mt3 K zf3 zqa:=by
 intro ρ S H x x' xs vs v S' Q sim rx r h p
 unfold zf3 at h
 split at h
 ·split at h
  ·rename_i n i y S ys e
   obtain ⟨hz,e2⟩:=zbe h
   cases e2
   obtain ⟨w,u,rfl,rw',ru⟩:=r.two
   cases rw'
   obtain ⟨a,us,ha,hH,r2⟩:=sim.lst e
   cases rx with
   | ref hn =>
    rw [ha] at hn;cases hn
    have hl:=r2.length
    refine ⟨_,us,i,u,rfl,rfl,hH,hz.1,by rw [<-hl];exact hz.2.1,by rw [<-hl];exact hz.2.2,p ρ _ _ (zfd ha hH) (sim.set ha e hH (((r2.take _).append (.cons ru .nil)).append (r2.drop _))) .non⟩
  ·cases h
 ·cases h
theorem ya8 (ho:PE3 X o mo) (he:PE3 X e m) (hf:PE3 X f m')
  (hbase:attributeBase o "insert" X.env (eval o X.env)=eval o X.env:=by rfl)
  (hfew:((backTo cpos (starEach [e,f] X.env)).all (λx=>!x.1) && (backToKw cpos (keywordEach [] X.env)).all (λx=>x.1.isSome)
   && decide ([e,f].length+([]:List Keyword).length+(if ([]:List Keyword).isEmpty then 0 else 1)<30))=true:=by rfl)
  (hline:(apos.endLine == cpos.line)=true:=by rfl) (hs:starEach [e,f] X.env=(false,eval e X.env) :: starEach [f] X.env:=by rfl) (hs2:starEach [f] X.env=(false,eval f X.env) :: starEach [] X.env:=by rfl) (hpl:(backTo cpos (starEach [f] X.env)).any (·.1)=false:=by rfl) :
  PE3 X (.Call (.Attribute o "insert" apos) [e,f] [] cpos) (zb5 zf3 mo (zac m (zac m' zae))) :=
 zli PySem.F.slot_list_insert PySem.F.type_list_insert ya6 ya7 ho (zad he (zad hf zag hs2) hs) hbase hfew hline hs hpl
end
noncomputable def zcq:List D->Option (List Int)
 | []=>some []
 | .int i :: r=>(zcq r).bind λns=>some (i :: ns)
 | _=>none
theorem zl7:∀{xs:List D}{ns:List Int}{vs:List V},zcq xs=some ns->RDs ρ H xs vs->vs=ns.map V.int
 | [],ts,vs,h,r=>by cases h;cases r;rfl
 | x :: xs,ts,vs,h,r=>by
  cases r with
  | cons r1 r2 =>
   cases r1 with
   | int z =>
    obtain ⟨ts',h1,h⟩:=bnd (show (zcq xs).bind (λts=>some (z :: ts))=some ts from h)
    cases h
    rw [zl7 h1 r2];rfl
   | _=>cases h
section
end
section
variable {prog:Program}{w:World}{A:Around}{E:Value->Shared->Prop}{s:Shared}
end
section
variable {P:Program}{w:World}{K:QFg}{tg:Expr}
end
section
variable {X:Cx}{tg:Expr}
end
section
variable {X:Cx}{tgt:Expr}{a:Expr}{mA:AM}{p0 pos':Pos}
end
section
theorem zl8:bootBuiltins "sorted" = some (.builtin "sorted"):=by decide +kernel
end
section
end
section
theorem ya9 {elt vx target iter:Expr}{ifs:List Expr}{scope:Scope}{pos:Pos}{it:Value}{D:Addr}{env:Env}(I:Nat->Shared->Prop)
  (turn:∀n s,I n s->wpAny (model prog w) A (pyNext it) (λr s₁=>match r with
   | none=>R (.ok .next) s₁
   | some v=>wpAny (model prog w) A (letOwnedTupleGo target it v) (λ_ s₁'=>wpAny (model prog w) A (assign target env v) (λ_ s₂ =>
     wpAny (model prog w) A (forIn ifs true λc r=>if r=true then do let ok <-isTrue c env (eval c env);pure (ForInStep.yield ok) else pure (ForInStep.yield r)) (λok s₃ =>
      if ok=true then wpAny (model prog w) A (eval elt env) (λkv s₄=>wpAny (model prog w) A (eval vx env) (λvv s₅ =>
       wpAny (model prog w) A (dictSet D kv vv) (λ_ s₆=>∃m,m<n/\I m s₆) (λ_ _=>False) s₅) (λ_ _=>False) s₄) (λ_ _=>False) s₃
      else ∃m,m<n/\I m s₃) (λ_ _=>False) s₂) (λ_ _=>False) s₁') (λ_ _=>False) s₁) (λ_ _=>False) s)
  (n:Nat) (h:I n s) :
  codeAny (model prog w) A (.compLoop (.DictComp elt vx [⟨target,iter,ifs,0⟩] scope pos) 0 it (.ref D) env) R s:=by
 refine codeAny_loop rfl I (λn s hI=>?_) n h
 show wpAny _ A ((compTurn (.DictComp elt vx [⟨target,iter,ifs,0⟩] scope pos) 0 it (.ref D) env).onRaise (λx=>do noteFrame x env;theTreesLotGoes x)) _ _ s
 refine wpAny_noted ?_
 rw [compTurn_dict]
 refine qwb (wpAny_standAt (qwb (wpAny_mono (turn n s hI) (λr s₁ h₁=>?_) λ_ _ h'=>h'.elim)))
 cases r with
 | none=>exact qwp h₁
 | some v =>
  refine qwb (wpAny_mono h₁ (λ_ s₁' h₁=>?_) λ_ _ h'=>h'.elim)
  refine qwb (wpAny_mono h₁ (λ_ s₂ h₂=>qwb (wpAny_mono h₂ (λok s₃ h₃=>?_) λ_ _ h'=>h'.elim)) λ_ _ h'=>h'.elim)
  cases ok with
  | false=>exact qwp ⟨rfl,h₃⟩
  | true =>
   exact qwb (qwb (wpAny_mono h₃ (λkv s₄ h₄=>qwb (wpAny_holding (wpAny_mono h₄ (λvv s₅ h₅=>qwb (wpAny_standAt (wpAny_holding (wpAny_mono h₅ (λ_ s₆ h₆=>qwp ⟨rfl,h₆⟩) λ_ _ h'=>h'.elim)))) λ_ _ h'=>h'.elim))) λ_ _ h'=>h'.elim))
end
noncomputable def zf4 (k v:EM):EM:=λl S=>(k l S).bind λp=>(v l p.2).bind λq=>some (.tup [p.1,q.1],q.2)
section
variable {K:QFg}{ρ:List Addr}{H:Hp}{S:Sto}
theorem Sim.besideG (s:Sim K ρ S H) (ha:H a=some u0) (hu:zd3 u0) (hn:∀n:Nat,ρ[n]?≠some a):Sim K ρ S (upd H a u) :=
 ⟨s.len,s.nd,λn b o h1 h2=>(s.at' n b o h1 h2).writtenG ha hu λ_ z=>hn n (by rw [h1,z])⟩
theorem Ext.besideG (e:Ext ρ0 H0 ρ H) (h0:H0 a=none) (ha:H a=some u0) (hu:zd3 u0):Ext ρ0 H0 ρ (upd H a u) :=
 ⟨⟨e.pre,λb vs h=>by rw [zap (zc8 (e.tup b vs h) ha (λz=>hu.1 vs z.symm))];exact e.tup b vs h,λb o vs h=>by rw [zap (zc8 (e.frz b o vs h) ha (λz=>hu.2 o vs z.symm))];exact e.frz b o vs h⟩,λb vs h n=>⟨by rw [zap (zbc h h0)];exact (e.out b vs h n).1,(e.out b vs h n).2⟩⟩
theorem Sim.adoptG (s:Sim K ρ S H) (ha:ObR K ρ H o1 a) (hn:∀n:Nat,ρ[n]?≠some a):Sim K (ρ++[a]) (S++[o1]) H:=by
 refine ⟨by simp [s.len],λi j b x1 x2 h1 h2 h3 h4 m1 m2=>?_,λn b o h1 h2=>?_⟩
 ·have hl:=s.len
  rcases zbk h1 with g1|⟨e1,f1⟩ <;> rcases zbk h2 with g2|⟨e2,f2⟩
  ·have l1:=(qme g1).1
   have l2:=(qme g2).1
   rcases zbk h3 with g3|⟨e3,_⟩ <;> rcases zbk h4 with g4|⟨e4,_⟩
   ·exact s.nd i j b x1 x2 g1 g2 g3 g4 m1 m2
   ·omega
   ·omega
   ·omega
  ·subst f2;exact absurd g1 (hn i)
  ·subst f1;exact absurd g2 (hn j)
  ·omega
 ·rcases zbk h1 with h1|⟨e1,f1⟩
  ·rcases zbk h2 with h2|⟨e2,f2⟩
   ·exact (s.at' n b o h1 h2).more ext0_push
   ·have:=(qme h1).1;have:=s.len;omega
  ·subst f1
   rcases zbk h2 with h2|⟨e2,f2⟩
   ·have:=(qme h2).1;have:=s.len;omega
   ·subst f2
    exact ha.more ext0_push
end
theorem yba {kvs:List (Key × D)}(r:RDs ρ H (kvs.map (·.2)) vs):((kvs.map (·.1)).zip vs).length=kvs.length:=by
 rw [List.length_zip,qlm];have:=r.length;rw [qlm] at this;omega
section
variable {X:Cx}{tg:Expr}
end
section
variable {X:Cx}{tgt iter:Expr}{m:EM}
end
section
end
noncomputable def zl9 (scope scO:Scope):Scope:={ scope with names:=scope.names.map λ(n,k)=>if (k == .free && scO.kind == .function && scO.names.lookup n == some .cell) then (n,.cell) else (n,k) }
theorem ybb (scope:Scope) (env:Env):relabel scope env=zl9 scope env.scope:=rfl
open PySem.W
section
end
section
variable {P:Program}{w:World}{K:QFg}{mg:Str->Option Value}{base:Heap}{N:List Str}{qual:Str}{scope:Scope}{f:Addr}{cd:Value}{A:Around}{outer:List Env}{s:Shared}{H:Hp}{E:XK}
end
abbrev ZM:=Lo->Sto->Option (Str × Sto)
abbrev ZF:=List D->Sto->Option (Str × Sto)
section
variable {E:XK}{CA:Str->Addr}{st:Stmt}{rest:List Stmt}{r q:ZM}
end
section
end
section
variable {P:Program}{w:World}{K:QFg}{mg:Str->Option Value}{base:Heap}{N:List Str}{qual:Str}{scope:Scope}{f:Addr}{cd:Value}{A:Around}{outer:List Env}{s:Shared}{H:Hp}{E:XK}{CA:Str->Addr}
end
section
variable {M:Model}{A:Around}{E:Value->Shared->Prop}{s:Shared}{base:Heap}{env:Env}{outer l:List Env}{L e C T:Addr}{Q:Unit->Shared->Prop}
end
section
end
section
variable {M:Model}{A:Around}{E:Value->Shared->Prop}{h:Heap}{g:Array GenState}{d:Drawn}{t:Nat}{os:OsState}
variable {nm q nm' q':Str}{C N D N':Addr}{bs bm bs' bm':List Value}{hdct hdct':Bool}{sn sn':List Str}{sub sub':List Value}{ab ab':Bool}{col col':Option Bool}{dd dd':Option Addr}{k0 k1 k2 k3 k5 k0' k1' k2' k3' k5':Option Value}{newId newId':String}
end
section
end
section
end
section
end
section
end
open PySem.Builtin PySem.Builtin.ObjectAttr PySem.Builtin.Getset_descriptor
section
variable {prog:Program}{w:World}{A:Around}{E:Value->Shared->Prop}{h:Heap}{g:Array GenState}{d:Drawn}{t:Nat}{os:OsState}{a:Addr}{o:Obj}{K:QFg}{C:Addr}
end
section
variable {prog:Program}{w:World}{A:Around}{E:Value->Shared->Prop}{h:Heap}{g:Array GenState}{d:Drawn}{t:Nat}{os:OsState}{a:Addr}{o:Obj}{K:QFg}{C:Addr}
end
section
end
section
end
section
variable {to:TE}{t:TA}{T id:String}{r:V->List V->Hp->VK->Prop}{ty:V->Hp->Prop}
end
theorem zma (φ:Heap->Prop):zd3 (.ext φ):=⟨λ_ z=>(by cases z),λ_ _ z=>(by cases z)⟩
section
end
section
end
noncomputable def zh4:List D->Option (List Key)
 | []=>some []
 | x :: r=>(zg0 x).bind λk=>(zh4 r).bind λks=>some (k :: ks)
noncomputable def zc5:D->Option (List Key)
 | .tup xs=>zh4 xs
 | _=>none
theorem zqb:∀{xs:List D}{ks:List Key}{vs:List V},zh4 xs=some ks->RDs ρ H xs vs->vs=ks.map kV
 | [],ks,vs,h,r=>by cases h;cases r;rfl
 | x :: xs,ks,vs,h,r=>by
  cases r with
  | cons r1 r2 =>
   obtain ⟨k,h1,h⟩:=bnd (show (zg0 x).bind (λk=>(zh4 xs).bind λks=>some (k :: ks))=some ks from h)
   obtain ⟨ks',h2,h⟩:=bnd h
   cases h
   rw [zqb h2 r2,zju h1 r1];rfl
theorem zh5 (h:zc5 d=some k) (r:RD ρ H d v):∃b,v=.ref b/\H b=some (.tup (k.map kV)):=by
 cases r with
 | @tup xs b vs hb rs =>
  have:=zqb (show zh4 xs=some k from h) rs
  subst this
  exact ⟨b,rfl,hb⟩
 | _=>cases h
noncomputable def za8 (kvs:List (List Key × D)) (k:List Key):Option D:=(kvs.find? λkv=>decide (kv.1=k)).map (·.2)
noncomputable def zcd (kvs:List (List Key × D)) (k:List Key) (v:D):List (List Key × D):=if (kvs.any λkv=>decide (kv.1=k))=true then kvs.map (λkv=>if kv.1=k then (kv.1,v) else kv) else kvs++[(k,v)]
section
theorem zjw:∀{kvs:List (List Key × D)}{vs:List V},RDs ρ H (kvs.map (·.2)) vs->(za8 kvs k=none->zbv ((kvs.map (·.1)).zip vs) k=none)/\∀d,za8 kvs k=some d->∃v,zbv ((kvs.map (·.1)).zip vs) k=some v/\RD ρ H d v
 | [],vs,r=>by
  cases r
  exact ⟨λ_=>rfl,λd h=>by cases h⟩
 | (k',d') :: kvs,vs,r=>by
  cases r with
  | @cons _ v _ vs r1 r2 =>
   by_cases e:k' = k
   ·have e1:za8 ((k',d') :: kvs) k=some d':=by simp [za8,e]
    have e2:zbv ((((k',d') :: kvs).map (·.1)).zip (v :: vs)) k=some v:=zhj (p:=(k',v)) e
    rw [e1,e2]
    exact ⟨λz=>(by cases z),λd h=>(by cases h;exact ⟨v,rfl,r1⟩)⟩
   ·have e1:za8 ((k',d') :: kvs) k=za8 kvs k:=by simp [za8,e]
    have e2:zbv ((((k',d') :: kvs).map (·.1)).zip (v :: vs)) k=zbv ((kvs.map (·.1)).zip vs) k:=zhk (p:=(k',v)) e
    rw [e1,e2]
    exact zjw r2
theorem zqc (k:List Key):∀{kvs:List (List Key × D)}{vs:List V},RDs ρ H (kvs.map (·.2)) vs->(((kvs.map (·.1)).zip vs).any λkv=>decide (kv.1=k))=kvs.any λkv=>decide (kv.1=k)
 | [],vs,r=>by cases r;rfl
 | (k',d') :: kvs,vs,r=>by
  cases r with
  | @cons _ v _ vs r1 r2 =>
   show (decide (k' = k) || (((kvs.map (·.1)).zip vs).any λkv=>decide (kv.1=k)))=(decide (k' = k) || _)
   rw [zqc k r2]
theorem zmb (rv:RD ρ H d v) (r:RDs ρ H (kvs.map (·.2)) vs):∃ws,zbs ((kvs.map (·.1)).zip vs) k v=((zcd kvs k d).map (·.1)).zip ws/\RDs ρ H ((zcd kvs k d).map (·.2)) ws:=by
 unfold zbs zcd
 rw [zqc k r]
 by_cases e:(kvs.any λkv=>decide (kv.1=k))=true
 ·rw [if_pos e,if_pos e]
  clear e
  induction kvs generalizing vs with
  | nil=>cases r;exact ⟨[],rfl,.nil⟩
  | cons p kvs ih =>
   obtain ⟨k',d'⟩:=p
   cases r with
   | @cons _ u _ us r1 r2 =>
    obtain ⟨ws,h1,h2⟩:=ih r2
    by_cases e:k' = k
    ·refine ⟨v :: ws,?_,?_⟩
     ·simp only [List.map_cons,List.zip_cons_cons,if_pos e];rw [<-h1]
     ·simp only [List.map_cons,if_pos e];exact .cons rv h2
    ·refine ⟨u :: ws,?_,?_⟩
     ·simp only [List.map_cons,List.zip_cons_cons,if_neg e];rw [<-h1]
     ·simp only [List.map_cons,if_neg e];exact .cons r1 h2
 ·rw [if_neg e,if_neg e]
  refine ⟨vs++[v],?_,?_⟩
  ·rw [List.map_append,List.zip_append (by rw [qlm];have:=r.length;rw [qlm] at this;exact this)];rfl
  ·rw [List.map_append];exact r.append (.cons rv .nil)
end
noncomputable def dRd (S:Sto):D->D->Option (Option D)
 | .ref n,y=>match S[n]? with
  | some (.dct kvs)=>(zg0 y).bind λk=>some (zei kvs k)
  | some (.fdct kvs)=>(zg0 y).bind λk=>some (zei kvs k)
  | some (.tdct kvs)=>(zc5 y).bind λk=>some (za8 kvs k)
  | some (.ftdct kvs)=>(zc5 y).bind λk=>some (za8 kvs k)
  | _=>none
 | _,_=>none
noncomputable def isDc (S:Sto):D->Option Unit
 | .ref n=>match S[n]? with
  | some (.dct _)=>some ()
  | some (.fdct _)=>some ()
  | some (.tdct _)=>some ()
  | some (.ftdct _)=>some ()
  | _=>none
 | _=>none
def Ro1 (ρ:List Addr) (H:Hp) (o:Option D) (o':Option V):Prop:=(o=none->o' = none)/\∀d,o=some d->∃v,o' = some v/\RD ρ H d v
theorem Ro1.isSome (r:Ro1 ρ H o o'):o'.isSome=o.isSome:=by
 cases o with
 | none=>rw [r.1 rfl];rfl
 | some d=>obtain ⟨v,e,_⟩:=r.2 d rfl;rw [e];rfl
theorem Ro1.getD (r:Ro1 ρ H o o') (rz:RD ρ H z z'):RD ρ H (o.getD z) (o'.getD z'):=by
 cases o with
 | none=>rw [r.1 rfl];exact rz
 | some d=>obtain ⟨v,e,q⟩:=r.2 d rfl;rw [e];exact q
theorem Sim.isDc {K:QFg}{ρ:List Addr}{H:Hp}{S:Sto}{x:D}{x':V}(s:Sim K ρ S H) (rx:RD ρ H x x') (h:L3.isDc S x=some ()):∃a,x' = .ref a/\IsD H a:=by
 unfold L3.isDc at h
 split at h
 ·cases rx with
  | @ref n a hn =>
   refine ⟨a,rfl,?_⟩
   split at h
   ·rename_i e;obtain ⟨vs,hH,_⟩:=s.at' _ a _ hn e;exact .inl ⟨_,.inl hH⟩
   ·rename_i e;obtain ⟨o,vs,hH,_⟩:=s.at' _ a _ hn e;exact .inl ⟨_,.inr ⟨o,hH⟩⟩
   ·rename_i e;obtain ⟨vs,hH,_⟩:=s.at' _ a _ hn e;exact .inr ⟨_,.inl hH⟩
   ·rename_i e;obtain ⟨o,vs,hH,_⟩:=s.at' _ a _ hn e;exact .inr ⟨_,.inr ⟨o,hH⟩⟩
   ·cases h
 ·cases h
theorem Sim.dRd {K:QFg}{ρ:List Addr}{H:Hp}{S:Sto}{x y:D}{x' y':V}{o:Option D}(s:Sim K ρ S H) (rx:RD ρ H x x') (ry:RD ρ H y y') (h:L3.dRd S x y=some o):∃a o',x' = .ref a/\zeo H a y' o'/\Ro1 ρ H o o':=by
 unfold L3.dRd at h
 split at h
 ·cases rx with
  | @ref n a hn =>
   split at h
   ·rename_i e
    obtain ⟨k,hk,h⟩:=bnd h
    cases h
    obtain ⟨vs,hH,r⟩:=s.at' _ a _ hn e
    have ey:=zju hk ry
    subst ey
    exact ⟨a,_,rfl,.inl ⟨_,k,.inl hH,rfl,rfl⟩,zl5 r⟩
   ·rename_i e
    obtain ⟨k,hk,h⟩:=bnd h
    cases h
    obtain ⟨ob,vs,hH,r⟩:=s.at' _ a _ hn e
    have ey:=zju hk ry
    subst ey
    exact ⟨a,_,rfl,.inl ⟨_,k,.inr ⟨ob,hH⟩,rfl,rfl⟩,zl5 r⟩
   ·rename_i e
    obtain ⟨k,hk,h⟩:=bnd h
    cases h
    obtain ⟨vs,hH,r⟩:=s.at' _ a _ hn e
    obtain ⟨b,rfl,hb⟩:=zh5 hk ry
    exact ⟨a,_,rfl,.inr ⟨_,k,b,.inl hH,rfl,hb,rfl⟩,zjw r⟩
   ·rename_i e
    obtain ⟨k,hk,h⟩:=bnd h
    cases h
    obtain ⟨ob,vs,hH,r⟩:=s.at' _ a _ hn e
    obtain ⟨b,rfl,hb⟩:=zh5 hk ry
    exact ⟨a,_,rfl,.inr ⟨_,k,b,.inr ⟨ob,hH⟩,rfl,hb,rfl⟩,zjw r⟩
   ·cases h
 ·cases h
noncomputable def ze0 (neg:Bool):D->D->Sto->Option (D × Sto):=λy x S=>(dRd S x y).bind λo=>some (.bl (if neg then !o.isSome else o.isSome),S)
theorem zqd {K:QFg}{neg:Bool}:Op3 K (ze0 neg) (λy x H Q=>∃a o,x=.ref a/\zeo H a y o/\Q (.bl (if neg then !o.isSome else o.isSome)) H):=by
 intro ρ S H y x y' x' v S' Q sim ry rx h p
 obtain ⟨o,h1,h⟩:=bnd h
 cases h
 obtain ⟨a,o',rfl,g,r⟩:=sim.dRd rx ry h1
 refine ⟨a,o',rfl,g,?_⟩
 rw [r.isSome]
 exact p ρ H _ (Ext.refl ..) sim (.bl _)
section
theorem ybc (hr:Room k X.A) (ha:PE3 X a ma) (hb:PE3 X b mb) (hm:behindInMarks .In b=false:=by rfl):PT3 X (.Compare a [.In] [b] pos) (tE (eOp (ze0 false) ma mb)):=zdn (yav hr) (zqd (neg:=false)) ha hb hm
theorem ybd (hr:Room k X.A) (ha:PE3 X a ma) (hb:PE3 X b mb) (hm:behindInMarks .NotIn b=false:=by rfl):PT3 X (.Compare a [.NotIn] [b] pos) (tE (eOp (ze0 true) ma mb)):=zdn (yaw hr) (zqd (neg:=true)) ha hb hm
noncomputable def zg2 (o e f:EM):EM:=λl S=>(o l S).bind λp=>(isDc p.2 p.1).bind λ_=>(e l p.2).bind λq=>(f l q.2).bind λt=>(dRd t.2 p.1 q.1).bind λr=>some (r.getD t.1,t.2)
theorem ybe (hr:Room k X.A) (ho:PE3 X o mo) (he:PE3 X e me) (hf:PE3 X f mf) (m:M2 X o "get" apos e f cpos:=by exact ⟨rfl,rfl,rfl,rfl⟩):PE3 X (.Call (.Attribute o "get" apos) [e,f] [] cpos) (zg2 mo me mf):=PE.imp (zye (zg1 hr) ho he hf m) λσ H Q hx2_=>by
 obtain ⟨ρ,l,S,v,S',sim,ro,hq,p⟩:=hx2_
 obtain ⟨⟨x,S1⟩,h1,hq⟩:=bnd hq
 obtain ⟨_,h2,hq⟩:=bnd hq
 obtain ⟨⟨y,S2⟩,h3,hq⟩:=bnd hq
 obtain ⟨⟨z,S3⟩,h5,hq⟩:=bnd hq
 obtain ⟨r,h4,hq⟩:=bnd hq
 cases hq
 refine ⟨ρ,l,S,x,S1,sim,ro,h1,λρ1 H1 x' e1 s1 r1=>?_⟩
 obtain ⟨a,rfl,da⟩:=s1.isDc r1 h2
 refine ⟨a,rfl,da,ρ1,l,S1,y,S2,s1,ro.mono e1,h3,λρ2 H2 y' e2 s2 r2=>⟨ρ2,l,S2,z,_,s2,(ro.mono e1).mono e2,h5,λρ3 H3 z' e3 s3 r3=>?_⟩⟩
 obtain ⟨a',o',ea,g,ro'⟩:=s3.dRd ((r1.mono e2).mono e3) (r2.mono e3) h4
 cases ea
 exact ⟨o',g,p ρ3 H3 _ (e1.trans (e2.trans e3)) s3 (ro'.getD r3)⟩
end
noncomputable def zmc:EM:=λ_ S=>some (.ref S.length,S++[.tdct []])
section
theorem ybf:PE3 X (.Dict [] [] pos) zmc:=PE.imp zyb λσ H Q hx3_=>by
 obtain ⟨ρ,l,S,v,S',sim,ro,hm,p⟩:=hx3_
 cases hm
 intro a ha
 exact p (ρ++[a]) _ _ (zyg ha) (sim.pushG ha ⟨[],zbw,.nil⟩) (.ref (by rw [<-sim.len];exact zfe ρ a))
end
theorem ze1 (kvs:List (List Key × V)):zd3 (.dT kvs):=⟨λ_ z=>(by cases z),λ_ _ z=>(by cases z)⟩
noncomputable def zf5:D->D->D->Sto->Option Sto
 | .ref n,y,v,S=>match S[n]? with
  | some (.dct kvs)=>(zg0 y).bind λk=>if kvs.length<sizeLine then some (S.set n (.dct (zjt kvs k v))) else none
  | some (.tdct kvs)=>(zc5 y).bind λk=>if kvs.length<sizeLine then some (S.set n (.tdct (zcd kvs k v))) else none
  | _=>none
 | _,_,_,_=>none
theorem zmd {kvs:List (List Key × D)}(r:RDs ρ H (kvs.map (·.2)) vs):((kvs.map (·.1)).zip vs).length=kvs.length:=by
 rw [List.length_zip,qlm];have:=r.length;rw [qlm] at this;omega
theorem ybg {K:QFg}{ρ:List Addr}{S S':Sto}{H:Hp}{x y d:D}{x' y' v':V}(s:Sim K ρ S H) (rx:RD ρ H x x') (ry:RD ρ H y y') (rd:RD ρ H d v') (h:zf5 x y d S=some S'):∃a H',x' = .ref a/\DPut H a y' v' H'/\Ext ρ H ρ H'/\Sim K ρ S' H':=by
 unfold zf5 at h
 split at h
 ·cases rx with
  | @ref n a hn =>
   split at h
   ·rename_i kvs e
    obtain ⟨k,hk,h⟩:=bnd h
    obtain ⟨hz,e2⟩:=zbe h
    cases e2
    obtain ⟨vs,hH,r⟩:=s.at' _ a _ hn e
    have ey:=zju hk ry
    subst ey
    obtain ⟨ws,hw1,hw2⟩:=yau (k:=k) rd r
    have ex:=zk5 (o:=.dK (zbs ((kvs.map (·.1)).zip vs) k v')) hn hH (zpz _)
    refine ⟨a,_,rfl,DPut.k hH (by rw [yba r];exact hz),ex,s.setG hn e rfl hH (zpz _) ⟨ws,by rw [zbw,hw1],hw2.mono ex⟩⟩
   ·rename_i kvs e
    obtain ⟨k,hk,h⟩:=bnd h
    obtain ⟨hz,e2⟩:=zbe h
    cases e2
    obtain ⟨vs,hH,r⟩:=s.at' _ a _ hn e
    obtain ⟨b,rfl,hb⟩:=zh5 hk ry
    obtain ⟨ws,hw1,hw2⟩:=zmb (k:=k) rd r
    have ex:=zk5 (o:=.dT (zbs ((kvs.map (·.1)).zip vs) k v')) hn hH (ze1 _)
    refine ⟨a,_,rfl,DPut.t hH hb (by rw [zmd r];exact hz),ex,s.setG hn e rfl hH (ze1 _) ⟨ws,by rw [zbw,hw1],hw2.mono ex⟩⟩
   ·cases h
 ·cases h
noncomputable def zh6 (o i:EM):GM:=λv l S=>(o l S).bind λp=>(i l p.2).bind λq=>(zf5 p.1 q.1 v q.2).bind λS'=>some (l,S')
section
theorem ybh (hr:Room k X.A) (ho:PE3 X o mo) (hi:PE3 X i mi) (hv:PE3 X value mv) (hs:swapsWith value (some (.Subscript o i pos')) pos.line X.env=pure false:=by rfl) :
  PS3 X (.Assign [.Subscript o i pos'] value pos) (zao mv (zh6 mo mi)):=PS.imp (zx9 (zg1 hr) ho hi hv hs) λE σ H hx4_=>by
 obtain ⟨ρ,l,S,f,l',S',sim,ro,hm,p⟩:=hx4_
 obtain ⟨⟨d,S1⟩,h1,hm⟩:=bnd hm
 obtain ⟨⟨l2,S2⟩,h2,hm⟩:=bnd hm
 obtain ⟨⟨x,S3⟩,h3,h2⟩:=bnd h2
 obtain ⟨⟨y,S4⟩,h4,h2⟩:=bnd h2
 obtain ⟨S5,h5,h2⟩:=bnd h2
 cases h2;cases hm
 refine ⟨ρ,l,S,d,S1,sim,ro,h1,λρ1 H1 v' e1 s1 r1=>⟨ρ1,l,S1,x,S3,s1,ro.mono e1,h3,λρ2 H2 x' e2 s2 r2=>⟨ρ2,l,S3,y,S4,s2,(ro.mono e1).mono e2,h4,λρ3 H3 y' e3 s3 r3=>?_⟩⟩⟩
 obtain ⟨a,H4,rfl,pu,ex,s4⟩:=ybg s3 (r2.mono e3) r3 (r1.mono (e2.trans e3)) h5
 exact ⟨a,H4,rfl,pu,p ρ3 _ σ ((e1.trans (e2.trans e3)).trans ex) s4 ((((ro.mono e1).mono e2).mono e3).mono ex)⟩
end
def Fnc (K:QFg) (mg:Str->Option Value) (x:Str):Prop:=∃f o,PySem.W.nsIn K mainGlobals x=some (some (.ref f))/\K.lookup f=some o/\mg x=some (.ref f)
section
variable {K:QFg}{ρ:List Addr}{H:Hp}{S:Sto}
end
section
variable {X:Cx}{x y:Str}{pos p:Pos}{a:Expr}{es:List Expr}
end
section
theorem zme:∀{names:List (Str × NameKind)}{k:Nat}{acc:List (Str × Addr)}{x:Str}{c:Addr},(x,c)∈cellsFrom k names acc->(x,c)∈acc\/(k<=c/\(x,NameKind.cell)∈names)
 | [],_,_,_,_,h=>.inl h
 | (n,kd) :: r,k,acc,x,c,h=>by
  unfold cellsFrom at h
  split at h
  ·rename_i hk
   have hk:kd=.cell:=by simpa using hk
   subst hk
   rcases zme h with h|⟨h1,h2⟩
   ·rcases List.mem_cons.mp h with e|h
    ·cases e;exact .inr ⟨qlr _,List.mem_cons_self⟩
    ·exact .inl h
   ·exact .inr ⟨by omega,List.mem_cons_of_mem _ h2⟩
  ·rcases zme h with h|⟨h1,h2⟩
   ·exact .inl h
   ·exact .inr ⟨h1,List.mem_cons_of_mem _ h2⟩
theorem zmf:∀{names:List (Str × NameKind)}{k:Nat}{acc:List (Str × Addr)},(∀x y c,(x,c)∈acc->(y,c)∈acc->x=y)->(∀x c,(x,c)∈acc->c<k)->∀x y c,(x,c)∈cellsFrom k names acc->(y,c)∈cellsFrom k names acc->x=y
 | [],_,_,hi,_,x,y,c,h1,h2=>hi x y c h1 h2
 | (n,kd) :: r,k,acc,hi,hl,x,y,c,h1,h2=>by
  unfold cellsFrom at h1 h2
  split at h1
  ·rename_i hk
   rw [if_pos hk] at h2
   refine zmf (λx y c g1 g2=>?_) (λx c g=>?_) x y c h1 h2
   ·rcases List.mem_cons.mp g1 with e1|g1 <;> rcases List.mem_cons.mp g2 with e2|g2
    ·cases e1;cases e2;rfl
    ·cases e1;exact absurd (hl _ _ g2) (Nat.lt_irrefl _)
    ·cases e2;exact absurd (hl _ _ g1) (Nat.lt_irrefl _)
    ·exact hi x y c g1 g2
   ·rcases List.mem_cons.mp g with e|g
    ·cases e;exact Nat.lt_succ_self _
    ·exact Nat.lt_succ_of_lt (hl _ _ g)
  ·rename_i hk
   rw [if_neg hk] at h2
   exact zmf hi hl x y c h1 h2
theorem zjx:∀{names:List (Str × NameKind)}{k:Nat}{acc:List (Str × Addr)}{x:Str},((x,NameKind.cell)∈names\/∃c,acc.lookup x=some c)->∃c,(cellsFrom k names acc).lookup x=some c
 | [],_,_,x,h=>by
  rcases h with h|h
  ·cases h
  ·exact h
 | (n,kd) :: r,k,acc,x,h=>by
  unfold cellsFrom
  split
  ·rename_i hk
   have hk:kd=.cell:=by simpa using hk
   subst hk
   refine zjx ?_
   by_cases hx:x=n
   ·exact .inr ⟨k,by rw [hx,List.lookup_cons];simp⟩
   ·rcases h with h|⟨c,h⟩
    ·rcases List.mem_cons.mp h with e|h
     ·cases e;exact absurd rfl hx
     ·exact .inl h
    ·refine .inr ⟨c,?_⟩
     rw [List.lookup_cons]
     have:(x == n)=false:=by simpa using hx
     rw [this];exact h
  ·rename_i hk
   refine zjx ?_
   rcases h with h|h
   ·rcases List.mem_cons.mp h with e|h
    ·cases e;simp at hk
    ·exact .inl h
   ·exact .inr h
theorem zmg:∀{names:List (Str × NameKind)}{k:Nat}{acc:List (Str × Addr)}{x:Str},(x,NameKind.cell) ∉ names->(cellsFrom k names acc).lookup x=acc.lookup x
 | [],_,_,_,_=>rfl
 | (n,kd) :: r,k,acc,x,h=>by
  unfold cellsFrom
  split
  ·rename_i hk
   have hk:kd=.cell:=by simpa using hk
   subst hk
   rw [zmg λz=>h (List.mem_cons_of_mem _ z),List.lookup_cons]
   have:(x == n)=false:=by
    have:x≠n:=λe=>h (by rw [e];exact List.mem_cons_self)
    simpa using this
   rw [this]
  ·exact zmg λz=>h (List.mem_cons_of_mem _ z)
theorem zmh:∀{names:List (Str × NameKind)}{k k0:Nat}{acc:List (Str × Addr)}{x:Str}{c:Addr},k0<=k->((x,NameKind.cell)∈names\/∃c',acc.lookup x=some c'/\k0<=c')->(cellsFrom k names acc).lookup x=some c->k0<=c
 | [],k,k0,acc,x,c,_,h,e=>by
  have e:acc.lookup x=some c:=e
  rcases h with h|⟨c',h,q⟩
  ·cases h
  ·rw [h] at e;cases e;exact q
 | (n,kd) :: r,k,k0,acc,x,c,hk0,h,e=>by
  unfold cellsFrom at e
  split at e
  ·rename_i hk
   have hk:kd=.cell:=by simpa using hk
   subst hk
   refine zmh (by omega) ?_ e
   by_cases hx:x=n
   ·exact .inr ⟨k,by rw [hx,List.lookup_cons];simp,hk0⟩
   ·rcases h with h|⟨c',h,q⟩
    ·rcases List.mem_cons.mp h with e|h
     ·cases e;exact absurd rfl hx
     ·exact .inl h
    ·refine .inr ⟨c',?_,q⟩
     rw [List.lookup_cons]
     have:(x == n)=false:=by simpa using hx
     rw [this];exact h
  ·rename_i hk
   refine zmh hk0 ?_ e
   rcases h with h|h
   ·rcases List.mem_cons.mp h with e|h
    ·cases e;simp at hk
    ·exact .inl h
   ·exact .inr h
theorem zf6 (env:Env):∀(names:List (Str × NameKind)) (cs:List (Str × Addr)),(∀x c,(x,c)∈cs->env.cells.lookup x=some c)->∀x c,(x,c)∈zbq env names cs->env.cells.lookup x=some c
 | [],cs,h,x,c,q=>h x c q
 | (n,k) :: r,cs,h,x,c,q=>by
  unfold zbq at q
  split at q
  ·split at q
   ·rename_i c' e
    refine zf6 env r _ (λy d hy=>?_) x c q
    rcases List.mem_cons.mp hy with z|hy
    ·cases z;exact e
    ·exact h y d hy
   ·exact zf6 env r cs h x c q
  ·exact zf6 env r cs h x c q
theorem zmi:∀{names:List (Str × NameKind)}{h:Heap}{acc:List (Str × Addr)}{x:Str}{c:Addr},(x,c)∈cellsFrom h.objs.size names acc->(x,c)∈acc\/(pushCells h names).IsCell c none
 | [],_,_,_,_,q=>.inl q
 | (n,kd) :: r,h,acc,x,c,q=>by
  unfold cellsFrom at q
  unfold pushCells
  split at q
  ·rename_i hk
   rw [if_pos hk]
   have:=zmi (names:=r) (h:=h.push { cls:=.type "cell",data:=.cell none }) (acc:=(n,h.objs.size) :: acc) (x:=x) (c:=c) (by rw [Heap.size_push];exact q)
   rcases this with z|z
   ·rcases List.mem_cons.mp z with e|z
    ·cases e
     exact .inr ⟨_,pushCells_keeps r _ _ _ (Heap.get?_push_size _ rfl),rfl⟩
    ·exact .inl z
   ·exact .inr z
  ·rename_i hk
   rw [if_neg hk]
   exact zmi q
end
theorem ybi {globals:Addr}
  (hQ:∀h',h'.Ns s.heap.objs.size (λ_=>none)->(∀b o,s.heap.get? b=some o->h'.get? b=some o)->(∀x c,(x,c)∈cellsFrom (s.heap.objs.size+1) scope.names cl->(x,c)∈cl\/h'.IsCell c none) ->
   Q (newEnv scope s.heap.objs.size globals (cellsFrom (s.heap.objs.size+1) scope.names cl) qual none .none (some outer) builtinsNs) { s with heap:=h' }) :
  wpAny M A (newFunctionEnv scope globals cl [] qual none .none (some outer)) Q E s:=by
 unfold newFunctionEnv
 refine qwb (wpAny_alloc ?_)
 refine qwb (wpAny_layCells _ (λname kind cells=>by cases hkc:kind == NameKind.cell <;> simp [hkc]) _ _ _ _ ?_)
 dsimp only
 rw [List.forIn_nil]
 refine qwb (qwp (qwp ?_))
 have hz:(s.heap.push { cls:=.type "dict",data:=.dict #[] }).objs.size=s.heap.objs.size+1:=Heap.size_push ..
 have h1:=hQ (pushCells (s.heap.push { cls:=.type "dict",data:=.dict #[] }) scope.names) ((Heap.Ns.new s.heap (.type "dict")).keeps (pushCells_keeps _ _)) (λb o e=>pushCells_keeps _ _ b o (qps _ e)) (λx c q=>zmi (by rw [hz];exact q))
 simp only [Option.isSome_some,if_true,hz]
 exact h1
noncomputable def cxD (X:Cx) (N':List Str) (scope:Scope) (C:Addr) (s:Shared) (H:Hp) (fp:List Addr) (pins:List (Addr × Obj)):Cx where
 prog:=X.prog
 w:=X.w
 K:=X.K
 mg:=X.mg
 base:=X.base
 A:=X.A
 N:=N'
 s₀:=s
 H₀:=H
 env:=compEnvC scope (cellsFrom (C+1) scope.names (zbq X.env scope.names [])) C X.env
 outer:=X.stack
 stack:=X.stack
 ex:=fp
 fn:=λx=>scope.names.contains (x,NameKind.cell)
 calm:=X.calm
 pn:=X.pn++pins
 xe:=λ_ _=>False
structure CompSd (X:Cx) (N':List Str) (scope:Scope) (src:St->St):Prop where
 kind:scope.kind=.function
 names:∀y∈scope.names,y.2=.local->scope.names.lookup y.1=some .local
 free:∀y∈scope.names,y.2=.free->X.env.kindOf y.1=some .cell\/X.env.kindOf y.1=some .free
 rel:∀y,(relabel scope X.env).names.lookup y=some .cell\/(relabel scope X.env).names.lookup y=some .free->(y,NameKind.free)∈scope.names\/(y,NameKind.cell)∈scope.names
 one:∀y,scope.names.lookup y=some .free->(y,NameKind.cell) ∉ scope.names
 len:∀σ,(src σ).length=N'.length
 src:∀σ (i:Nat) v x,(src σ)[i]? = some (some v)->N'[i]? = some x->∃j:Nat,X.N[j]? = some x/\σ[j]? = some (some v)/\scope.names.lookup x=some .free
theorem zqe {X:Cx}{N':List Str}{elt iter tgt:Expr}{ifs:List Expr}{scope:Scope}{pos pos':Pos}{use:Option (Value->Sem Unit)}{R:Value->Shared->Prop}{pins:List (Addr × Obj)}{s:Shared}{σ:St}{H:Hp}{Q:VK}{wi:TI}{src:St->St}{g:TG}{tts:TT}{t:TE}(hcalm:X.calm=true) (sc:CompSd X N' scope src)
  (hi:PI X tgt iter wi) (hg:∀C s H fp pins,PG (cxD X N' scope C s H fp pins) tgt g) (ht:∀C s H fp pins,PTs (cxD X N' scope C s H fp pins) ifs tts) (he:∀C s H fp pins,PE (cxD X N' scope C s H fp pins) elt t)
  (hs:∀x,foldedSetIterable iter X.env x=pure x) (I:Inv X pins σ H s) (h:zja X.K wi src g tts t σ H Q)
  (fin:∀D H5 s6 C mC,Inv X pins σ H5 s6->zby X pins H5 C->s6.heap.Ns C mC->Q (.ref D) H5->compPost (model X.prog X.w) X.A X.xe use R (.ref D) C (.ok .next) s6) :
  wpAny (model X.prog X.w) X.A (comprehension (.ListComp elt [⟨tgt,iter,ifs,0⟩] scope pos) scope X.env pos' (newList []) false (eval iter X.env) use) R X.xe s:=by
 have hasC:∀x∈scope.names,x.2=.free->∃c,X.env.cells.lookup x.1=some c:=λx hx hf=>I.ok.has x.1 (sc.free x hx hf)
 refine wpAny_comprehension_free (use:=use) (env:=X.env) rfl hs (zi9 scope X.env hasC) sc.kind sc.names ?_
 show wpAny (model X.prog X.w) X.A (eval iter X.env) _ _ s
 refine wpAny_mono (hi pins s σ H _ I h) (λv s1 h1=>wpAny_mono h1 (λitv s2 h2=>?_) λ_ _ z=>z) λ_ _ z=>z
 obtain ⟨it,fp,tn,J,H2,rfl,I2,T,st2,f2,q⟩:=h2
 refine wpAny_newObj_type ?_ (by show 0<=sizeLine;exact Nat.zero_le _)
 have hD:H2 s2.heap.objs.size=none:=I2.hok.fresh (qlr _)
 have I3:Inv X pins σ (upd H2 s2.heap.objs.size (.lst [])) { s2 with heap:=s2.heap.push { cls:=.type "list",data:=.seq ([]:List Value).toArray } }:=I2.lnew (t':=s2.toks) .nil (Nat.zero_le _)
 obtain ⟨W,⟨m0,w0⟩,turn⟩:=q s2.heap.objs.size hD (by
  cases e:X.K.lookup s2.heap.objs.size with
  | none=>rfl
  | some o=>exact absurd (Heap.lt_size (I2.kIn _ o e)) (Nat.lt_irrefl _))
 refine ybi λh' hns old0 hown0=>?_
 have fpIn:∀b∈fp,∃o,s2.heap.get? b=some o/\∀v,o.data≠.cell v:=T.obj 0 s2.heap st2
 have fpD:∀b∈fp,b≠s2.heap.objs.size:=λb hb=>let ⟨o,e,_⟩:=fpIn b hb;Nat.ne_of_lt (Heap.lt_size e)
 have f3:∀b∈fp,zby X pins (upd H2 s2.heap.objs.size (.lst [])) b:=λb hb=>⟨by rw [zap (fpD b hb)];exact (f2 b hb).1,(f2 b hb).2⟩
 have st3:tn 0 (s2.heap.push { cls:=.type "list",data:=.seq ([]:List Value).toArray }):=T.keep _ _ _ st2 λb hb o e=>qps _ e
 clear q hD h st2 f2 fpD
 generalize upd H2 s2.heap.objs.size (.lst [])=H3 at *
 generalize hDe:s2.heap.objs.size=D at *
 have fpIn3:∀b∈fp,∃o,(s2.heap.push { cls:=.type "list",data:=.seq ([]:List Value).toArray }).get? b=some o/\∀v,o.data≠.cell v:=T.obj 0 _ st3
 clear fpIn
 generalize s2.heap.push { cls:=.type "list",data:=.seq ([]:List Value).toArray }=h3 at *
 have old:∀b o,h3.get? b=some o->h'.get? b=some o:=old0
 have stkNo:∀b,b≠X.env.locals->b ∉ X.fs->b ∉ frs X.stack:=λb h1 h2 hb=>by
  rcases List.mem_cons.mp (I3.stkSub b hb) with z|z
  ·exact h1 z
  ·exact h2 z
 have sub:=zfr X.env scope.names [] (λx c z=>by simp at z)
 have clLt:∀x c,(x,c)∈zbq X.env scope.names []->c<h3.objs.size:=λx c z=>by
  obtain ⟨v,o,ho,_⟩:=I3.cell x c (zf6 X.env scope.names [] (λx c z=>by simp at z) x c z)
  exact Heap.lt_size ho
 have clInj:∀x y c,(x,c)∈zbq X.env scope.names []->(y,c)∈zbq X.env scope.names []->x=y:=λx y c z1 z2=>by
  have e1:=zf6 X.env scope.names [] (λx c z=>by simp at z) x c z1
  have e2:=zf6 X.env scope.names [] (λx c z=>by simp at z) y c z2
  exact I3.ok.inj x y c e1 e2
 have own:∀x c,(cellsFrom (h3.objs.size+1) scope.names (zbq X.env scope.names [])).lookup x=some c->X.env.cells.lookup x=some c\/(h3.objs.size+1<=c/\h'.IsCell c none):=λx c z=>by
  have zm:=PySem.mem_of_lookup z
  rcases zme zm with y|⟨y,_⟩
  ·exact .inl (zf6 X.env scope.names [] (λx c z=>by simp at z) x c y)
  ·rcases hown0 x c zm with q|q
   ·exact absurd (clLt x c q) (Nat.not_lt.mpr (Nat.le_of_succ_le y))
   ·exact .inr ⟨y,q⟩
 have cNe:∀b o,h3.get? b=some o->b≠h3.objs.size:=λb o e=>Nat.ne_of_lt (Heap.lt_size e)
 have exf:∀b∈fp,∀x c,(cellsFrom (h3.objs.size+1) scope.names (zbq X.env scope.names [])).lookup x=some c->c≠b:=λb hb x c z=>by
  rcases own x c z with y|⟨y,_⟩
  ·exact (f3 b hb).2.2.2.2.1 x c y
  ·obtain ⟨o,e,_⟩:=fpIn3 b hb
   exact λz=>absurd (Nat.lt_of_lt_of_le (Heap.lt_size e) (Nat.le_of_succ_le y)) (by rw [z];exact Nat.lt_irrefl _)
 have frC:∀x c,(cellsFrom (h3.objs.size+1) scope.names (zbq X.env scope.names [])).lookup x=some c->H3 c=none:=λx c z=>by
  rcases own x c z with y|⟨y,_⟩
  ·exact I3.freeC x c y
  ·exact I3.hok.fresh (Nat.le_of_succ_le y)
 have I4:Inv (cxD X N' scope h3.objs.size { s2 with heap:=h3 } H3 fp pins) [] (src σ) H3 { s2 with heap:=h',toks:=s2.toks }:=by
  refine ⟨⟨I3.ok.mod,sc.kind,I3.ok.glob,I3.ok.blt,qlr _,λx y c h1 h2=>zmf clInj (λx c z=>Nat.lt_succ_of_lt (clLt x c z)) x y c (PySem.mem_of_lookup h1) (PySem.mem_of_lookup h2),λx hx=>?_,λx c z q=>Nat.le_of_succ_le (zmh (k0:=h3.objs.size+1) (qlr _) (.inl (by have z:scope.names.contains (x,NameKind.cell)=true:=z;simpa using z)) q),I3.ok.hd,I3.ok.frames,.inl rfl,λb hb=>⟨?_,λx c z=>exf b hb x c z⟩,λb o e=>I3.bs b o e,Nat.le_trans I3.ok.bsz I3.sz,λb o e hb=>?_,λb hb=>stkNo b (f3 b hb).2.1 (f3 b hb).2.2.1,I3.stack,I3.stkFree⟩,
   rfl,I3.bare,Un.kept old,⟨_,hns,λi x v h1 h2 h3'=>?_⟩,λx c z=>?_,I3.hok.fresh (qlr _),λx c z=>frC x c z,λp hp=>?_,I3.hok.kept old,sc.len σ⟩
  ·rcases sc.rel x hx with hm|hm
   ·exact zjx (.inr (zds X.env scope.names [] x (.inl hm) (hasC _ hm rfl)))
   ·exact zjx (.inl hm)
  ·obtain ⟨o,e,_⟩:=fpIn3 b hb
   exact cNe b o e
  ·rcases (f3 b hb).2.2.2.1 with z|z
   ·exact I3.ok.noex b o e z
   ·have:=Heap.lt_size (I3.ok.bs b o e).1
    exact absurd (Nat.lt_of_lt_of_le this z) (Nat.lt_irrefl _)
  ·obtain ⟨j,e1,e2,e3⟩:=sc.src σ i v x h2 h1
   obtain ⟨m,hn,hl⟩:=I3.loc
   have hmem:=PySem.mem_of_lookup e3
   have hk:=sc.free (x,.free) hmem rfl
   have vis:Vis X.env.scope x:=by
    rcases hk with k|k
    ·exact .inr (.inl k)
    ·exact .inr (.inr k)
   obtain ⟨u,r,lk⟩:=hl j x v e1 e2 vis
   refine ⟨u,r,.inr ⟨?_,?_⟩⟩
   ·exact zhv (scope:=scope) e3
   ·rcases lk with ⟨k,_⟩|⟨_,c,hc,hcell⟩
    ·rcases hk with k' | k' <;> (rw [k] at k';cases k')
    ·obtain ⟨c',hc'⟩:=zds X.env scope.names [] x (.inl hmem) ⟨c,hc⟩
     have:=sub x c' hc'
     rw [hc] at this;cases this
     have hc':(cellsFrom (h3.objs.size+1) scope.names (zbq X.env scope.names [])).lookup x=some c:=by rw [zmg (sc.one x e3)];exact hc'
     obtain ⟨o,ho,hd⟩:=hcell
     exact ⟨c,hc',o,old _ _ ho,hd⟩
  ·rcases own x c z with y|⟨_,y⟩
   ·obtain ⟨v,o,ho,hd⟩:=I3.cell x c y
    exact ⟨v,o,old _ _ ho,hd⟩
   ·exact ⟨none,y⟩
  ·have hp':p∈X.pn++pins:=by simpa [cxD] using hp
   obtain ⟨e,n,ne,nf,d⟩:=I3.pin p hp'
   exact ⟨old _ _ e,n,cNe _ _ e,stkNo _ ne nf,d⟩
 have st4:tn 0 h':=T.keep _ _ _ st3 λb hb o e=>old b o e
 have fr4:∀b∈fp,H3 b=none:=λb hb=>(f3 b hb).1
 have stat:∀{H':Hp},(∀b∈fp,H' b=none)->∀b∈fp,zby (cxD X N' scope h3.objs.size { s2 with heap:=h3 } H3 fp pins) [] H' b:=λhn b hb=>by
  obtain ⟨g0,g1,g2,g3,g4,g5⟩:=f3 b hb
  obtain ⟨o,e,_⟩:=fpIn3 b hb
  exact ⟨hn b hb,cNe b o e,stkNo b g1 g2,.inl hb,λx c z=>exf b hb x c z,λp hp=>g5 p (by simpa [cxD] using hp)⟩
 have loop:codeAny (model X.prog X.w) X.A (.compLoop (.ListComp elt [⟨tgt,iter,ifs,0⟩] scope pos) 0 (.ref it) (.ref D) (compEnvC scope (cellsFrom (h3.objs.size+1) scope.names (zbq X.env scope.names [])) h3.objs.size X.env))
   (compPost (model X.prog X.w) X.A X.xe use R (.ref D) h3.objs.size) { s2 with heap:=h',toks:=s2.toks }:=by
  refine zy9 (λn s'=>∃i σ' H',Inv (cxD X N' scope h3.objs.size { s2 with heap:=h3 } H3 fp pins) [] σ' H' s'/\tn i s'.heap/\(∀b∈fp,H' b=none)/\W i n σ' H') ?_ m0 ⟨0,src σ,H3,I4,st4,fr4,w0⟩
  rintro n s5 ⟨i,σ5,H5,I5,st5,fr5,w5⟩
  rcases turn i n σ5 H5 w5 with ⟨stop,qn⟩|⟨go,N,hN,step⟩
  ·refine wpAny_mono (T.done (cxD X N' scope h3.objs.size { s2 with heap:=h3 } H3 fp pins) rfl rfl rfl hcalm i [] s5 σ5 H5 (λ_ _=>False) I5 (stat fr5) st5 stop) (λr s6 hr=>?_) λ_ _ z=>False.elim z
   obtain ⟨hr,I6⟩:=hr
   subst hr
   obtain ⟨mC,hnC,_⟩:=I6.loc
   have IX:Inv X pins σ H5 s6:=I3.call' (s':=s6) (ch:=fp) I6.os I6.base I6.hok I6.bare λb hb=>⟨(f3 b hb).2.2.2.1,(f3 b hb).2.1,(f3 b hb).2.2.2.2.1,(f3 b hb).2.2.2.2.2⟩
   exact fin D H5 s6 h3.objs.size mC IX (I3.fpOk (qlr _) I6.free) hnC qn
  ·refine wpAny_mono (T.item (cxD X N' scope h3.objs.size { s2 with heap:=h3 } H3 fp pins) rfl rfl rfl hcalm i [] s5 σ5 H5 (λ_ _=>False) I5 (stat fr5) st5 go) (λr s6 hr=>?_) λ_ _ z=>False.elim z
   obtain ⟨u,hr,h6⟩:=hr
   subst hr
   refine wpAny_mono h6 (λ_ s7 h7=>?_) λ_ _ z=>False.elim z
   obtain ⟨x,H7,I7,r7,y7,st7,fr7⟩:=h7
   have I7':=I7.pinned (stat fr7) (T.obj _ _ st7)
   refine wpAny_mono (hg _ _ _ _ _ _ s7 σ5 H7 x u _ I7' r7 (step x H7 y7)) (λ_ s8 h8=>?_) λ_ _ z=>False.elim z
   obtain ⟨σ8,H8,I8,q8⟩:=h8
   have again:∀{H9:Hp} {s9:Shared},Inv (cxD X N' scope h3.objs.size { s2 with heap:=h3 } H3 fp pins) ([]++zcz fp s7.heap) σ8 H9 s9->N σ8 H9->∃m,m<n/\∃i σ' H',Inv (cxD X N' scope h3.objs.size { s2 with heap:=h3 } H3 fp pins) [] σ' H' s9/\tn i s9.heap/\(∀b∈fp,H' b=none)/\W i m σ' H':=λ{H9 s9} I9 n9=>by
    obtain ⟨m',hm,w9⟩:=hN σ8 H9 n9
    refine ⟨m',hm,i+1,σ8,H9,I9.unpinned,T.keep _ _ _ st7 λb hb o e=>(I9.pin (b,o) (List.mem_append_right _ (List.mem_append_right _ (zc9 hb e)))).1,λb hb=>?_,w9⟩
    obtain ⟨o,e,d⟩:=T.obj _ _ st7 b hb
    exact (I9.pin (b,o) (List.mem_append_right _ (List.mem_append_right _ (zc9 hb e)))).2.1
   refine wpAny_mono (ht _ _ _ _ _ _ s8 σ8 H8 _ I8 q8) (λok s9 h9=>?_) λ_ _ z=>False.elim z
   obtain ⟨H9,I9,q9⟩:=h9
   cases ok with
   | false=>exact again I9 q9
   | true =>
    refine wpAny_mono (he _ _ _ _ _ _ s9 σ8 H9 _ I9 q9) (λy s10 h10=>?_) λ_ _ z=>False.elim z
    obtain ⟨vy,H10,I10,r10,ys,hys,hz,nx⟩:=h10
    refine wpAny_mono (zk3 (X:=cxD X N' scope h3.objs.size { s2 with heap:=h3 } H3 fp pins) _ s10 σ8 H10 (.ref D) [vy] (.ref D) [y] (λ_ H'=>N σ8 H') I10 rfl (.cons r10 .nil) ⟨D,ys,vy,rfl,rfl,hys,hz,nx⟩) (λ_ s11 h11=>?_) λ_ _ z=>False.elim z
    obtain ⟨_,H11,I11,_,n11⟩:=h11
    exact again I11 n11
 exact codeAny_compStart_list loop (T.self _ 0 _ _ _ st4 loop)
theorem ybj {X:Cx}{N':List Str}{elt iter tgt:Expr}{ifs:List Expr}{scope:Scope}{pos:Pos}{wi:TI}{src:St->St}{g:TG}{tts:TT}{t:TE}(hcalm:X.calm=true) (sc:CompSd X N' scope src)
  (hi:PI X tgt iter wi) (hg:∀C s H fp pins,PG (cxD X N' scope C s H fp pins) tgt g) (ht:∀C s H fp pins,PTs (cxD X N' scope C s H fp pins) ifs tts) (he:∀C s H fp pins,PE (cxD X N' scope C s H fp pins) elt t)
  (hs:∀x,foldedSetIterable iter X.env x=pure x:=by intro _;rfl):PE X (.ListComp elt [⟨tgt,iter,ifs,0⟩] scope pos) (zja X.K wi src g tts t):=by
 intro pins s σ H Q I h
 rw [eval_ListComp]
 refine zqe (use:=none) hcalm sc hi hg ht he hs I h λD H5 s6 C mC IX fp hn q=>⟨mC,hn,λh'' sb=>⟨.ref D,H5,?_,rfl,q⟩⟩
 exact IX.turned (t':=s6.toks) (λb o hb e=>sb.extBut b o hb e) fp.1 fp.2.1 fp.2.2.2.1 fp.2.2.2.2.1 fp.2.2.2.2.2
theorem ybk {X:Cx}{N':List Str}{elt iter tgt:Expr}{ifs:List Expr}{scope:Scope}{pos spos py:Pos}{wi:TI}{src:St->St}{g:TG}{tts:TT}{t:TE}{i:Nat}{y:Str}(hN:X.N.Nodup) (hi':X.N[i]? = some y) (hx:Loc X.env.scope y)
  (hsw:swapsWith (.ListComp elt [⟨tgt,iter,ifs,0⟩] scope pos) (some (.Name y py)) spos.line X.env=pure true) (hf:X.fn y=true\/X.env.scope.names.lookup y=some .local)
  (hcalm:X.calm=true) (sc:CompSd X N' scope src)
  (hi:PI X tgt iter wi) (hg:∀C s H fp pins,PG (cxD X N' scope C s H fp pins) tgt g) (ht:∀C s H fp pins,PTs (cxD X N' scope C s H fp pins) ifs tts) (he:∀C s H fp pins,PE (cxD X N' scope C s H fp pins) elt t)
  (hs:∀x,foldedSetIterable iter X.env x=pure x:=by intro _;rfl):PS X (.Assign [.Name y py] (.ListComp elt [⟨tgt,iter,ifs,0⟩] scope pos) spos) (ziw (zja X.K wi src g tts t) (ziv i)):=by
 intro pins s σ H D I h
 rw [exec_Assign_Name_used _ _ _ _ hsw]
 refine qwb (wpAny_standAt (qwb ?_))
 show wpAny _ X.A (do let _ <-comprehension (.ListComp elt [⟨tgt,iter,ifs,0⟩] scope pos) scope X.env _ (newList []) false (eval iter X.env) (some (assign (.Name y py) X.env))) _ _ s
 refine qwb (wpAny_mono (zqe (use:=some (assign (.Name y py) X.env)) (R:=λ_ s'=>SP X pins D .next s') hcalm sc hi hg ht he hs I h λD' H5 s6 C mC IX fp hn q=>?_) (λ_ s' hq=>qwp (qwp hq)) λ_ _ e=>e)
 show wpAny _ X.A (assign (.Name y py) X.env (.ref D')) _ _ s6
 refine wpAny_assign_Name (zku (v:=.ref D') IX hN hi' hx rfl (λs' I' ha=>?_) hf)
 obtain ⟨a,sb,ha⟩:=ha
 have hCa:C≠a:=by
  rcases ha with ha|ha
  ·rw [ha];exact fp.2.1
  ·exact λz=>fp.2.2.2.2.1 y a ha z.symm
 refine ⟨mC,hn.sameBut sb hCa,λh'' sb''=>⟨_,H5,?_,q⟩⟩
 exact I'.turned (t':=s'.toks) (λb o hb e=>sb''.extBut b o hb e) fp.1 fp.2.1 fp.2.2.2.1 fp.2.2.2.2.1 fp.2.2.2.2.2
theorem ze2 {X:Cx}{N':List Str}{elt iter tgt:Expr}{ifs:List Expr}{scope:Scope}{pos:Pos}{im:IM}{ixs:List (Option Nat)}{g:GM}{t:TM}{e:EM}(hcalm:X.calm=true) (sc:CompSd X N' scope (za2 ixs))
  (hi:PI3 X tgt iter im) (hg:∀C s H fp pins,PG3 (cxD X N' scope C s H fp pins) tgt g) (ht:∀C s H fp pins,PTs (cxD X N' scope C s H fp pins) ifs (tt X.K t)) (he:∀C s H fp pins,PE3 (cxD X N' scope C s H fp pins) elt e)
  (hs:∀x,foldedSetIterable iter X.env x=pure x:=by intro _;rfl):PE3 X (.ListComp elt [⟨tgt,iter,ifs,0⟩] scope pos) (zb6 im ixs g t e) :=
 PE.imp (ybj (g:=tg X.K g) (tts:=tt X.K t) (t:=te X.K e) hcalm sc hi hg ht he hs) zpa
theorem zqf (j:Nat) {X:Cx}{N':List Str}{elt iter tgt:Expr}{ifs:List Expr}{scope:Scope}{pos spos py:Pos}{y:Str}{im:IM}{ixs:List (Option Nat)}{g:GM}{t:TM}{e:EM}(hN:X.N.Nodup) (hcalm:X.calm=true) (sc:CompSd X N' scope (za2 ixs))
  (hi:PI3 X tgt iter im) (hg:∀C s H fp pins,PG3 (cxD X N' scope C s H fp pins) tgt g) (ht:∀C s H fp pins,PTs (cxD X N' scope C s H fp pins) ifs (tt X.K t)) (he:∀C s H fp pins,PE3 (cxD X N' scope C s H fp pins) elt e)
  (hi':X.N[j]? = some y:=by rfl) (hx:Loc X.env.scope y:=by first|exact Or.inl rfl|exact Or.inr rfl)
  (hsw:swapsWith (.ListComp elt [⟨tgt,iter,ifs,0⟩] scope pos) (some (.Name y py)) spos.line X.env=pure true:=by with_unfolding_all rfl) (hf:X.fn y=true\/X.env.scope.names.lookup y=some .local:=by first|exact .inl rfl|exact .inr rfl|assumption)
  (hs:∀x,foldedSetIterable iter X.env x=pure x:=by intro _;rfl):PS3 X (.Assign [.Name y py] (.ListComp elt [⟨tgt,iter,ifs,0⟩] scope pos) spos) (zao (zb6 im ixs g t e) (zah j)) :=
 PS.imp (ybk (g:=tg X.K g) (tts:=tt X.K t) (t:=te X.K e) hN hi' hx hsw hf hcalm sc hi hg ht he hs) λE σ H hx1_=>by
  obtain ⟨ρ,l,S,f,l',S',sim,ro,hm,p⟩:=hx1_
  obtain ⟨⟨x,S1⟩,q1,hm⟩:=bnd hm
  cases hm
  exact zpa σ H _ ⟨ρ,l,S,x,S1,sim,ro,q1,λρ1 H1 x' e1 s1 r1=>p ρ1 H1 _ e1 s1 ((ro.mono e1).set j r1)⟩
noncomputable def zqg (scO scope:Scope) (NO N':List Str) (ixs:List (Option Nat)):Bool :=
 decide (scope.kind=.function) && (scope.names.all λy=>y.2 != .local || scope.names.lookup y.1 == some .local) && (scope.names.all λy=>y.2 != .cell || scope.names.lookup y.1 == some .cell) &&
 (scope.names.all λy=>y.2 != .free || (scO.names.lookup y.1 == some .cell || scO.names.lookup y.1 == some .free)) && (ixs.length == N'.length) &&
 ((List.range ixs.length).all λi=>match ixs[i]? with|some (some j)=>(NO[j]? == N'[i]? && (match N'[i]? with|some x=>scope.names.lookup x == some .free|none=>false))|_=>true)
theorem ze3 (hX:X.env.scope=scO) (hN:X.N=NO) (h:zqg scO scope NO N' ixs=true):CompSd X N' scope (za2 ixs):=by
 unfold zqg at h
 simp only [Bool.and_eq_true,decide_eq_true_eq,List.all_eq_true,beq_iff_eq,Bool.or_eq_true,bne_iff_ne,ne_eq] at h
 obtain ⟨⟨⟨⟨⟨h1,h3⟩,h2⟩,h4⟩,h5⟩,h6⟩:=h
 refine ⟨h1,λy hy hl=>?_,λy hy hl=>?_,λy hy=>?_,λy hy hc=>?_,λσ=>by simp [za2,h5],λσ i v x hv hx=>?_⟩
 ·rcases h3 y hy with z|z
  ·exact absurd hl z
  ·exact z
 ·show X.env.scope.names.lookup y.1=_\/X.env.scope.names.lookup y.1=_
  rw [hX]
  rcases h4 y hy with z|z
  ·exact absurd hl z
  ·exact z
 ·have mem:∃k,(k=NameKind.cell\/k=NameKind.free)/\(y,k)∈(relabel scope X.env).names:=by
   rcases hy with z|z
   ·exact ⟨_,.inl rfl,PySem.mem_of_lookup z⟩
   ·exact ⟨_,.inr rfl,PySem.mem_of_lookup z⟩
  obtain ⟨k,hk,hm⟩:=mem
  unfold relabel at hm
  obtain ⟨⟨n,k'⟩,hm1,hm2⟩:=List.mem_map.mp hm
  dsimp only at hm2
  split at hm2
  ·rename_i hc
   have:k' = .free:=by
    rw [Bool.and_eq_true,Bool.and_eq_true] at hc
    exact eq_of_beq hc.1.1
   cases hm2
   rw [<-this];exact .inl hm1
  ·cases hm2
   rcases hk with z|z
   ·rw [<-z];exact .inr hm1
   ·rw [<-z];exact .inl hm1
 ·rcases h2 (y,.cell) hc with z|z
  ·exact z rfl
  ·rw [hy] at z;cases z
 ·have hl:i<ixs.length:=by
   have:=(qme hv).1
   simpa [za2] using this
  unfold za2 at hv
  rw [qgm] at hv
  have q:=h6 i (List.mem_range.mpr hl)
  cases e:ixs[i]? with
  | none=>rw [e] at hv;cases hv
  | some o =>
   rw [e] at hv
   cases o with
   | none=>cases hv
   | some j =>
    rw [e] at q
    dsimp only at q
    rw [hx] at q
    simp only [Bool.and_eq_true,beq_iff_eq] at q
    have hv:((σ[j]?).join:Option V)=some v:=qoi hv
    refine ⟨j,by rw [hN];exact q.1,?_,q.2⟩
    cases e2:σ[j]? with
    | none=>rw [e2] at hv;cases hv
    | some o2=>rw [e2] at hv;have hv:o2=some v:=hv;rw [hv]
theorem zqh (hX:X.env.scope=scO) (h:chk (zl9 scope1 scO) scope2 N1 N' ixs=true):CompSc (cxD X N1 scope1 C s H fp pins) N' scope2 (za2 ixs) :=
 zjd (scO:=zl9 scope1 scO) (NO:=N1) (by rw [<-hX];exact ybb scope1 X.env) rfl h
def zmj (K:QFg) (wi:TI) (src:St->St) (g:TG) (tts:TT) (tk tv:TE):TE:=λσ H Q=>wi σ H λJ H1=>∀D,H1 D=none->K.lookup D=none->∃W:Nat->Nat->St->Hp->Prop,
 (∃m,W 0 m (src σ) (upd H1 D (.dT [])))/\∀i m σ' H',W i m σ' H' ->
  (J.stop i H'/\Q (.ref D) H')\/(J.go i H'/\∃N:St->Hp->Prop,(∀σ' H',N σ' H'->∃m',m' < m/\W (i+1) m' σ' H') /\
   ∀x H'',J.yld i H' x H''->g x σ' H'' λσ2 H2=>tts σ2 H2 λb H3=>if b=true then tk σ2 H3 (λkx H4=>tv σ2 H4 λvx H5=>∃kvs k b,H5 D=some (.dT kvs)/\kx=.ref b/\H5 b=some (.tup (k.map kV))/\kvs.length<sizeLine/\N σ2 (upd H5 D (.dT (zbs kvs k vx)))) else N σ2 H3)
theorem ybl {X:Cx}{rk:Nat}{N':List Str}{elt vx iter tgt:Expr}{ifs:List Expr}{scope:Scope}{pos pos':Pos}{use:Option (Value->Sem Unit)}{R:Value->Shared->Prop}{pins:List (Addr × Obj)}{s:Shared}{σ:St}{H:Hp}{Q:VK}{wi:TI}{src:St->St}{g:TG}{tts:TT}{t tv:TE}(hr:Room rk X.A) (hcalm:X.calm=true) (sc:CompSc X N' scope src)
  (hi:PI X tgt iter wi) (hg:∀C s H fp pins,PG (cxC X N' scope C s H fp pins) tgt g) (ht:∀C s H fp pins,PTs (cxC X N' scope C s H fp pins) ifs tts) (he:∀C s H fp pins,PE (cxC X N' scope C s H fp pins) elt t) (hv:∀C s H fp pins,PE (cxC X N' scope C s H fp pins) vx tv)
  (hs:∀x,foldedSetIterable iter X.env x=pure x) (I:Inv X pins σ H s) (h:zmj X.K wi src g tts t tv σ H Q)
  (fin:∀D H5 s6 C mC,Inv X pins σ H5 s6->zby X pins H5 C->s6.heap.Ns C mC->Q (.ref D) H5->compPost (model X.prog X.w) X.A X.xe use R (.ref D) C (.ok .next) s6) :
  wpAny (model X.prog X.w) X.A (comprehension (.DictComp elt vx [⟨tgt,iter,ifs,0⟩] scope pos) scope X.env pos' newDict false (eval iter X.env) use) R X.xe s:=by
 have hasC:∀x∈scope.names,x.2=.free->∃c,X.env.cells.lookup x.1=some c:=λx hx hf=>I.ok.has x.1 (sc.free x hx hf)
 refine wpAny_comprehension_free (use:=use) (env:=X.env) rfl hs (zi9 scope X.env hasC) sc.kind sc.names ?_
 show wpAny (model X.prog X.w) X.A (eval iter X.env) _ _ s
 refine wpAny_mono (hi pins s σ H _ I h) (λv s1 h1=>wpAny_mono h1 (λitv s2 h2=>?_) λ_ _ z=>z) λ_ _ z=>z
 obtain ⟨it,fp,tn,J,H2,rfl,I2,T,st2,f2,q⟩:=h2
 refine wpAny_newObj_type ?_
 have hD:H2 s2.heap.objs.size=none:=I2.hok.fresh (qlr _)
 have I3:Inv X pins σ (upd H2 s2.heap.objs.size (.dT [])) { s2 with heap:=s2.heap.push { cls:=.type "dict",data:=.dict #[] } }:=I2.laid (t':=s2.toks) (λb u e=>qps _ e) (qlr _) (zor s2.heap I2.big)
 obtain ⟨W,⟨m0,w0⟩,turn⟩:=q s2.heap.objs.size hD (by
  cases e:X.K.lookup s2.heap.objs.size with
  | none=>rfl
  | some o=>exact absurd (Heap.lt_size (I2.kIn _ o e)) (Nat.lt_irrefl _))
 refine wpAny_newFunctionEnv sc.nocell (by intro y hy;simp at hy) (λh' hns hsb=>?_) sc.kind
 have fpIn:∀b∈fp,∃o,s2.heap.get? b=some o/\∀v,o.data≠.cell v:=T.obj 0 s2.heap st2
 have fpD:∀b∈fp,b≠s2.heap.objs.size:=λb hb=>let ⟨o,e,_⟩:=fpIn b hb;Nat.ne_of_lt (Heap.lt_size e)
 have f3:∀b∈fp,zby X pins (upd H2 s2.heap.objs.size (.dT [])) b:=λb hb=>⟨by rw [zap (fpD b hb)];exact (f2 b hb).1,(f2 b hb).2⟩
 have st3:tn 0 (s2.heap.push { cls:=.type "dict",data:=.dict #[] }):=T.keep _ _ _ st2 λb hb o e=>qps _ e
 clear q hD h st2 f2 fpD
 generalize upd H2 s2.heap.objs.size (.dT [])=H3 at *
 generalize hDe:s2.heap.objs.size=D at *
 have fpIn3:∀b∈fp,∃o,(s2.heap.push { cls:=.type "dict",data:=.dict #[] }).get? b=some o/\∀v,o.data≠.cell v:=T.obj 0 _ st3
 clear fpIn
 generalize s2.heap.push { cls:=.type "dict",data:=.dict #[] }=h3 at *
 have old:∀b o,h3.get? b=some o->h'.get? b=some o:=λb o e=>hsb.extBut b o (Nat.ne_of_lt (Heap.lt_size e)) (qps _ e)
 have stkNo:∀b,b≠X.env.locals->b ∉ X.fs->b ∉ frs X.stack:=λb h1 h2 hb=>by
  rcases List.mem_cons.mp (I3.stkSub b hb) with z|z
  ·exact h1 z
  ·exact h2 z
 have sub:=zfr X.env scope.names [] (λx c z=>by simp at z)
 have cNe:∀b o,h3.get? b=some o->b≠h3.objs.size:=λb o e=>Nat.ne_of_lt (Heap.lt_size e)
 have I4:Inv (cxC X N' scope h3.objs.size { s2 with heap:=h3 } H3 fp pins) [] (src σ) H3 { s2 with heap:=h',toks:=s2.toks+([]:List (Str × Value)).length }:=by
  refine ⟨⟨I3.ok.mod,sc.kind,I3.ok.glob,I3.ok.blt,qlr _,λx y c h1 h2=>I3.ok.inj x y c (sub x c h1) (sub y c h2),λx hx=>?_,λx c z=>absurd (show false=true from z) Bool.false_ne_true,I3.ok.hd,I3.ok.frames,.inl rfl,λb hb=>⟨?_,λx c z=>(f3 b hb).2.2.2.2.1 x c (sub x c z)⟩,λb o e=>I3.bs b o e,Nat.le_trans I3.ok.bsz I3.sz,λb o e hb=>?_,λb hb=>stkNo b (f3 b hb).2.1 (f3 b hb).2.2.1,I3.stack,I3.stkFree⟩,
   rfl,I3.bare,Un.kept old,⟨_,hns,λi x v h1 h2 h3'=>?_⟩,λx c z=>?_,I3.hok.fresh (qlr _),λx c z=>I3.freeC x c (sub x c z),λp hp=>?_,I3.hok.kept old,sc.len σ⟩
  ·have hm:=sc.rel x hx
   exact zds X.env scope.names [] x (.inl hm) (hasC _ hm rfl)
  ·obtain ⟨o,e,_⟩:=fpIn3 b hb
   exact cNe b o e
  ·rcases (f3 b hb).2.2.2.1 with z|z
   ·exact I3.ok.noex b o e z
   ·have:=Heap.lt_size (I3.ok.bs b o e).1
    exact absurd (Nat.lt_of_lt_of_le this z) (Nat.lt_irrefl _)
  ·obtain ⟨j,e1,e2,e3⟩:=sc.src σ i v x h2 h1
   obtain ⟨m,hn,hl⟩:=I3.loc
   have hmem:=PySem.mem_of_lookup e3
   have hk:=sc.free (x,.free) hmem rfl
   have vis:Vis X.env.scope x:=by
    rcases hk with k|k
    ·exact .inr (.inl k)
    ·exact .inr (.inr k)
   obtain ⟨u,r,lk⟩:=hl j x v e1 e2 vis
   refine ⟨u,r,.inr ⟨?_,?_⟩⟩
   ·exact zhv (scope:=scope) e3
   ·rcases lk with ⟨k,_⟩|⟨_,c,hc,hcell⟩
    ·rcases hk with k' | k' <;> (rw [k] at k';cases k')
    ·obtain ⟨c',hc'⟩:=zds X.env scope.names [] x (.inl hmem) ⟨c,hc⟩
     have:=sub x c' hc'
     rw [hc] at this;cases this
     obtain ⟨o,ho,hd⟩:=hcell
     exact ⟨c,hc',o,old _ _ ho,hd⟩
  ·obtain ⟨v,o,ho,hd⟩:=I3.cell x c (sub x c z)
   exact ⟨v,o,old _ _ ho,hd⟩
  ·have hp':p∈X.pn++pins:=by simpa [cxC] using hp
   obtain ⟨e,n,ne,nf,d⟩:=I3.pin p hp'
   exact ⟨old _ _ e,n,cNe _ _ e,stkNo _ ne nf,d⟩
 have st4:tn 0 h':=T.keep _ _ _ st3 λb hb o e=>old b o e
 have fr4:∀b∈fp,H3 b=none:=λb hb=>(f3 b hb).1
 have stat:∀{H':Hp},(∀b∈fp,H' b=none)->∀b∈fp,zby (cxC X N' scope h3.objs.size { s2 with heap:=h3 } H3 fp pins) [] H' b:=λhn b hb=>by
  obtain ⟨g0,g1,g2,g3,g4,g5⟩:=f3 b hb
  obtain ⟨o,e,_⟩:=fpIn3 b hb
  exact ⟨hn b hb,cNe b o e,stkNo b g1 g2,.inl hb,λx c z=>g4 x c (sub x c z),λp hp=>g5 p (by simpa [cxC] using hp)⟩
 have loop:codeAny (model X.prog X.w) X.A (.compLoop (.DictComp elt vx [⟨tgt,iter,ifs,0⟩] scope pos) 0 (.ref it) (.ref D) (compEnvC scope (zbq X.env scope.names []) h3.objs.size X.env))
   (compPost (model X.prog X.w) X.A X.xe use R (.ref D) h3.objs.size) { s2 with heap:=h',toks:=s2.toks+([]:List (Str × Value)).length }:=by
  refine ya9 (λn s'=>∃i σ' H',Inv (cxC X N' scope h3.objs.size { s2 with heap:=h3 } H3 fp pins) [] σ' H' s'/\tn i s'.heap/\(∀b∈fp,H' b=none)/\W i n σ' H') ?_ m0 ⟨0,src σ,H3,I4,st4,fr4,w0⟩
  rintro n s5 ⟨i,σ5,H5,I5,st5,fr5,w5⟩
  rcases turn i n σ5 H5 w5 with ⟨stop,qn⟩|⟨go,N,hN,step⟩
  ·refine wpAny_mono (T.done (cxC X N' scope h3.objs.size { s2 with heap:=h3 } H3 fp pins) rfl rfl rfl hcalm i [] s5 σ5 H5 (λ_ _=>False) I5 (stat fr5) st5 stop) (λr s6 hr=>?_) λ_ _ z=>z
   obtain ⟨hr,I6⟩:=hr
   subst hr
   obtain ⟨mC,hnC,_⟩:=I6.loc
   have IX:Inv X pins σ H5 s6:=I3.call' (s':=s6) (ch:=fp) I6.os I6.base I6.hok I6.bare λb hb=>⟨(f3 b hb).2.2.2.1,(f3 b hb).2.1,(f3 b hb).2.2.2.2.1,(f3 b hb).2.2.2.2.2⟩
   exact fin D H5 s6 h3.objs.size mC IX (I3.fpOk (qlr _) I6.free) hnC qn
  ·refine wpAny_mono (T.item (cxC X N' scope h3.objs.size { s2 with heap:=h3 } H3 fp pins) rfl rfl rfl hcalm i [] s5 σ5 H5 (λ_ _=>False) I5 (stat fr5) st5 go) (λr s6 hr=>?_) λ_ _ z=>z
   obtain ⟨u,hr,h6⟩:=hr
   subst hr
   refine wpAny_mono h6 (λ_ s7 h7=>?_) λ_ _ z=>z
   obtain ⟨x,H7,I7,r7,y7,st7,fr7⟩:=h7
   have I7':=I7.pinned (stat fr7) (T.obj _ _ st7)
   refine wpAny_mono (hg _ _ _ _ _ _ s7 σ5 H7 x u _ I7' r7 (step x H7 y7)) (λ_ s8 h8=>?_) λ_ _ z=>z
   obtain ⟨σ8,H8,I8,q8⟩:=h8
   have again:∀{H9:Hp} {s9:Shared},Inv (cxC X N' scope h3.objs.size { s2 with heap:=h3 } H3 fp pins) ([]++zcz fp s7.heap) σ8 H9 s9->N σ8 H9->∃m,m<n/\∃i σ' H',Inv (cxC X N' scope h3.objs.size { s2 with heap:=h3 } H3 fp pins) [] σ' H' s9/\tn i s9.heap/\(∀b∈fp,H' b=none)/\W i m σ' H':=λ{H9 s9} I9 n9=>by
    obtain ⟨m',hm,w9⟩:=hN σ8 H9 n9
    refine ⟨m',hm,i+1,σ8,H9,I9.unpinned,T.keep _ _ _ st7 λb hb o e=>(I9.pin (b,o) (List.mem_append_right _ (List.mem_append_right _ (zc9 hb e)))).1,λb hb=>?_,w9⟩
    obtain ⟨o,e,d⟩:=T.obj _ _ st7 b hb
    exact (I9.pin (b,o) (List.mem_append_right _ (List.mem_append_right _ (zc9 hb e)))).2.1
   refine wpAny_mono (ht _ _ _ _ _ _ s8 σ8 H8 _ I8 q8) (λok s9 h9=>?_) λ_ _ z=>z
   obtain ⟨H9,I9,q9⟩:=h9
   cases ok with
   | false=>exact again I9 q9
   | true =>
    refine wpAny_mono (he _ _ _ _ _ _ s9 σ8 H9 _ I9 q9) (λy s10 h10=>?_) λ_ _ z=>z
    obtain ⟨vy,H10,I10,r10,q10⟩:=h10
    refine wpAny_mono (hv _ _ _ _ _ _ s10 σ8 H10 _ I10 q10) (λz s11 h11=>?_) λ_ _ z=>z
    obtain ⟨vz,H11,I11,r11,kvs,kk,kb,hys,ek,hkb,hz,nx⟩:=h11
    subst ek
    cases r10
    obtain ⟨z1,hsm,xs,rel,dd⟩:=zk4 I11.hok hys
    have hzv:xs.length<=sizeLine:=by rw [<-Paired.length rel];exact z1
    have hl:(zbs kvs kk vz).length<=sizeLine:=by have:=zi2 kvs kk vz;omega
    have hroom:(tupleKind (zcc X.prog X.w)).room X.A:=Nat.lt_of_succ_lt (zg1 hr)
    refine wpAny_dictSet_heap (hsz:=hzv) hroom (zfc I11.hok hkb) dd λh' dd' hs'=>?_
    obtain ⟨q,es,ep,hq,g2,g3,g4,_,g5⟩:=dd'
    refine again (zi3 (ob:=.dT (zbs kvs kk vz)) (t':=s11.toks+(tupleKind (zcc X.prog X.w)).draws kk) I11 (by rw [hys];exact True.intro) hs' ⟨q,hq⟩ ⟨hl,hsm,_,(rel.put kk hkb r11).keeps λc ys ec=>?_,q,es,ep,hq,g2,g3,g4,g5⟩) nx
    rw [zap (zc8 ec hys (λz=>nomatch z))]
    exact ec
 exact codeAny_compStart_dict loop (T.self _ 0 _ _ _ st4 loop)
theorem ybm {X:Cx}{rk:Nat}{N':List Str}{elt vx iter tgt:Expr}{ifs:List Expr}{scope:Scope}{pos spos py:Pos}{wi:TI}{src:St->St}{g:TG}{tts:TT}{t tv:TE}{i:Nat}{y:Str}(hN:X.N.Nodup) (hi':X.N[i]? = some y) (hx:Loc X.env.scope y)
  (hsw:swapsWith (.DictComp elt vx [⟨tgt,iter,ifs,0⟩] scope pos) (some (.Name y py)) spos.line X.env=pure true) (hf:X.fn y=true\/X.env.scope.names.lookup y=some .local)
  (hr:Room rk X.A) (hcalm:X.calm=true) (sc:CompSc X N' scope src)
  (hi:PI X tgt iter wi) (hg:∀C s H fp pins,PG (cxC X N' scope C s H fp pins) tgt g) (ht:∀C s H fp pins,PTs (cxC X N' scope C s H fp pins) ifs tts) (he:∀C s H fp pins,PE (cxC X N' scope C s H fp pins) elt t) (hv:∀C s H fp pins,PE (cxC X N' scope C s H fp pins) vx tv)
  (hs:∀x,foldedSetIterable iter X.env x=pure x:=by intro _;rfl):PS X (.Assign [.Name y py] (.DictComp elt vx [⟨tgt,iter,ifs,0⟩] scope pos) spos) (ziw (zmj X.K wi src g tts t tv) (ziv i)):=by
 intro pins s σ H D I h
 rw [exec_Assign_Name_used _ _ _ _ hsw]
 refine qwb (wpAny_standAt (qwb ?_))
 show wpAny _ X.A (do let _ <-comprehension (.DictComp elt vx [⟨tgt,iter,ifs,0⟩] scope pos) scope X.env _ newDict false (eval iter X.env) (some (assign (.Name y py) X.env))) _ _ s
 refine qwb (wpAny_mono (ybl (use:=some (assign (.Name y py) X.env)) (R:=λ_ s'=>SP X pins D .next s') hr hcalm sc hi hg ht he hv hs I h λD' H5 s6 C mC IX fp hn q=>?_) (λ_ s' hq=>qwp (qwp hq)) λ_ _ e=>e)
 show wpAny _ X.A (assign (.Name y py) X.env (.ref D')) _ _ s6
 refine wpAny_assign_Name (zku (v:=.ref D') IX hN hi' hx rfl (λs' I' ha=>?_) hf)
 obtain ⟨a,sb,ha⟩:=ha
 have hCa:C≠a:=by
  rcases ha with ha|ha
  ·rw [ha];exact fp.2.1
  ·exact λz=>fp.2.2.2.2.1 y a ha z.symm
 refine ⟨mC,hn.sameBut sb hCa,λh'' sb''=>⟨_,H5,?_,q⟩⟩
 exact I'.turned (t':=s'.toks) (λb o hb e=>sb''.extBut b o hb e) fp.1 fp.2.1 fp.2.2.2.1 fp.2.2.2.2.1 fp.2.2.2.2.2
noncomputable def zg3:List D->List (List Key × D)->Option (List (List Key × D))
 | [],acc=>some acc
 | .tup [k,v] :: r,acc=>(zc5 k).bind λkk=>zg3 r (zcd acc kk v)
 | _,_=>none
noncomputable def zh7 (im:IM) (ixs:List (Option Nat)) (g:GM) (t:TM) (k v:EM):EM:=λl S=>(im l S).bind λp=>(zbx p.1 g t (zf4 k v) p.2.1 0 (za2 ixs l) p.2.2).bind λz =>
 if z.1.length<=sizeLine then (zg3 z.1 []).bind λkvs=>some (.ref z.2.length,z.2++[.tdct kvs]) else none
theorem zqi (kvs:List (List Key × D)) (k:List Key) (v:D):(zcd kvs k v).length<=kvs.length+1:=by
 unfold zcd
 split
 ·rw [qlm];omega
 ·simp
inductive CIT (K:QFg) (it:ItM) (g:GM) (t:TM) (ek ev:EM) (S2:Sto) (fin:List (List Key × D)) (ρ1:List Addr) (H1:Hp) (Da:Addr) (i m:Nat) (σ':St) (H':Hp):Prop
 | mk (ρ':List Addr) (l':Lo) (S':Sto) (acc:List (List Key × D)) (vs:List V) (rest:List D) (_:Ext ρ1 H1 ρ' H') (_:Sim K ρ' S' H') (_:RO ρ' H' l' σ') (_:H' Da=some (.dT ((acc.map (·.1)).zip vs))) (_:(∀n:Nat,ρ'[n]?≠some Da)) (_:RDs ρ' H' (acc.map (·.2)) vs) (_:zbx it g t (zf4 ek ev) m i l' S' = some (rest,S2)) (_:zg3 rest acc=some fin) (_:acc.length+rest.length<=sizeLine)
theorem ybn {K:QFg}{im:IM}{ixs:List (Option Nat)}{g:GM}{t:TM}{ek ev:EM}(σ:St) (H:Hp) (Q:VK) (q:te K (zh7 im ixs g t ek ev) σ H Q):zmj K (tiL K im) (za2 ixs) (tg K g) (tt K t) (te K ek) (te K ev) σ H Q:=by
 obtain ⟨ρ,l,S,v,S',sim,ro,hm,p⟩:=q
 obtain ⟨⟨it,k,S1⟩,q1,hm⟩:=bnd hm
 obtain ⟨⟨all,S2⟩,q2,hm⟩:=bnd hm
 obtain ⟨hz,hm⟩:=zpx hm
 obtain ⟨fin,hf,he⟩:=bnd hm
 cases he
 refine ⟨ρ,l,S,it,k,S1,sim,ro,q1,λρ1 H1 J e1 s1 io D hD hK=>?_⟩
 dsimp only at q2 hz p hf
 refine ⟨λi m σ' H'=>CIT K it g t ek ev S2 fin ρ1 H1 D i m σ' H',⟨k,?_⟩,?_⟩
 ·exact ⟨ρ1,za2 ixs l,S1,[],[],all,zbh hD,s1.laid hD,(zjc ixs (ro.mono e1)).mono (zbh hD),zbw,s1.notin hD hK,.nil,q2,hf,by simpa using hz⟩
 ·rintro i m σ' H' ⟨ρ',l',S',acc,vs,rest,e2,s2,ro2,hD2,hn2,rd2,hc,hfold,hlen⟩
  cases m with
  | zero=>cases hc
  | succ m =>
   unfold zbx at hc
   obtain ⟨o,ho,hc⟩:=bnd hc
   obtain ⟨iStop,iGo⟩:=io i ρ' S' H' e2 s2
   cases o with
   | none =>
    cases hc
    cases hfold
    refine .inl ⟨iStop ho,p (ρ'++[D]) H' (.ref D) (e1.trans (e2.adopt hD)) (s2.adoptG ⟨vs,hD2,rd2⟩ hn2) (.ref ?_)⟩
    rw [<-s2.len];exact zfe ρ' D
   | some x =>
    obtain ⟨⟨l3,S3⟩,q3,hc⟩:=bnd hc
    obtain ⟨⟨b,S4⟩,q4,hc⟩:=bnd hc
    obtain ⟨hgo,hy⟩:=iGo x ho
    refine .inr ⟨hgo,_,λσ' H' h=>h,λy H'' hyl=>?_⟩
    obtain ⟨ex,sx,ry⟩:=hy y H'' hyl
    refine ⟨ρ',l',S',x,l3,S3,sx,ro2.mono ex,ry,q3,λρ3 H3 σ3 e3' s3 ro3=>⟨ρ3,l3,S3,b,S4,s3,ro3,q4,λρ4 H4 e4 s4=>?_⟩⟩
    have e3:=ex.trans e3'
    obtain ⟨hD3,hn3⟩:=e3.out D _ hD2 hn2
    obtain ⟨hD4,hn4⟩:=e4.out D _ hD3 hn3
    cases b with
    | false=>exact zd1 ⟨m,Nat.lt_succ_self m,ρ4,l3,S4,acc,vs,rest,e2.trans (e3.trans e4),s4,ro3.mono e4,hD4,hn4,rd2.mono (e3.trans e4),hc,hfold,hlen⟩
    | true =>
     have hc:((zf4 ek ev l3 S4).bind λr=>(zbx it g t (zf4 ek ev) m (i+1) l3 r.2).bind λz=>some (r.1 :: z.1,z.2))=some (rest,S2):=hc
     obtain ⟨⟨y5,S5⟩,q5,hc⟩:=bnd hc
     obtain ⟨⟨rest',S6⟩,q6,hc⟩:=bnd hc
     cases hc
     obtain ⟨⟨yk,S7⟩,q7,q5⟩:=bnd q5
     obtain ⟨⟨yv,S8⟩,q8,q5⟩:=bnd q5
     cases q5
     obtain ⟨kk,hkk,hfold⟩:=bnd (show (zc5 yk).bind (λkk=>zg3 rest' (zcd acc kk yv))=some fin from hfold)
     refine zd2 ⟨ρ4,l3,S4,yk,S7,s4,ro3.mono e4,q7,λρ5 H5 v5 e5 s5 r5=>⟨ρ5,l3,S7,yv,S8,s5,(ro3.mono e4).mono e5,q8,λρ6 H6 v6 e6 s6 r6=>?_⟩⟩
     obtain ⟨hD5,hn5⟩:=e5.out D _ hD4 hn4
     obtain ⟨hD6,hn6⟩:=e6.out D _ hD5 hn5
     have e26:=e2.trans (e3.trans (e4.trans (e5.trans e6)))
     have rd6:=rd2.mono (e3.trans (e4.trans (e5.trans e6)))
     obtain ⟨kb,ek,hkb⟩:=zh5 hkk r5
     have hkb6:=e6.tup _ _ hkb
     obtain ⟨ws,hw1,hw2⟩:=zmb (k:=kk) r6 rd6
     have hl:acc.length+rest'.length+1<=sizeLine:=by simpa [Nat.add_assoc] using hlen
     have hpl:=zqi acc kk yv
     refine ⟨_,kk,kb,hD6,ek,hkb6,by rw [zmd rd6];omega,m,Nat.lt_succ_self m,ρ6,l3,S8,zcd acc kk yv,ws,rest',e26.besideG hD hD6 (ze1 _),s6.besideG hD6 (ze1 _) hn6,?_,by rw [zbw,hw1],hn6,hw2.mono0 (zcl hD6 (ze1 _)),q6,hfold,by omega⟩
     have r0:=((ro3.mono e4).mono e5).mono e6
     exact ⟨r0.len,λi d h=>let ⟨w,h1,h2⟩:=r0.get i d h;⟨w,h1,h2.mono0 (zcl hD6 (ze1 _))⟩⟩
theorem ybo {X:Cx}{tgt iter:Expr}{im:IM}(h:PI3 X tgt iter im):zh2 X tgt iter im:=PI.imp h λσ H R ⟨ρ,l,S,it,k,S',sim,ro,hm,p⟩=>⟨ρ,l,S,it,k,S',sim,ro,hm,λρ1 H1 J e1 s1 ok=>p ρ1 H1 J e1 s1 λi ρ2 S2 H2 e2 s2=>⟨(ok i ρ2 S2 H2 e2 s2).1,λx hx=>⟨((ok i ρ2 S2 H2 e2 s2).2 x hx).1,λy H3 hy=>by
 obtain ⟨e,r⟩:=((ok i ρ2 S2 H2 e2 s2).2 x hx).2 y H3 hy
 subst e
 exact ⟨Ext.refl ..,s2,r⟩⟩⟩⟩
theorem ybp (j:Nat) {X:Cx}{rk:Nat}{N':List Str}{elt vx iter tgt:Expr}{ifs:List Expr}{scope:Scope}{pos spos py:Pos}{y:Str}{im:IM}{ixs:List (Option Nat)}{g:GM}{t:TM}{e ev:EM}(hN:X.N.Nodup) (hr:Room rk X.A) (hcalm:X.calm=true) (sc:CompSc X N' scope (za2 ixs))
  (hi:zh2 X tgt iter im) (hg:∀C s H fp pins,PG3 (cxC X N' scope C s H fp pins) tgt g) (ht:∀C s H fp pins,PTs (cxC X N' scope C s H fp pins) ifs (tt X.K t)) (he:∀C s H fp pins,PE3 (cxC X N' scope C s H fp pins) elt e) (hv:∀C s H fp pins,PE3 (cxC X N' scope C s H fp pins) vx ev)
  (hi':X.N[j]? = some y:=by rfl) (hx:Loc X.env.scope y:=by first|exact Or.inl rfl|exact Or.inr rfl)
  (hsw:swapsWith (.DictComp elt vx [⟨tgt,iter,ifs,0⟩] scope pos) (some (.Name y py)) spos.line X.env=pure true:=by with_unfolding_all rfl) (hf:X.fn y=true\/X.env.scope.names.lookup y=some .local:=by first|exact .inl rfl|exact .inr rfl|assumption)
  (hs:∀x,foldedSetIterable iter X.env x=pure x:=by intro _;rfl):PS3 X (.Assign [.Name y py] (.DictComp elt vx [⟨tgt,iter,ifs,0⟩] scope pos) spos) (zao (zh7 im ixs g t e ev) (zah j)) :=
 PS.imp (ybm (g:=tg X.K g) (tts:=tt X.K t) (t:=te X.K e) (tv:=te X.K ev) hN hi' hx hsw hf hr hcalm sc hi hg ht he hv hs) λE σ H hx1_=>by
  obtain ⟨ρ,l,S,f,l',S',sim,ro,hm,p⟩:=hx1_
  obtain ⟨⟨x,S1⟩,q1,hm⟩:=bnd hm
  cases hm
  exact ybn σ H _ ⟨ρ,l,S,x,S1,sim,ro,q1,λρ1 H1 x' e1 s1 r1=>p ρ1 H1 _ e1 s1 ((ro.mono e1).set j r1)⟩
end L3
namespace SP
open PySem PySem.W PyProof.Rows PySem.Calls
section
end
end SP
namespace L3
open PySem PySem.Spec PyProof.Rows L2
noncomputable def pD (p:SP.Pr):D:=.tup [.int p.1,.int p.2]
section
end
section
end
end L3
namespace SP
open PySem PySem.W PyProof.Rows PySem.Calls
section
variable {prog:Program}{w:World}{A:Around}{E:Value->Shared->Prop}{s:Shared}{d it:Addr}{es:Array DictEntry}{ep i:Nat}
end
end SP
namespace L3
open PySem PySem.Spec PyProof.Rows L2
section
variable {X:Cx}{tg:Expr}
end
section
variable {X:Cx}{tgt iter:Expr}{m:EM}
end
section
end
section
end
theorem ybq {α:Type}{c:Prop} [Decidable c] {x:Option α}{y:α}(h:(if c then x else none)=some y):c/\x=some y:=by
 by_cases e:c
 ·rw [if_pos e] at h;exact ⟨e,h⟩
 ·rw [if_neg e] at h;cases h
noncomputable def tL (m:EM):TM:=λl S=>(m l S).bind λp=>match p.1 with
 | .ref n=>(lstOf p.2 n).bind λxs=>some (!xs.isEmpty,p.2)
 | _=>none
section
theorem ybr (h:PE3 X a m) (he:∀whole,isTrue a X.env whole=(do let v <-whole;standAt a.pos;holding [v] (truthy v)):=by intro _;rfl):PT3 X a (tL m) :=
 PT.imp (zwm h he) λσ H Q hx1_=>by
  obtain ⟨ρ,l,S,b,S',sim,ro,hm,p⟩:=hx1_
  obtain ⟨⟨x,S1⟩,h1,hm⟩:=bnd hm
  dsimp only at hm
  split at hm
  ·rename_i n
   obtain ⟨xs,h2,hm⟩:=bnd hm
   cases hm
   refine ⟨ρ,l,S,.ref n,_,sim,ro,h1,λρ1 H1 v' e1 s1 r1=>?_⟩
   obtain ⟨c,us,hc,sq,rv⟩:=s1.lstOf h2
   cases r1 with
   | ref hn =>
    rw [hc] at hn;cases hn
    have eb:(!xs.isEmpty) = !us.isEmpty:=by cases rv <;> rfl
    exact ⟨!xs.isEmpty,.inl ⟨us,sq,eb⟩,p ρ1 H1 e1 s1⟩
  ·cases hm
end
noncomputable def zh8:FM
 | [.tup [.int i,.int j]],S=>some (.int (if j<i then j else i),S)
 | _,_=>none
noncomputable def zh9:FM
 | [.tup [.int i,.int j]],S=>some (.int (if j > i then j else i),S)
 | _,_=>none
section
variable {prog:Program}{w:World}{A:Around}{E:Value->Shared->Prop}{s:Shared}{c:Addr}{i j:Int}{t u:Tok}
theorem zqj {Q:Value->Shared->Prop}(hT:s.heap.IsTuple c (intItems #[(i,t),(j,u)])) (h:Q (.ref s.heap.objs.size) { s with heap:=s.heap.push { cls:=.type "tuple_iterator",data:=.fields #[.ref c,.int 0 0] } }):wpAny (model prog w) A (pyIter (.ref c)) Q E s:=wpAny_pyIter_tuple hT h
theorem zqk {o:Obj}{h':Heap}(hk:∀b q,b ∉ [s.heap.objs.size]->(s.heap.push o).get? b=some q->h'.get? b=some q) (b:Addr) (q:Obj) (e:s.heap.get? b=some q):h'.get? b=some q :=
 hk b q (λhm=>absurd (Heap.lt_size e) (by rw [List.mem_singleton.mp hm];exact Nat.lt_irrefl _)) (qps _ e)
theorem zql (hc:c<s.heap.objs.size):∀b∈[s.heap.objs.size,c],b<(s.heap.push o).objs.size:=λb hb=>by
 rw [Heap.size_push]
 rcases List.mem_cons.mp hb with e|hb
 ·rw [e];exact Nat.lt_succ_self _
 ·rw [List.mem_singleton.mp hb];exact Nat.lt_succ_of_lt hc
theorem ybs {Q:Value->Shared->Prop}(hh:A.handled=none) (hT:s.heap.IsTuple c (intItems #[(i,t),(j,u)])) (h:∀h' tk,(∀b o,s.heap.get? b=some o->h'.get? b=some o)->Q (if j<i then .int j u else .int i t) { s with heap:=h',toks:=tk }) :
  wpAny (model prog w) A (call (.builtin "min") [.ref c]) Q E s:=by
 have hlt:c<s.heap.objs.size:=by obtain ⟨_,e,_⟩:=hT;exact Heap.lt_size e
 refine call_min_walk (zqj hT ⟨_,[_,c],[_],_,_,_,_,rfl,Walks.tuple (A:=A.in1) hh _ c (Nat.ne_of_lt hlt) (intItems #[(i,t),(j,u)]),⟨⟨_,Heap.get?_push_size _ rfl,rfl,rfl⟩,hT.push _⟩,zql hlt,by simp [intItems],CmpOf.ints_lt (numAt #[(i,t),(j,u)]) (λ_ _=>intItems_at),λv h' tk hP hk=>?_⟩)
 have hz2:(intItems #[(i,t),(j,u)]).size-1=1:=by simp [intItems]
 rw [hz2] at hP
 have e:v=if j<i then Value.int j u else Value.int i t:=by
  by_cases z:j<i
  ·have e:argBest (λa b=>decide (numAt #[(i,t),(j,u)] a<numAt #[(i,t),(j,u)] b)) 1=1:=by simp [argBest,numAt,z]
   rw [e] at hP;simpa [intItems,z] using hP.symm
  ·have e:argBest (λa b=>decide (numAt #[(i,t),(j,u)] a<numAt #[(i,t),(j,u)] b)) 1=0:=by simp [argBest,numAt,z]
   rw [e] at hP;simpa [intItems,z] using hP.symm
 rw [e]
 exact h h' tk (zqk hk)
theorem ybt {Q:Value->Shared->Prop}(hh:A.handled=none) (hT:s.heap.IsTuple c (intItems #[(i,t),(j,u)])) (h:∀h' tk,(∀b o,s.heap.get? b=some o->h'.get? b=some o)->Q (if j > i then .int j u else .int i t) { s with heap:=h',toks:=tk }) :
  wpAny (model prog w) A (call (.builtin "max") [.ref c]) Q E s:=by
 have hlt:c<s.heap.objs.size:=by obtain ⟨_,e,_⟩:=hT;exact Heap.lt_size e
 refine call_max_walk (zqj hT ⟨_,[_,c],[_],_,_,_,_,rfl,Walks.tuple (A:=A.in1) hh _ c (Nat.ne_of_lt hlt) (intItems #[(i,t),(j,u)]),⟨⟨_,Heap.get?_push_size _ rfl,rfl,rfl⟩,hT.push _⟩,zql hlt,by simp [intItems],CmpOf.ints_gt (numAt #[(i,t),(j,u)]) (λ_ _=>intItems_at),λv h' tk hP hk=>?_⟩)
 have hz2:(intItems #[(i,t),(j,u)]).size-1=1:=by simp [intItems]
 rw [hz2] at hP
 have e:v=if j > i then Value.int j u else Value.int i t:=by
  by_cases z:j > i
  ·have e:argBest (λa b=>decide (numAt #[(i,t),(j,u)] a > numAt #[(i,t),(j,u)] b)) 1=1:=by simp [argBest,numAt,z]
   rw [e] at hP;simpa [intItems,z] using hP.symm
  ·have e:argBest (λa b=>decide (numAt #[(i,t),(j,u)] a > numAt #[(i,t),(j,u)] b)) 1=0:=by simp [argBest,numAt,z]
   rw [e] at hP;simpa [intItems,z] using hP.symm
 rw [e]
 exact h h' tk (zqk hk)
end
def zqm (K:QFg):List V->Hp->VK->Prop:=λxs H Q=>∃p i j,xs=[.ref p]/\SqT K H p [.int i,.int j]/\Q (.int (if j<i then j else i)) H
def zqn (K:QFg):List V->Hp->VK->Prop:=λxs H Q=>∃p i j,xs=[.ref p]/\SqT K H p [.int i,.int j]/\Q (.int (if j > i then j else i)) H
section
theorem zqo {pins:List (Addr × Obj)}{σ:St}{i j:Int}(I:Inv X pins σ H s) (h:SqT X.K H p [.int i,.int j]):∃t u,s.heap.IsTuple p (intItems #[(i,t),(j,u)]):=by
 obtain ⟨its,rv,hp,_⟩:=I.tuple h
 cases rv with
 | cons a1 a2 =>
  cases a2 with
  | cons a3 a4 =>
   cases a4
   obtain ⟨t1,rfl⟩:=a1
   obtain ⟨t2,rfl⟩:=a3
   exact ⟨t1,t2,by obtain ⟨o,h1,h2,n,h3⟩:=hp;exact ⟨o,h1,h2,n,by simpa [intItems] using h3⟩⟩
theorem ybu (hc:X.calm=true):CallR X (.builtin "min") (zqm X.K):=by
 intro pins s σ H xs us Q I r h
 obtain ⟨p,i,j,rfl,sq,q⟩:=h
 obtain ⟨u,rfl,ru⟩:=zdy r
 cases ru
 obtain ⟨t,u,hT⟩:=zqo I sq
 refine ybs (I.ok.hd hc) hT λh' tk k=>⟨_,H,I.kept k,?_,q⟩
 by_cases hj:j<i
 ·rw [if_pos hj,if_pos hj];exact ⟨_,rfl⟩
 ·rw [if_neg hj,if_neg hj];exact ⟨_,rfl⟩
theorem ybv (hc:X.calm=true):CallR X (.builtin "max") (zqn X.K):=by
 intro pins s σ H xs us Q I r h
 obtain ⟨p,i,j,rfl,sq,q⟩:=h
 obtain ⟨u,rfl,ru⟩:=zdy r
 cases ru
 obtain ⟨t,u,hT⟩:=zqo I sq
 refine ybt (I.ok.hd hc) hT λh' tk k=>⟨_,H,I.kept k,?_,q⟩
 by_cases hj:j > i
 ·rw [if_pos hj,if_pos hj];exact ⟨_,rfl⟩
 ·rw [if_neg hj,if_neg hj];exact ⟨_,rfl⟩
end
theorem ybw {K:QFg}:Fn3 K zh8 (zqm K):=by
 intro ρ S H xs vs v S' Q sim r h p
 unfold zh8 at h
 split at h
 ·cases h
  obtain ⟨w,rfl,rw'⟩:=r.one
  cases rw' with
  | @tup _ b us hb rs =>
   obtain ⟨x,y,rfl,q1,q2⟩:=rs.two
   cases q1;cases q2
   exact ⟨b,_,_,rfl,.inl (.inl hb),p ρ H _ (Ext.refl ..) sim (.int _)⟩
 ·cases h
theorem ybx {K:QFg}:Fn3 K zh9 (zqn K):=by
 intro ρ S H xs vs v S' Q sim r h p
 unfold zh9 at h
 split at h
 ·cases h
  obtain ⟨w,rfl,rw'⟩:=r.one
  cases rw' with
  | @tup _ b us hb rs =>
   obtain ⟨x,y,rfl,q1,q2⟩:=rs.two
   cases q1;cases q2
   exact ⟨b,_,_,rfl,.inl (.inl hb),p ρ H _ (Ext.refl ..) sim (.int _)⟩
 ·cases h
section
theorem yby (hc:X.calm=true) (hg:Gl X "min") (hm:X.mg "min" = none) (ha:PA3 X (a :: es) mA) (he:starEach (a :: es) X.env=(false,eval a X.env) :: starEach es X.env:=by rfl) (hpl:(backTo pos (starEach es X.env)).any (·.1)=false:=by rfl):PE3 X (.Call (.Name "min" p) (a :: es) [] pos) (zaf zh8 mA) :=
 zfi (ybu hc) ybw hg hm zzh ha (by decide) (by decide) he hpl
theorem ybz (hc:X.calm=true) (hg:Gl X "max") (hm:X.mg "max" = none) (ha:PA3 X (a :: es) mA) (he:starEach (a :: es) X.env=(false,eval a X.env) :: starEach es X.env:=by rfl) (hpl:(backTo pos (starEach es X.env)).any (·.1)=false:=by rfl):PE3 X (.Call (.Name "max" p) (a :: es) [] pos) (zaf zh9 mA) :=
 zfi (ybv hc) ybx hg hm zzi ha (by decide) (by decide) he hpl
end
section
variable {prog:Program}{w:World}{K:Type} [DecidableEq K] {knd:HeapKind prog w K}{A:Around}{E:Value->Shared->Prop}{s:Shared}{d a:Addr}{k:K}{xs:List (K × Addr × Value)}{z:Value}
theorem sdH {Q:Value->Shared->Prop}(hu:knd.room A) (hkey:knd.is s.heap k a) (hm:s.heap.DictOfH knd d xs) (hsz:xs.length<=sizeLine)
  (there:∀p,atKey xs k=some p->Q p.2 { s with toks:=s.toks+knd.draws k }) (new:atKey xs k=none->∀h',h'.DictOfH knd d (storedH xs k a z)->Heap.SameBut d s.heap h'->Q z { s with heap:=h',toks:=s.toks+knd.draws k }) :
  wpAny (model prog w) A (dictSetDefault d (.ref a) z) Q E s:=by
 obtain ⟨o,es,ep,ho,hc,hd,he,his,hn⟩:=hm
 unfold dictSetDefault
 try with_reducible refine wpAny_holding ?_
 refine qwb (knd.pyHash hu hkey (qwb (wpAny_dictFind_heap (s:={ s with toks:=s.toks+knd.draws k }) hu hkey ho hd he his hn (λhno=>?_) λj p hj=>?_)))
 ·have e0:=atKey_none_of_get hno
  have hnot:k ∉ xs.map (·.1):=not_mem_keys_of_get hno
  refine qwb (wpAny_rule (qwb (wpAny_updateDictKeys (hz:=by have e:=size_of_entries he;omega) (s:={ s with toks:=s.toks+knd.draws k }) ho hd (qwp (new e0 _ ⟨_,_,ep+1,Heap.get?_update_self _ ho (Obj.isFreed_of_dict (Obj.data_mapDictKeys hd _)),hc.mapDictKeys _,Obj.data_mapDictKeys hd _,?_,?_,?_⟩ (Heap.SameBut.update ..))))))
  ·rw [storedH_new e0];simp [he,entryOfKey]
  ·rw [storedH_new e0]
   intro x hx
   rcases List.mem_append.mp hx with hx|hx
   ·exact knd.keeps (his x hx) ho hd (Heap.SameBut.update ..)
   ·cases (show x=(k,a,z) by simpa using hx)
    exact knd.keeps hkey ho hd (Heap.SameBut.update ..)
  ·rw [storedH_new e0,List.map_append,List.nodup_append]
   refine ⟨hn,by simp,λx hx y hy=>?_⟩
   cases (show y=k by simpa using hy)
   exact λe=>hnot (e ▸ hx)
 ·refine qwb (wpAny_dictEntries (s:={ s with toks:=s.toks+knd.draws k }) ho hd ?_)
  rw [entry_at he j,hj]
  exact qwb (wpAny_rule (qwp (there p (atKey_of_get hn hj))))
theorem yb0 (hd:(d == sysModules)=false):MeetsIn prog w (Builtin.«dict.setdefault» ⟨[.ref d,.ref a,z],[]⟩) (λA R s=>knd.room A.in1/\∃k xs,knd.is s.heap k a/\s.heap.DictOfH knd d xs/\xs.length<=sizeLine /\
   (∀p,atKey xs k=some p->R (.ok (.ret p.2)) { s with toks:=s.toks+knd.draws k })/\(atKey xs k=none->∀h',h'.DictOfH knd d (storedH xs k a z)->Heap.SameBut d s.heap h'->R (.ok (.ret z)) { s with heap:=h',toks:=s.toks+knd.draws k })) :=
 .of_wp λA R s hx2_=>by
  obtain ⟨hu,k,xs,hkey,hm,hz,h1,h2⟩:=hx2_
  unfold Builtin.«dict.setdefault» Builtin.Dict.keyAndDefault
  refine qwb (qwb (wpAny_notOrdered_dict hm.typeIs (show wpAny _ _ (pure (d,Value.ref a,some z)) _ _ s from qwp ?_)))
  show wpAny _ _ (if (d == sysModules)=true then _ else (dictSetDefault d (.ref a) z >>= _)) _ _ s
  rw [hd,if_neg Bool.false_ne_true]
  exact qwb (sdH hu hkey hm hz (λp hp=>qwp ⟨p.2,rfl,h1 p hp⟩) λhn h' hm' hs'=>qwp ⟨z,rfl,h2 hn h' hm' hs'⟩)
end
def yb1 (td ty tx:TE):TE:=λσ H Q=>td σ H λx H1=>∃a,x=.ref a/\IsD H1 a/\ty σ H1 λy H2=>tx σ H2 λz H3=>∃kvs k b,H3 a=some (.dT kvs)/\y=.ref b/\H3 b=some (.tup (k.map kV))/\kvs.length<sizeLine /\
 (∀v,zbv kvs k=some v->Q v H3)/\(zbv kvs k=none->Q z (upd H3 a (.dT (zbs kvs k z))))
section
variable {td ty tx:TE}
theorem yb2 (hu:X.A.units+1<cLine) (ho:PE X o td) (he:PE X e ty) (hf:PE X f tx) (m:M2 X o "setdefault" apos e f cpos):PE X (.Call (.Attribute o "setdefault" apos) [e,f] [] cpos) (yb1 td ty tx):=by
 intro pins s σ H Q I h
 refine wpAny_Call_method m.base m.few m.line PySem.F.plainAttrs_dict PySem.F.slot_dict_setdefault PySem.F.type_dict_setdefault (thn (ho pins s σ H _ I h) λu s1 ⟨x,H1,I1,rx,a,ex,d,q1⟩=>?_)
 subst ex
 obtain rfl:u=Value.ref a:=rx
 obtain ⟨t1,t2,_⟩:=zos I1 d
 refine ⟨t1,t2,?_⟩
 rw [m.trees]
 refine Calls.callWith_builtin rfl (Calls.evalArgs_plain (Calls.spliced_cons (thn (he pins s1 σ H1 _ I1 q1) λiv s2 ⟨y,H2,I2,ry,q2⟩=>Calls.spliced_cons (thn (hf pins s2 σ H2 _ I2 q2) λfv s3 ⟨z,H3,I3,rz,kvs,k,b,ea,ey,eb,hl,g1,g2⟩=>Calls.spliced_nil ?_))))
 subst ey
 cases (show iv=Value.ref b from ry)
 obtain ⟨zz,hd,xs,rel,dd⟩:=zk4 I3.hok ea
 have hz:xs.length<=sizeLine:=by rw [<-Paired.length rel];exact zz
 have hp:(zbs kvs k z).length<=sizeLine:=by have:=zi2 kvs k z;omega
 refine call_meetsIn PySem.F.slot_dict_setdefault dd.typeIs PySem.F.entry_dict_setdefault (PySem.F.args_dict_setdefault_3 _ _ _) (yb0 (knd:=tupleKind (zcc X.prog X.w)) hd) ⟨tupleKind_room_in1 hu,k,xs,zfc I3.hok eb,dd,hz,λp hp=>?_,λhn h' dd' hs=>?_⟩
 ·have r:=rel.val k
  rw [hp] at r
  cases hv:zbv kvs k with
  | none=>rw [hv] at r;exact r.elim
  | some v=>rw [hv] at r;exact ⟨v,H3,I3.tok _,r,g1 v hv⟩
 ·have r:=rel.val k
  rw [hn] at r
  cases hv:zbv kvs k with
  | some v=>rw [hv] at r;exact r.elim
  | none =>
   obtain ⟨q,es,ep,hq,h2,h3,h4,_,h5⟩:=dd'
   refine ⟨z,_,zi3 (ob:=.dT (zbs kvs k z)) I3 (by rw [ea];exact True.intro) hs ⟨q,hq⟩ ⟨hp,hd,_,(rel.put k eb rz).keeps λc ys ec=>?_,q,es,ep,hq,h2,h3,h4,h5⟩,rz,g2 hv⟩
   rw [zap (zc8 ec ea (λz=>nomatch z))]
   exact ec
end
noncomputable def zf7 (o e f:EM):EM:=λl S=>(o l S).bind λp=>(isDc p.2 p.1).bind λ_=>(e l p.2).bind λq=>(f l q.2).bind λt=>match p.1 with
 | .ref n=>match t.2[n]? with
  | some (.tdct kvs)=>(zc5 q.1).bind λk=>if kvs.length<sizeLine then (match za8 kvs k with
   | some v=>some (v,t.2)
   | none=>some (t.1,t.2.set n (.tdct (zcd kvs k t.1)))) else none
  | _=>none
 | _=>none
section
theorem yb3 (hr:Room k X.A) (ho:PE3 X o mo) (he:PE3 X e me) (hf:PE3 X f mf) (m:M2 X o "setdefault" apos e f cpos:=by exact ⟨rfl,rfl,rfl,rfl⟩):PE3 X (.Call (.Attribute o "setdefault" apos) [e,f] [] cpos) (zf7 mo me mf):=PE.imp (yb2 (zg1 hr) ho he hf m) λσ H Q hx3_=>by
 obtain ⟨ρ,l,S,v,S',sim,ro,hq,p⟩:=hx3_
 obtain ⟨⟨x,S1⟩,h1,hq⟩:=bnd hq
 obtain ⟨_,h2,hq⟩:=bnd hq
 obtain ⟨⟨y,S2⟩,h3,hq⟩:=bnd hq
 obtain ⟨⟨z,S3⟩,h5,hq⟩:=bnd hq
 cases x with
 | ref n =>
  dsimp only at hq
  cases hx:S3[n]? with
  | none=>rw [hx] at hq;cases hq
  | some ob =>
  rw [hx] at hq
  cases ob with
  | tdct kvs =>
   dsimp only at hq
   obtain ⟨kk,hk,hq⟩:=bnd hq
   obtain ⟨hz,hq⟩:=ybq hq
   refine ⟨ρ,l,S,.ref n,S1,sim,ro,h1,λρ1 H1 x' e1 s1 r1=>?_⟩
   obtain ⟨a,rfl,da⟩:=s1.isDc r1 h2
   refine ⟨a,rfl,da,ρ1,l,S1,y,S2,s1,ro.mono e1,h3,λρ2 H2 y' e2 s2 r2=>⟨ρ2,l,S2,z,S3,s2,(ro.mono e1).mono e2,h5,λρ3 H3 z' e3 s3 r3=>?_⟩⟩
   have r1':=(r1.mono e2).mono e3
   cases r1' with
   | @ref _ _ hn =>
    obtain ⟨vs,hH,r⟩:=s3.at' _ a _ hn hx
    obtain ⟨b,rfl,hb⟩:=zh5 hk (r2.mono e3)
    obtain ⟨g1,g2⟩:=zjw (k:=kk) r
    refine ⟨_,kk,b,hH,rfl,hb,by rw [zmd r];exact hz,λv' hv=>?_,λhv=>?_⟩
    ·cases hg:za8 kvs kk with
     | none=>rw [g1 hg] at hv;cases hv
     | some d0 =>
      rw [hg] at hq
      obtain ⟨v0,hv0,rd⟩:=g2 d0 hg
      cases hq
      rw [hv] at hv0;cases hv0
      exact p ρ3 H3 _ (e1.trans (e2.trans e3)) s3 rd
    ·cases hg:za8 kvs kk with
     | some d0 =>
      obtain ⟨v0,hv0,_⟩:=g2 d0 hg
      rw [hv] at hv0;cases hv0
     | none =>
      rw [hg] at hq
      cases hq
      obtain ⟨ws,hw1,hw2⟩:=zmb (k:=kk) r3 r
      have ex:=zk5 (o:=.dT (zbs ((kvs.map (·.1)).zip vs) kk z')) hn hH (ze1 _)
      exact p ρ3 _ _ ((e1.trans (e2.trans e3)).trans ex) (s3.setG hn hx rfl hH (ze1 _) ⟨ws,by rw [zbw,hw1],hw2.mono ex⟩) (r3.mono ex)
  | _=>cases hq
 | _=>cases hq
end
section
end
section
end
section
end
section
end
section
end
section
end
section
end
section
end
section
noncomputable abbrev two (elt t1 i1 t2 i2:Expr) (ifs1 ifs2:List Expr) (scope:Scope) (pos:Pos):Expr:=.ListComp elt [⟨t1,i1,ifs1,0⟩,⟨t2,i2,ifs2,0⟩] scope pos
theorem yb4:compTurn (two elt t1 i1 t2 i2 ifs1 ifs2 scope pos) 0 it acc env=(do
  standAt i1.pos
  match <-pyNext it with
  | none=>pure (.done .next)
  | some v =>
   letOwnedTupleGo t1 it v
   assign t1 env v
   let mut ok:=true
   for c in ifs1 do
    if ok then ok <-isTrue c env (eval c env)
   if ok then
    let x <-eval i2 env
    standAt i2.pos
    let x <-foldedSetIterable i2 env x
    let _ <-runOwn (.compStart (two elt t1 i1 t2 i2 ifs1 ifs2 scope pos) 1 (<-holding [x] (pyIter x)) acc env) env
   again (.compLoop (two elt t1 i1 t2 i2 ifs1 ifs2 scope pos) 0 it acc env)):=by rfl
theorem yb5:compTurn (two elt t1 i1 t2 i2 ifs1 ifs2 scope pos) 1 it acc env=(do
  standAt i2.pos
  match <-pyNext it with
  | none=>pure (.done .next)
  | some v =>
   letOwnedTupleGo t2 it v
   assign t2 env v
   let mut ok:=true
   for c in ifs2 do
    if ok then ok <-isTrue c env (eval c env)
   if ok then
    (do let _ <-call (.builtin "list.append") [acc,<-eval elt env])
   again (.compLoop (two elt t1 i1 t2 i2 ifs1 ifs2 scope pos) 1 it acc env)):=by rfl
theorem yb6 (h0:codeAny (model prog w) A (.compLoop (two elt t1 i1 t2 i2 ifs1 ifs2 scope pos) 1 it acc env) R s)
  (h:wpAny (model prog w) A (pyIter it) (λit' s'=>codeAny (model prog w) A (.compLoop (two elt t1 i1 t2 i2 ifs1 ifs2 scope pos) 1 it' acc env) R s') (notedBy (model prog w) A env λx s'=>R (.error x) s') s) :
  codeAny (model prog w) A (.compStart (two elt t1 i1 t2 i2 ifs1 ifs2 scope pos) 1 it acc env) R s:=by
 refine codeAny_of_tree ?_
 show wpAny _ _ ((compStart (two elt t1 i1 t2 i2 ifs1 ifs2 scope pos) 1 it acc env).onRaise (λx=>do noteFrame x env;standAt theWindowsPlace)) _ _ s
 refine wpAny_notedAt ?_
 unfold compStart
 show wpAny _ _ (ask >>= _) _ _ s
 refine qwb (wpAny_askSetting (wpAny_ite ?_))
 split
 ·first
   | exact qwb (qwp (qwp (And.intro rfl h0)))
   | exact qwp (And.intro rfl h0)
 ·first
   | exact qwb (wpAny_rule (qwb (wpAny_standAt (qwb (wpAny_mono h (λit' s' h'=>qwp (And.intro rfl h')) λ_ _ x=>x)))))
   | (refine qwb (wpAny_rule ?_);show wpAny _ _ (standAt i2.pos >>= _) _ _ s;exact qwb (wpAny_standAt (qwb (wpAny_mono h (λit' s' h'=>qwp (And.intro rfl h')) λ_ _ x=>x))))
theorem yb7 (I:Nat->Shared->Prop)
  (turn:∀n s,I n s->wpAny (model prog w) A (pyNext it) (λr s₁=>match r with
   | none=>R (.ok .next) s₁
   | some v=>wpAny (model prog w) A (letOwnedTupleGo t2 it v) (λ_ s₁'=>wpAny (model prog w) A (assign t2 env v) (λ_ s₂ =>
     wpAny (model prog w) A (forIn ifs2 true λc r=>if r=true then do let ok <-isTrue c env (eval c env);pure (ForInStep.yield ok) else pure (ForInStep.yield r)) (λok s₃ =>
      if ok=true then wpAny (model prog w) A (eval elt env) (λx s₄ =>
       wpAny (model prog w) A (call (.builtin "list.append") [acc,x]) (λ_ s₅=>∃m,m<n/\I m s₅) (λ_ _=>False) s₄) (λ_ _=>False) s₃
      else ∃m,m<n/\I m s₃) (λ_ _=>False) s₂) (λ_ _=>False) s₁') (λ_ _=>False) s₁) (λ_ _=>False) s)
  (n:Nat) (h:I n s):codeAny (model prog w) A (.compLoop (two elt t1 i1 t2 i2 ifs1 ifs2 scope pos) 1 it acc env) R s:=by
 refine codeAny_loop rfl I (λn s hI=>?_) n h
 show wpAny _ A ((compTurn (two elt t1 i1 t2 i2 ifs1 ifs2 scope pos) 1 it acc env).onRaise (λx=>do noteFrame x env;theTreesLotGoes x)) _ _ s
 refine wpAny_noted ?_
 rw [yb5]
 refine qwb (wpAny_standAt (qwb (wpAny_mono (turn n s hI) (λr s₁ h₁=>?_) λ_ _ h'=>h'.elim)))
 cases r with
 | none=>exact qwp h₁
 | some v =>
  refine qwb (wpAny_mono h₁ (λ_ s₁' h₁=>?_) λ_ _ h'=>h'.elim)
  refine qwb (wpAny_mono h₁ (λ_ s₂ h₂=>qwb (wpAny_mono h₂ (λok s₃ h₃=>?_) λ_ _ h'=>h'.elim)) λ_ _ h'=>h'.elim)
  cases ok with
  | false=>exact qwp ⟨rfl,h₃⟩
  | true =>
   exact qwb (qwb (wpAny_mono h₃ (λx s₄ h₄=>qwb (wpAny_mono h₄ (λ_ s₅ h₅=>qwp (qwp ⟨rfl,h₅⟩)) λ_ _ h'=>h'.elim)) λ_ _ h'=>h'.elim))
theorem yb8 (hs:∀x,foldedSetIterable i2 env x=pure x) (I:Nat->Shared->Prop)
  (turn:∀n s,I n s->wpAny (model prog w) A (pyNext it) (λr s₁=>match r with
   | none=>R (.ok .next) s₁
   | some v=>wpAny (model prog w) A (letOwnedTupleGo t1 it v) (λ_ s₁'=>wpAny (model prog w) A (assign t1 env v) (λ_ s₂ =>
     wpAny (model prog w) A (forIn ifs1 true λc r=>if r=true then do let ok <-isTrue c env (eval c env);pure (ForInStep.yield ok) else pure (ForInStep.yield r)) (λok s₃ =>
      if ok=true then wpAny (model prog w) A (eval i2 env) (λx s₄=>wpAny (model prog w) A (pyIter x) (λit2 s₅ =>
       codeAny (model prog w) A (.compStart (two elt t1 i1 t2 i2 ifs1 ifs2 scope pos) 1 it2 acc env) (λr s₆=>r=.ok .next/\∃m,m<n/\I m s₆) s₅) (λ_ _=>False) s₄) (λ_ _=>False) s₃
      else ∃m,m<n/\I m s₃) (λ_ _=>False) s₂) (λ_ _=>False) s₁') (λ_ _=>False) s₁) (λ_ _=>False) s)
  (n:Nat) (h:I n s):codeAny (model prog w) A (.compLoop (two elt t1 i1 t2 i2 ifs1 ifs2 scope pos) 0 it acc env) R s:=by
 refine codeAny_loop rfl I (λn s hI=>?_) n h
 show wpAny _ A ((compTurn (two elt t1 i1 t2 i2 ifs1 ifs2 scope pos) 0 it acc env).onRaise (λx=>do noteFrame x env;theTreesLotGoes x)) _ _ s
 refine wpAny_noted ?_
 rw [yb4]
 refine qwb (wpAny_standAt (qwb (wpAny_mono (turn n s hI) (λr s₁ h₁=>?_) λ_ _ h'=>h'.elim)))
 cases r with
 | none=>exact qwp h₁
 | some v =>
  refine qwb (wpAny_mono h₁ (λ_ s₁' h₁=>?_) λ_ _ h'=>h'.elim)
  refine qwb (wpAny_mono h₁ (λ_ s₂ h₂=>qwb (wpAny_mono h₂ (λok s₃ h₃=>?_) λ_ _ h'=>h'.elim)) λ_ _ h'=>h'.elim)
  cases ok with
  | false=>exact qwp ⟨rfl,h₃⟩
  | true =>
   refine qwb (wpAny_mono h₃ (λx s₄ h₄=>?_) λ_ _ h'=>h'.elim)
   refine qwb (wpAny_standAt ?_)
   rw [hs x]
   refine qwb (qwp (qwb (wpAny_holding (wpAny_mono h₄ (λit2 s₅ h₅=>?_) λ_ _ h'=>h'.elim))))
   refine qwb (wpAny_runOwn (codeAny_mono h₅ λr s₆ h₆=>?_))
   obtain ⟨rfl,h₆⟩:=h₆
   exact qwp ⟨rfl,h₆⟩
end
def zmk (K:QFg) (wi:TI) (src:St->St) (g:TG) (tts:TT) (wi2:TI) (g2:TG) (tts2:TT) (t:TE):TE:=λσ H Q=>wi σ H λJ H1=>∀D,H1 D=none->K.lookup D=none->∃W:Nat->Nat->St->Hp->Prop,
 (∃m,W 0 m (src σ) (upd H1 D (.lst [])))/\∀i m σ' H',W i m σ' H' ->
  (J.stop i H'/\Q (.ref D) H')\/(J.go i H'/\∃N:St->Hp->Prop,(∀σ' H',N σ' H'->∃m',m' < m/\W (i+1) m' σ' H') /\
   ∀x H'',J.yld i H' x H''->g x σ' H'' λσ2 H2=>tts σ2 H2 λb H3=>if b=true then wi2 σ2 H3 (λJ2 H4=>∃W2:Nat->Nat->St->Hp->Prop,(∃m,W2 0 m σ2 H4)/\∀j m σ3 H5,W2 j m σ3 H5 ->
    (J2.stop j H5/\N σ3 H5)\/(J2.go j H5/\∃N2:St->Hp->Prop,(∀σ' H',N2 σ' H'->∃m',m' < m/\W2 (j+1) m' σ' H') /\
     ∀y H6,J2.yld j H5 y H6->g2 y σ3 H6 λσ4 H7=>tts2 σ4 H7 λb H8=>if b=true then t σ4 H8 (λv H9=>∃ys,H9 D=some (.lst ys)/\ys.length<sizeLine/\N2 σ4 (upd H9 D (.lst (ys++[v])))) else N2 σ4 H8)) else N σ2 H3)
theorem yb9 {X:Cx}{N':List Str}{elt iter tgt iter2 tgt2:Expr}{ifs ifs2:List Expr}{scope:Scope}{pos pos':Pos}{use:Option (Value->Sem Unit)}{R:Value->Shared->Prop}{pins:List (Addr × Obj)}{s:Shared}{σ:St}{H:Hp}{Q:VK}{wi:TI}{src:St->St}{g g2:TG}{tts tts2:TT}{wi2:TI}{t:TE}(hcalm:X.calm=true) (sc:CompSc X N' scope src)
  (hi:PI X tgt iter wi) (hg:∀C s H fp pins,PG (cxC X N' scope C s H fp pins) tgt g) (ht:∀C s H fp pins,PTs (cxC X N' scope C s H fp pins) ifs tts) (he:∀C s H fp pins,PE (cxC X N' scope C s H fp pins) elt t)
  (hi2:∀C s H fp pins,PI (cxC X N' scope C s H fp pins) tgt2 iter2 wi2) (hg2:∀C s H fp pins,PG (cxC X N' scope C s H fp pins) tgt2 g2) (ht2:∀C s H fp pins,PTs (cxC X N' scope C s H fp pins) ifs2 tts2)
  (hs:∀x,foldedSetIterable iter X.env x=pure x) (hs2:∀C s H fp pins x,foldedSetIterable iter2 (cxC X N' scope C s H fp pins).env x=pure x) (I:Inv X pins σ H s) (h:zmk X.K wi src g tts wi2 g2 tts2 t σ H Q)
  (fin:∀D H5 s6 C mC,Inv X pins σ H5 s6->zby X pins H5 C->s6.heap.Ns C mC->Q (.ref D) H5->compPost (model X.prog X.w) X.A X.xe use R (.ref D) C (.ok .next) s6) :
  wpAny (model X.prog X.w) X.A (comprehension (two elt tgt iter tgt2 iter2 ifs ifs2 scope pos) scope X.env pos' (newList []) false (eval iter X.env) use) R X.xe s:=by
 have hasC:∀x∈scope.names,x.2=.free->∃c,X.env.cells.lookup x.1=some c:=λx hx hf=>I.ok.has x.1 (sc.free x hx hf)
 refine wpAny_comprehension_free (use:=use) (env:=X.env) rfl hs (zi9 scope X.env hasC) sc.kind sc.names ?_
 show wpAny (model X.prog X.w) X.A (eval iter X.env) _ _ s
 refine wpAny_mono (hi pins s σ H _ I h) (λv s1 h1=>wpAny_mono h1 (λitv s2 h2=>?_) λ_ _ z=>z) λ_ _ z=>z
 obtain ⟨it,fp,tn,J,H2,rfl,I2,T,st2,f2,q⟩:=h2
 refine wpAny_newObj_type ?_ (by show 0<=sizeLine;exact Nat.zero_le _)
 have hD:H2 s2.heap.objs.size=none:=I2.hok.fresh (qlr _)
 have I3:Inv X pins σ (upd H2 s2.heap.objs.size (.lst [])) { s2 with heap:=s2.heap.push { cls:=.type "list",data:=.seq ([]:List Value).toArray } }:=I2.lnew (t':=s2.toks) .nil (Nat.zero_le _)
 obtain ⟨W,⟨m0,w0⟩,turn⟩:=q s2.heap.objs.size hD (by
  cases e:X.K.lookup s2.heap.objs.size with
  | none=>rfl
  | some o=>exact absurd (Heap.lt_size (I2.kIn _ o e)) (Nat.lt_irrefl _))
 refine wpAny_newFunctionEnv sc.nocell (by intro y hy;simp at hy) (λh' hns hsb=>?_) sc.kind
 have fpIn:∀b∈fp,∃o,s2.heap.get? b=some o/\∀v,o.data≠.cell v:=T.obj 0 s2.heap st2
 have fpD:∀b∈fp,b≠s2.heap.objs.size:=λb hb=>let ⟨o,e,_⟩:=fpIn b hb;Nat.ne_of_lt (Heap.lt_size e)
 have f3:∀b∈fp,zby X pins (upd H2 s2.heap.objs.size (.lst [])) b:=λb hb=>⟨by rw [zap (fpD b hb)];exact (f2 b hb).1,(f2 b hb).2⟩
 have st3:tn 0 (s2.heap.push { cls:=.type "list",data:=.seq ([]:List Value).toArray }):=T.keep _ _ _ st2 λb hb o e=>qps _ e
 clear q hD h st2 f2 fpD
 generalize upd H2 s2.heap.objs.size (.lst [])=H3 at *
 generalize hDe:s2.heap.objs.size=D at *
 have fpIn3:∀b∈fp,∃o,(s2.heap.push { cls:=.type "list",data:=.seq ([]:List Value).toArray }).get? b=some o/\∀v,o.data≠.cell v:=T.obj 0 _ st3
 clear fpIn
 generalize s2.heap.push { cls:=.type "list",data:=.seq ([]:List Value).toArray }=h3 at *
 have old:∀b o,h3.get? b=some o->h'.get? b=some o:=λb o e=>hsb.extBut b o (Nat.ne_of_lt (Heap.lt_size e)) (qps _ e)
 have stkNo:∀b,b≠X.env.locals->b ∉ X.fs->b ∉ frs X.stack:=λb h1 h2 hb=>by
  rcases List.mem_cons.mp (I3.stkSub b hb) with z|z
  ·exact h1 z
  ·exact h2 z
 have sub:=zfr X.env scope.names [] (λx c z=>by simp at z)
 have cNe:∀b o,h3.get? b=some o->b≠h3.objs.size:=λb o e=>Nat.ne_of_lt (Heap.lt_size e)
 have I4:Inv (cxC X N' scope h3.objs.size { s2 with heap:=h3 } H3 fp pins) [] (src σ) H3 { s2 with heap:=h',toks:=s2.toks+([]:List (Str × Value)).length }:=by
  refine ⟨⟨I3.ok.mod,sc.kind,I3.ok.glob,I3.ok.blt,qlr _,λx y c h1 h2=>I3.ok.inj x y c (sub x c h1) (sub y c h2),λx hx=>?_,λx c z=>absurd (show false=true from z) Bool.false_ne_true,I3.ok.hd,I3.ok.frames,.inl rfl,λb hb=>⟨?_,λx c z=>(f3 b hb).2.2.2.2.1 x c (sub x c z)⟩,λb o e=>I3.bs b o e,Nat.le_trans I3.ok.bsz I3.sz,λb o e hb=>?_,λb hb=>stkNo b (f3 b hb).2.1 (f3 b hb).2.2.1,I3.stack,I3.stkFree⟩,
   rfl,I3.bare,Un.kept old,⟨_,hns,λi x v h1 h2 h3'=>?_⟩,λx c z=>?_,I3.hok.fresh (qlr _),λx c z=>I3.freeC x c (sub x c z),λp hp=>?_,I3.hok.kept old,sc.len σ⟩
  ·have hm:=sc.rel x hx
   exact zds X.env scope.names [] x (.inl hm) (hasC _ hm rfl)
  ·obtain ⟨o,e,_⟩:=fpIn3 b hb
   exact cNe b o e
  ·rcases (f3 b hb).2.2.2.1 with z|z
   ·exact I3.ok.noex b o e z
   ·have:=Heap.lt_size (I3.ok.bs b o e).1
    exact absurd (Nat.lt_of_lt_of_le this z) (Nat.lt_irrefl _)
  ·obtain ⟨j,e1,e2,e3⟩:=sc.src σ i v x h2 h1
   obtain ⟨m,hn,hl⟩:=I3.loc
   have hmem:=PySem.mem_of_lookup e3
   have hk:=sc.free (x,.free) hmem rfl
   have vis:Vis X.env.scope x:=by
    rcases hk with k|k
    ·exact .inr (.inl k)
    ·exact .inr (.inr k)
   obtain ⟨u,r,lk⟩:=hl j x v e1 e2 vis
   refine ⟨u,r,.inr ⟨?_,?_⟩⟩
   ·exact zhv (scope:=scope) e3
   ·rcases lk with ⟨k,_⟩|⟨_,c,hc,hcell⟩
    ·rcases hk with k' | k' <;> (rw [k] at k';cases k')
    ·obtain ⟨c',hc'⟩:=zds X.env scope.names [] x (.inl hmem) ⟨c,hc⟩
     have:=sub x c' hc'
     rw [hc] at this;cases this
     obtain ⟨o,ho,hd⟩:=hcell
     exact ⟨c,hc',o,old _ _ ho,hd⟩
  ·obtain ⟨v,o,ho,hd⟩:=I3.cell x c (sub x c z)
   exact ⟨v,o,old _ _ ho,hd⟩
  ·have hp':p∈X.pn++pins:=by simpa [cxC] using hp
   obtain ⟨e,n,ne,nf,d⟩:=I3.pin p hp'
   exact ⟨old _ _ e,n,cNe _ _ e,stkNo _ ne nf,d⟩
 have st4:tn 0 h':=T.keep _ _ _ st3 λb hb o e=>old b o e
 have fr4:∀b∈fp,H3 b=none:=λb hb=>(f3 b hb).1
 have stat:∀{H':Hp},(∀b∈fp,H' b=none)->∀b∈fp,zby (cxC X N' scope h3.objs.size { s2 with heap:=h3 } H3 fp pins) [] H' b:=λhn b hb=>by
  obtain ⟨g0,g1,g2,g3,g4,g5⟩:=f3 b hb
  obtain ⟨o,e,_⟩:=fpIn3 b hb
  exact ⟨hn b hb,cNe b o e,stkNo b g1 g2,.inl hb,λx c z=>g4 x c (sub x c z),λp hp=>g5 p (by simpa [cxC] using hp)⟩
 have loop:codeAny (model X.prog X.w) X.A (.compLoop (two elt tgt iter tgt2 iter2 ifs ifs2 scope pos) 0 (.ref it) (.ref D) (compEnvC scope (zbq X.env scope.names []) h3.objs.size X.env))
   (compPost (model X.prog X.w) X.A X.xe use R (.ref D) h3.objs.size) { s2 with heap:=h',toks:=s2.toks+([]:List (Str × Value)).length }:=by
  refine yb8 (λx=>hs2 h3.objs.size { s2 with heap:=h3 } H3 fp pins x) (λn s'=>∃i σ' H',Inv (cxC X N' scope h3.objs.size { s2 with heap:=h3 } H3 fp pins) [] σ' H' s'/\tn i s'.heap/\(∀b∈fp,H' b=none)/\W i n σ' H') ?_ m0 ⟨0,src σ,H3,I4,st4,fr4,w0⟩
  rintro n s5 ⟨i,σ5,H5,I5,st5,fr5,w5⟩
  rcases turn i n σ5 H5 w5 with ⟨stop,qn⟩|⟨go,N,hN,step⟩
  ·refine wpAny_mono (T.done (cxC X N' scope h3.objs.size { s2 with heap:=h3 } H3 fp pins) rfl rfl rfl hcalm i [] s5 σ5 H5 (λ_ _=>False) I5 (stat fr5) st5 stop) (λr s6 hr=>?_) λ_ _ z=>z
   obtain ⟨hr,I6⟩:=hr
   subst hr
   obtain ⟨mC,hnC,_⟩:=I6.loc
   have IX:Inv X pins σ H5 s6:=I3.call' (s':=s6) (ch:=fp) I6.os I6.base I6.hok I6.bare λb hb=>⟨(f3 b hb).2.2.2.1,(f3 b hb).2.1,(f3 b hb).2.2.2.2.1,(f3 b hb).2.2.2.2.2⟩
   exact fin D H5 s6 h3.objs.size mC IX (I3.fpOk (qlr _) I6.free) hnC qn
  ·refine wpAny_mono (T.item (cxC X N' scope h3.objs.size { s2 with heap:=h3 } H3 fp pins) rfl rfl rfl hcalm i [] s5 σ5 H5 (λ_ _=>False) I5 (stat fr5) st5 go) (λr s6 hr=>?_) λ_ _ z=>z
   obtain ⟨u,hr,h6⟩:=hr
   subst hr
   refine wpAny_mono h6 (λ_ s7 h7=>?_) λ_ _ z=>z
   obtain ⟨x,H7,I7,r7,y7,st7,fr7⟩:=h7
   have I7':=I7.pinned (stat fr7) (T.obj _ _ st7)
   refine wpAny_mono (hg _ _ _ _ _ _ s7 σ5 H7 x u _ I7' r7 (step x H7 y7)) (λ_ s8 h8=>?_) λ_ _ z=>z
   obtain ⟨σ8,H8,I8,q8⟩:=h8
   have again:∀{σ9:St} {H9:Hp} {s9:Shared},Inv (cxC X N' scope h3.objs.size { s2 with heap:=h3 } H3 fp pins) ([]++zcz fp s7.heap) σ9 H9 s9->N σ9 H9->∃m,m<n/\∃i σ' H',Inv (cxC X N' scope h3.objs.size { s2 with heap:=h3 } H3 fp pins) [] σ' H' s9/\tn i s9.heap/\(∀b∈fp,H' b=none)/\W i m σ' H':=λ{σ9 H9 s9} I9 n9=>by
    obtain ⟨m',hm,w9⟩:=hN σ9 H9 n9
    refine ⟨m',hm,i+1,σ9,H9,I9.unpinned,T.keep _ _ _ st7 λb hb o e=>(I9.pin (b,o) (List.mem_append_right _ (List.mem_append_right _ (zc9 hb e)))).1,λb hb=>?_,w9⟩
    obtain ⟨o,e,d⟩:=T.obj _ _ st7 b hb
    exact (I9.pin (b,o) (List.mem_append_right _ (List.mem_append_right _ (zc9 hb e)))).2.1
   refine wpAny_mono (ht _ _ _ _ _ _ s8 σ8 H8 _ I8 q8) (λok s9 h9=>?_) λ_ _ z=>z
   obtain ⟨H9,I9,q9⟩:=h9
   cases ok with
   | false=>exact again I9 q9
   | true =>
    refine wpAny_mono (hi2 _ _ _ _ _ _ s9 σ8 H9 _ I9 q9) (λv s10 h10=>wpAny_mono h10 (λitv s11 h11=>?_) λ_ _ z=>z) λ_ _ z=>z
    obtain ⟨it2,fp2,tn2,J2,H11,rfl,I11,T2,st11,f11,W2,⟨m2,w2⟩,turn2⟩:=h11
    have stat2:∀{H':Hp},(∀b∈fp2,H' b=none)->∀b∈fp2,zby (cxC X N' scope h3.objs.size { s2 with heap:=h3 } H3 fp pins) ([]++zcz fp s7.heap) H' b:=λhn b hb=>⟨hn b hb,(f11 b hb).2⟩
    have inner:codeAny (model X.prog X.w) X.A (.compLoop (two elt tgt iter tgt2 iter2 ifs ifs2 scope pos) 1 (.ref it2) (.ref D) (compEnvC scope (zbq X.env scope.names []) h3.objs.size X.env))
      (λr s6=>r=.ok .next/\∃m,m<n/\∃i σ' H',Inv (cxC X N' scope h3.objs.size { s2 with heap:=h3 } H3 fp pins) [] σ' H' s6/\tn i s6.heap/\(∀b∈fp,H' b=none)/\W i m σ' H') s11:=by
     refine yb7 (λk s'=>∃j σ' H',Inv (cxC X N' scope h3.objs.size { s2 with heap:=h3 } H3 fp pins) ([]++zcz fp s7.heap) σ' H' s'/\tn2 j s'.heap/\(∀b∈fp2,H' b=none)/\W2 j k σ' H') ?_ m2 ⟨0,σ8,H11,I11,st11,λb hb=>(f11 b hb).1,w2⟩
     rintro k s12 ⟨j,σ12,H12,I12,st12,fr12,w12⟩
     rcases turn2 j k σ12 H12 w12 with ⟨stop2,qn2⟩|⟨go2,N2,hN2,step2⟩
     ·refine wpAny_mono (T2.done (cxC X N' scope h3.objs.size { s2 with heap:=h3 } H3 fp pins) rfl rfl rfl hcalm j _ s12 σ12 H12 (λ_ _=>False) I12 (stat2 fr12) st12 stop2) (λr s13 hr=>?_) λ_ _ z=>z
      obtain ⟨hr,I13⟩:=hr
      subst hr
      exact ⟨rfl,again I13 qn2⟩
     ·refine wpAny_mono (T2.item (cxC X N' scope h3.objs.size { s2 with heap:=h3 } H3 fp pins) rfl rfl rfl hcalm j _ s12 σ12 H12 (λ_ _=>False) I12 (stat2 fr12) st12 go2) (λr s13 hr=>?_) λ_ _ z=>z
      obtain ⟨u2,hr,h13⟩:=hr
      subst hr
      refine wpAny_mono h13 (λ_ s14 h14=>?_) λ_ _ z=>z
      obtain ⟨x2,H14,I14,r14,y14,st14,fr14⟩:=h14
      have I14':=I14.pinned (stat2 fr14) (T2.obj _ _ st14)
      refine wpAny_mono (hg2 _ _ _ _ _ _ s14 σ12 H14 x2 u2 _ I14' r14 (step2 x2 H14 y14)) (λ_ s15 h15=>?_) λ_ _ z=>z
      obtain ⟨σ15,H15,I15,q15⟩:=h15
      have again2:∀{H16:Hp} {s16:Shared},Inv (cxC X N' scope h3.objs.size { s2 with heap:=h3 } H3 fp pins) (([]++zcz fp s7.heap)++zcz fp2 s14.heap) σ15 H16 s16->N2 σ15 H16->∃m,m<k/\∃j σ' H',Inv (cxC X N' scope h3.objs.size { s2 with heap:=h3 } H3 fp pins) ([]++zcz fp s7.heap) σ' H' s16/\tn2 j s16.heap/\(∀b∈fp2,H' b=none)/\W2 j m σ' H':=λ{H16 s16} I16 n16=>by
       obtain ⟨m',hm,w16⟩:=hN2 σ15 H16 n16
       refine ⟨m',hm,j+1,σ15,H16,I16.unpinned,T2.keep _ _ _ st14 λb hb o e=>(I16.pin (b,o) (List.mem_append_right _ (List.mem_append_right _ (zc9 hb e)))).1,λb hb=>?_,w16⟩
       obtain ⟨o,e,d⟩:=T2.obj _ _ st14 b hb
       exact (I16.pin (b,o) (List.mem_append_right _ (List.mem_append_right _ (zc9 hb e)))).2.1
      refine wpAny_mono (ht2 _ _ _ _ _ _ s15 σ15 H15 _ I15 q15) (λok s16 h16=>?_) λ_ _ z=>z
      obtain ⟨H16,I16,q16⟩:=h16
      cases ok with
      | false=>exact again2 I16 q16
      | true =>
       refine wpAny_mono (he _ _ _ _ _ _ s16 σ15 H16 _ I16 q16) (λy s17 h17=>?_) λ_ _ z=>z
       obtain ⟨vy,H17,I17,r17,ys,hys,hz,nx⟩:=h17
       refine wpAny_mono (zk3 (X:=cxC X N' scope h3.objs.size { s2 with heap:=h3 } H3 fp pins) _ s17 σ15 H17 (.ref D) [vy] (.ref D) [y] (λ_ H'=>N2 σ15 H') I17 rfl (.cons r17 .nil) ⟨D,ys,vy,rfl,rfl,hys,hz,nx⟩) (λ_ s18 h18=>?_) λ_ _ z=>z
       obtain ⟨_,H18,I18,_,n18⟩:=h18
       exact again2 I18 n18
    exact yb6 inner (T2.self _ 0 _ _ _ st11 inner)
 exact codeAny_compStart_list loop (T.self _ 0 _ _ _ st4 loop)
theorem yca {X:Cx}{N':List Str}{elt iter tgt iter2 tgt2:Expr}{ifs ifs2:List Expr}{scope:Scope}{pos:Pos}{wi wi2:TI}{src:St->St}{g g2:TG}{tts tts2:TT}{t:TE}(hcalm:X.calm=true) (sc:CompSc X N' scope src)
  (hi:PI X tgt iter wi) (hg:∀C s H fp pins,PG (cxC X N' scope C s H fp pins) tgt g) (ht:∀C s H fp pins,PTs (cxC X N' scope C s H fp pins) ifs tts) (he:∀C s H fp pins,PE (cxC X N' scope C s H fp pins) elt t)
  (hi2:∀C s H fp pins,PI (cxC X N' scope C s H fp pins) tgt2 iter2 wi2) (hg2:∀C s H fp pins,PG (cxC X N' scope C s H fp pins) tgt2 g2) (ht2:∀C s H fp pins,PTs (cxC X N' scope C s H fp pins) ifs2 tts2)
  (hs:∀x,foldedSetIterable iter X.env x=pure x) (hs2:∀C s H fp pins x,foldedSetIterable iter2 (cxC X N' scope C s H fp pins).env x=pure x) :
  PE X (.ListComp elt [⟨tgt,iter,ifs,0⟩,⟨tgt2,iter2,ifs2,0⟩] scope pos) (zmk X.K wi src g tts wi2 g2 tts2 t):=by
 intro pins s σ H Q I h
 rw [eval_ListComp]
 refine yb9 (use:=none) hcalm sc hi hg ht he hi2 hg2 ht2 hs hs2 I h λD H5 s6 C mC IX fp hn q=>⟨mC,hn,λh'' sb=>⟨.ref D,H5,?_,rfl,q⟩⟩
 exact IX.turned (t':=s6.toks) (λb o hb e=>sb.extBut b o hb e) fp.1 fp.2.1 fp.2.2.2.1 fp.2.2.2.2.1 fp.2.2.2.2.2
abbrev RM:=Lo->Sto->Option ((Int × Nat) × Sto)
inductive tr (K:QFg) (r:RM) (σ:St) (H:Hp) (R:It->Hp->Prop):Prop
 | mk (ρ:_) (l:_) (S:_) (lo:_) (n:_) (S':_) (_:Sim K ρ S H) (_:RO ρ H l σ) (_:r l S=some ((lo,n),S')) (_:∀ρ' H',Ext ρ H ρ' H'->Sim K ρ' S' H'->R (Itr lo n) H')
def PR3 (X:Cx) (tgt iter:Expr) (r:RM):Prop:=PI X tgt iter (tr X.K r)
section
theorem ycb (hgl:Gl X "range") (hmg:X.mg "range" = none) (ha:PA3 X [a,a2] mA) (hst:starEach [a,a2] X.env=[(false,eval a X.env),(false,eval a2 X.env)]:=by rfl) (hst2:starEach [a2] X.env=[(false,eval a2 X.env)]:=by rfl):PR3 X tgt (.Call (.Name "range" p0) [a,a2] [] pos') (zgw mA) :=
 PI.imp (zv2 hgl hmg ha hst hst2) λσ H R hx2_=>by
  obtain ⟨ρ,l,S,lo,n,S',sim,ro,q1,p⟩:=hx2_
  obtain ⟨⟨xs,S2⟩,q2,q1⟩:=bnd q1
  dsimp only at q1
  split at q1
  ·rename_i i0 j
   obtain ⟨hz,e⟩:=zbe q1
   cases e
   refine ⟨ρ,l,S,[.int lo,.int j],_,sim,ro,q2,λρ1 H1 vs e1 s1 r1=>?_⟩
   obtain ⟨v,u,rfl,rv,ru⟩:=r1.two
   cases rv;cases ru
   exact ⟨lo,j,rfl,hz,p ρ1 H1 e1 s1⟩
  ·cases q1
end
noncomputable def zcy (xs:List D) (g:GM) (t:TM) (e:EM):Nat->Nat->Lo->Sto->Option (List D × Lo × Sto)
 | 0,_,_,_=>none
 | k+1,i,l,S=>match xs[i]? with
  | none=>some ([],l,S)
  | some x=>(g x l S).bind λp=>(t p.1 p.2).bind λq=>if q.1=true then (e p.1 q.2).bind λr=>(zcy xs g t e k (i+1) p.1 r.2).bind λz=>some (r.1 :: z.1,z.2) else zcy xs g t e k (i+1) p.1 q.2
noncomputable def zc6 (it:ItM) (g:GM) (t:TM) (r:RM) (g2:GM) (t2:TM) (e:EM):Nat->Nat->Lo->Sto->Option (List D × Sto)
 | 0,_,_,_=>none
 | k+1,i,l,S=>(it i S).bind λo=>match o with
  | none=>some ([],S)
  | some x=>(g x l S).bind λp=>(t p.1 p.2).bind λq=>if q.1=true then (r p.1 q.2).bind λy=>(zcy (zau y.1.1 y.1.2) g2 t2 e (y.1.2+1) 0 p.1 y.2).bind λu=>(zc6 it g t r g2 t2 e k (i+1) u.2.1 u.2.2).bind λz=>some (u.1++z.1,z.2) else zc6 it g t r g2 t2 e k (i+1) p.1 q.2
noncomputable def zjy (im:IM) (ixs:List (Option Nat)) (g:GM) (t:TM) (r:RM) (g2:GM) (t2:TM) (e:EM):EM:=λl S=>(im l S).bind λp=>(zc6 p.1 g t r g2 t2 e p.2.1 0 (za2 ixs l) p.2.2).bind λz=>if z.1.length<=sizeLine then some (.ref z.2.length,z.2++[.lst z.1]) else none
inductive CI2 (K:QFg) (it:ItM) (g:GM) (t:TM) (r:RM) (g2:GM) (t2:TM) (e:EM) (S2:Sto) (all:List D) (ρ1:List Addr) (H1:Hp) (Da:Addr) (i m:Nat) (σ':St) (H':Hp):Prop
 | mk (ρ':List Addr) (l':Lo) (S':Sto) (ds:List D) (vs:List V) (rest:List D) (_:Ext ρ1 H1 ρ' H') (_:Sim K ρ' S' H') (_:RO ρ' H' l' σ') (_:H' Da=some (.lst vs)) (_:(∀n:Nat,ρ'[n]?≠some Da)) (_:RDs ρ' H' ds vs) (_:zc6 it g t r g2 t2 e m i l' S' = some (rest,S2)) (_:ds++rest=all)
inductive CI2i (K:QFg) (lo:Int) (n:Nat) (g2:GM) (t2:TM) (e:EM) (l6:Lo) (S6:Sto) (rest' all:List D) (ρ1:List Addr) (H1:Hp) (Da:Addr) (i m:Nat) (σ':St) (H':Hp):Prop
 | mk (ρ':List Addr) (l':Lo) (S':Sto) (ds:List D) (vs:List V) (rest2:List D) (_:Ext ρ1 H1 ρ' H') (_:Sim K ρ' S' H') (_:RO ρ' H' l' σ') (_:H' Da=some (.lst vs)) (_:(∀n:Nat,ρ'[n]?≠some Da)) (_:RDs ρ' H' ds vs) (_:zcy (zau lo n) g2 t2 e m i l' S' = some (rest2,l6,S6)) (_:ds++rest2++rest' = all)
theorem ycc {K:QFg}{im:IM}{ixs:List (Option Nat)}{g g2:GM}{t t2:TM}{r:RM}{e:EM}(σ:St) (H:Hp) (Q:VK) (q:te K (zjy im ixs g t r g2 t2 e) σ H Q):zmk K (ti K im) (za2 ixs) (tg K g) (tt K t) (tr K r) (tg K g2) (tt K t2) (te K e) σ H Q:=by
 obtain ⟨ρ,l,S,v,S',sim,ro,hm,p⟩:=q
 obtain ⟨⟨it,k,S1⟩,q1,hm⟩:=bnd hm
 obtain ⟨⟨all,S2⟩,q2,hm⟩:=bnd hm
 obtain ⟨hz,he⟩:=zbe hm
 cases he
 refine ⟨ρ,l,S,it,k,S1,sim,ro,q1,λρ1 H1 J e1 s1 io D hD hK=>?_⟩
 dsimp only at q2 hz p
 refine ⟨λi m σ' H'=>CI2 K it g t r g2 t2 e S2 all ρ1 H1 D i m σ' H',⟨k,?_⟩,?_⟩
 ·exact ⟨ρ1,za2 ixs l,S1,[],[],all,zbh hD,s1.laid hD,(zjc ixs (ro.mono e1)).mono (zbh hD),zbw,s1.notin hD hK,.nil,q2,rfl⟩
 ·rintro i m σ' H' ⟨ρ',l',S',ds,vs,rest,e2,s2,ro2,hD2,hn2,rd2,hc,hall⟩
  cases m with
  | zero=>cases hc
  | succ m =>
   unfold zc6 at hc
   obtain ⟨o,ho,hc⟩:=bnd hc
   obtain ⟨iStop,iGo⟩:=io i ρ' S' H' e2 s2
   cases o with
   | none =>
    cases hc
    rw [List.append_nil] at hall
    subst hall
    refine .inl ⟨iStop ho,p (ρ'++[D]) H' (.ref D) (e1.trans (e2.adopt hD)) (s2.adopt hD2 hn2 rd2) (.ref ?_)⟩
    rw [<-s2.len];exact zfe ρ' D
   | some x =>
    obtain ⟨⟨l3,S3⟩,q3,hc⟩:=bnd hc
    obtain ⟨⟨b,S4⟩,q4,hc⟩:=bnd hc
    obtain ⟨hgo,hy⟩:=iGo x ho
    refine .inr ⟨hgo,_,λσ' H' h=>h,λy H'' hyl=>?_⟩
    obtain ⟨rfl,ry⟩:=hy y H'' hyl
    refine ⟨ρ',l',S',x,l3,S3,s2,ro2,ry,q3,λρ3 H3 σ3 e3 s3 ro3=>⟨ρ3,l3,S3,b,S4,s3,ro3,q4,λρ4 H4 e4 s4=>?_⟩⟩
    obtain ⟨hD3,hn3⟩:=e3.out D _ hD2 hn2
    obtain ⟨hD4,hn4⟩:=e4.out D _ hD3 hn3
    cases b with
    | false=>exact zd1 ⟨m,Nat.lt_succ_self m,ρ4,l3,S4,ds,vs,rest,e2.trans (e3.trans e4),s4,ro3.mono e4,hD4,hn4,rd2.mono (e3.trans e4),hc,hall⟩
    | true =>
     have hc:((r l3 S4).bind λy=>(zcy (zau y.1.1 y.1.2) g2 t2 e (y.1.2+1) 0 l3 y.2).bind λu=>(zc6 it g t r g2 t2 e m (i+1) u.2.1 u.2.2).bind λz=>some (u.1++z.1,z.2))=some (rest,S2):=hc
     obtain ⟨⟨⟨lo,n⟩,S5⟩,q5,hc⟩:=bnd hc
     obtain ⟨⟨r1,l6,S6⟩,q6,hc⟩:=bnd hc
     obtain ⟨⟨rest',S7⟩,q7,hc⟩:=bnd hc
     cases hc
     dsimp only at q6 q7
     refine zd2 ⟨ρ4,l3,S4,lo,n,S5,s4,ro3.mono e4,q5,λρ5 H5 e5 s5=>?_⟩
     obtain ⟨hD5,hn5⟩:=e5.out D _ hD4 hn4
     refine ⟨λj m2 σ' H'=>CI2i K lo n g2 t2 e l6 S6 rest' all ρ1 H1 D j m2 σ' H',⟨n+1,?_⟩,?_⟩
     ·exact ⟨ρ5,l3,S5,ds,vs,r1,e2.trans (e3.trans (e4.trans e5)),s5,(ro3.mono e4).mono e5,hD5,hn5,rd2.mono (e3.trans (e4.trans e5)),q6,by rw [<-hall,List.append_assoc]⟩
     ·rintro j m2 σ6 H6 ⟨ρ6,l7,S8,ds6,vs6,rest6,e6,s6,ro6,hD6,hn6,rd6,hc6,hall6⟩
      cases m2 with
      | zero=>cases hc6
      | succ m2 =>
       unfold zcy at hc6
       cases hx:(zau lo n)[j]? with
       | none =>
        rw [hx] at hc6
        cases hc6
        have hj:n<=j:=by
         have:=List.getElem?_eq_none_iff.mp hx
         simpa [zau] using this
        rw [List.append_nil] at hall6
        exact .inl ⟨hj,m,Nat.lt_succ_self m,ρ6,l6,S6,ds6,vs6,rest',e6,s6,ro6,hD6,hn6,rd6,q7,hall6⟩
       | some y =>
        rw [hx] at hc6
        obtain ⟨hj,hy⟩:j<n/\y=.int (lo+j):=by
         have hl:=(qme hx).1
         simp only [zau,qlm,List.length_range] at hl
         unfold zau at hx
         rw [qgm,List.getElem?_range hl] at hx
         cases hx
         exact ⟨hl,rfl⟩
        subst hy
        obtain ⟨⟨l9,S9⟩,q9,hc6⟩:=bnd hc6
        obtain ⟨⟨b9,S10⟩,q10,hc6⟩:=bnd hc6
        refine .inr ⟨hj,_,λσ' H' h=>h,λz H'' ⟨hz1,hz2⟩=>?_⟩
        subst hz1
        rw [hz2]
        refine ⟨ρ6,l7,S8,_,l9,S9,s6,ro6,.int _,q9,λρ7 H7 σ7 e7 s7 ro7=>⟨ρ7,l9,S9,b9,S10,s7,ro7,q10,λρ8 H8 e8 s8=>?_⟩⟩
        obtain ⟨hD7,hn7⟩:=e7.out D _ hD6 hn6
        obtain ⟨hD8,hn8⟩:=e8.out D _ hD7 hn7
        cases b9 with
        | false=>exact zd1 ⟨m2,Nat.lt_succ_self m2,ρ8,l9,S10,ds6,vs6,rest6,e6.trans (e7.trans e8),s8,ro7.mono e8,hD8,hn8,rd6.mono (e7.trans e8),hc6,hall6⟩
        | true =>
         have hc6:((e l9 S10).bind λr=>(zcy (zau lo n) g2 t2 e m2 (j+1) l9 r.2).bind λz=>some (r.1 :: z.1,z.2))=some (rest6,l6,S6):=hc6
         obtain ⟨⟨y5,S11⟩,q11,hc6⟩:=bnd hc6
         obtain ⟨⟨rest7,l12,S12⟩,q12,hc6⟩:=bnd hc6
         cases hc6
         refine zd2 ⟨ρ8,l9,S10,y5,S11,s8,ro7.mono e8,q11,λρ9 H9 v9 e9 s9 r9=>?_⟩
         obtain ⟨hD9,hn9⟩:=e9.out D _ hD8 hn8
         have e69:=e6.trans (e7.trans (e8.trans e9))
         have rd9:=rd6.mono (e7.trans (e8.trans e9))
         have hlen:vs6.length<sizeLine:=by
          have h1:=rd9.length
          have h2:=congrArg List.length hall6
          rw [qla,qla,List.length_cons] at h2
          omega
         refine ⟨vs6,hD9,hlen,m2,Nat.lt_succ_self m2,ρ9,l9,S11,ds6++[y5],vs6++[v9],rest7,e69.beside hD hD9,s9.beside hD9 hn9,?_,zbw,hn9,((rd9.append (.cons r9 .nil)).mono0 (zgr hD9)),q12,by rw [<-hall6];simp⟩
         have r0:=(ro7.mono e8).mono e9
         exact ⟨r0.len,λi d h=>let ⟨w,h1,h2⟩:=r0.get i d h;⟨w,h1,h2.mono0 (zgr hD9)⟩⟩
theorem ycd {X:Cx}{N':List Str}{elt iter tgt iter2 tgt2:Expr}{ifs ifs2:List Expr}{scope:Scope}{pos:Pos}{im:IM}{ixs:List (Option Nat)}{g g2:GM}{t t2:TM}{r:RM}{e:EM}(hcalm:X.calm=true) (sc:CompSc X N' scope (za2 ixs))
  (hi:PI3 X tgt iter im) (hg:∀C s H fp pins,PG3 (cxC X N' scope C s H fp pins) tgt g) (ht:∀C s H fp pins,PTs (cxC X N' scope C s H fp pins) ifs (tt X.K t))
  (hi2:∀C s H fp pins,PR3 (cxC X N' scope C s H fp pins) tgt2 iter2 r) (hg2:∀C s H fp pins,PG3 (cxC X N' scope C s H fp pins) tgt2 g2) (ht2:∀C s H fp pins,PTs (cxC X N' scope C s H fp pins) ifs2 (tt X.K t2))
  (he:∀C s H fp pins,PE3 (cxC X N' scope C s H fp pins) elt e)
  (hs:∀x,foldedSetIterable iter X.env x=pure x:=by intro _;rfl) (hs2:∀C s H fp pins x,foldedSetIterable iter2 (cxC X N' scope C s H fp pins).env x=pure x:=by intro _ _ _ _ _ _;rfl) :
  PE3 X (.ListComp elt [⟨tgt,iter,ifs,0⟩,⟨tgt2,iter2,ifs2,0⟩] scope pos) (zjy im ixs g t r g2 t2 e) :=
 PE.imp (yca (g:=tg X.K g) (g2:=tg X.K g2) (tts:=tt X.K t) (tts2:=tt X.K t2) (t:=te X.K e) hcalm sc hi hg ht he (wi2:=tr X.K r) hi2 hg2 ht2 hs hs2) ycc
theorem Inv.turnedL {X:Cx}{pins:List (Addr × Obj)}{σ:L2.St}{H:Hp}{s:Shared}{h':Heap}{t':Nat}{ch:List Addr}(I:Inv X pins σ H s) (hf:∀b∈ch,zby X pins H b) (k:∀b o,b ∉ ch->s.heap.get? b=some o->h'.get? b=some o):Inv X pins σ H { s with heap:=h',toks:=t' }:=by
 have nf:∀b u,H b=some u->b ∉ ch:=λb u e z=>by rw [(hf b z).1] at e;cases e
 refine I.step (g':=s.gens) (d':=s.drawn) (ch:=ch) (λb hb=>?_) (λb o _ _ hc e _=>k b o hc e) (λb o _ _ hc e _=>⟨o.slots,k b o hc e⟩) (λ_ _ _ _ n=>n) (λb o hc e=>⟨o,k b o hc e⟩) (λ_ _ e=>e) (λ_ _ _ e=>e) (λb ps e=>⟨#[],by rw [e];simp⟩) (λm hm=>?_) (λb u e=>?_) I.bare
 ·obtain ⟨_,q1,_,q3,q4,q5⟩:=hf b hb
  exact ⟨q3,q1,q4,q5⟩
 ·obtain ⟨o,es,ep,ho,q⟩:=hm
  exact ⟨o,es,ep,k _ o (λz=>(hf _ z).2.1 rfl) ho,q⟩
 ·refine (I.hok b u e).stay (λc v hc q=>k c v ?_ q) (λ_ q=>q) λ_ _ q=>q
  rcases hc with z|z
  ·rw [z];exact nf b u e
  ·exact nf c _ z
section
variable {prog:Program}{w:World}{A:Around}{E:Value->Shared->Prop}{s:Shared}
variable {z TI TO i1 i2 c1 c2:Addr}{n1 n2 k:Nat}{P1 P2:Nat->Value->Prop}{T1 T2:Nat->Heap->Prop}{a b:Value}
theorem fr1 (D1:Draws prog w A i1 [i1,c1] n1 P1 T1) (st:T1 k h) (sb:Heap.ExtBut x h h') (n1':i1≠x) (n2':c1≠x):T1 k h':=D1.frame k h h' st λb hb o e=>by
 have hb:b=i1\/b=c1:=by simpa using hb
 rcases hb with rfl|rfl
 ·exact sb _ _ n1' e
 ·exact sb _ _ n2' e
theorem yce {Q:Value->Shared->Prop}(D1:Draws prog w A i1 [i1,c1] n1 P1 T1) (D2:Draws prog w A i2 [i2,c2] n2 P2 T2) (G:ZipApart z TI TO i1 i2 c1 c2) (hz:IsZip s.heap z TI TO .none) (hI:IsPair s.heap TI (.ref i1) (.ref i2)) (hO:IsPair s.heap TO a b)
  (h1:T1 k s.heap) (h2:T2 k s.heap) (k1:k<n1) (k2:k<n2)
  (hQ:∀x y h' tk,P1 k x->P2 k y->IsZip h' z TI TO (rawInt s.heap.objs.size)->IsPair h' TO x y->T1 (k+1) h'->T2 (k+1) h'->IsPair h' s.heap.objs.size x y ->
   (∀c o,c≠z->c≠TO->c≠i1->c≠i2->s.heap.get? c=some o->h'.get? c=some o)->Q (.ref s.heap.objs.size) { s with heap:=h',toks:=tk }) :
  wpAny (model prog w) A (Builtin.«zip.__next__» ⟨[.ref z],[]⟩) (λfin s'=>∃v,fin=.done (.ret v)/\Q v s') E s:=by
 show wpAny _ _ (field (.ref z) 2 >>= _) _ _ _
 refine qwb (wpAny_field hz rfl (x:=.bool false) rfl ?_)
 show wpAny _ _ (field (.ref z) 3 >>= _) _ _ _
 refine qwb (wpAny_field hz rfl (x:=.ref TI) rfl (qwb (wpAny_seqItems hI rfl ?_)))
 show wpAny _ _ (Builtin.SmallTypes.ownedTupleIsFree (.ref z) >>= _) _ _ _
 refine qwb ?_
 unfold Builtin.SmallTypes.ownedTupleIsFree
 refine qwb (wpAny_field hz rfl (x:=.none) rfl (qwp ?_))
 simp only [if_true]
 refine qwb (wpAny_rule (qwb (wpAny_field hz rfl (x:=.ref TO) rfl (qwb (wpAny_setField_rec hz (by simp) λg1 z1 s1=>?_)))))
 replace z1:IsZip g1 z TI TO .ellipsis:=z1
 refine qwb ?_
 simp only [List.zipIdx_cons,List.zipIdx_nil,List.forIn_cons,List.forIn_nil]
 refine qwb (qwb (wpAny_onRaise ?_))
 show wpAny _ _ (Builtin.SmallTypes.nextOf (.ref i1) >>= _) _ _ _
 refine qwb (D1.item k _ _ _ k1 (fr1 D1 h1 s1.extBut G.i1z G.l1z) λx g2 tk2 px t1 s2=>qwp ?_)
 have o2:IsPair g2 TO a b:=s2.extBut _ _ G.TOi1 (s1.extBut _ _ G.TOz hO)
 refine qwb (wpAny_seqItems o2 rfl (qwb (wpAny_updateSeq_pair o2 λg3 o3 s3=>?_)))
 replace o3:IsPair g3 TO x b:=o3
 refine qwb (wpAny_letGo (qwp (qwb (qwb (wpAny_onRaise ?_)))))
 show wpAny _ _ (Builtin.SmallTypes.nextOf (.ref i2) >>= _) _ _ _
 have t2:T2 k g3:=fr1 D2 (fr1 D2 (fr1 D2 h2 s1.extBut G.i2z G.l2z) s2.extBut G.i12.symm G.l2i1) s3.extBut G.TOi2.symm G.l2TO
 refine qwb (D2.item k _ _ _ k2 t2 λy g4 tk4 py u2 s4=>qwp ?_)
 have o4:IsPair g4 TO x b:=s4.extBut _ _ G.TOi2 o3
 refine qwb (wpAny_seqItems o4 rfl (qwb (wpAny_updateSeq_pair o4 λg5 o5 s5=>?_)))
 replace o5:IsPair g5 TO x y:=o5
 refine qwb (wpAny_letGo (qwp (qwp (qwb (wpAny_seqItems o5 rfl (qwb (wpAny_newTuple ?_)))))))
 have sz:g5.objs.size=s.heap.objs.size:=by rw [s5.1,s4.1,s3.1,s2.1,s1.1]
 have z5:IsZip g5 z TI TO .ellipsis:=s5.extBut _ _ G.TOz.symm (s4.extBut _ _ G.i2z.symm (s3.extBut _ _ G.TOz.symm (s2.extBut _ _ G.i1z.symm z1)))
 have old5:∀c o,c≠z->c≠TO->c≠i1->c≠i2->s.heap.get? c=some o->g5.get? c=some o:=λc o q1 q2 q3 q4 e=>s5.extBut _ _ q2 (s4.extBut _ _ q4 (s3.extBut _ _ q2 (s2.extBut _ _ q3 (s1.extBut _ _ q1 e))))
 have v1:T1 (k+1) g5:=fr1 D1 (fr1 D1 (fr1 D1 t1 s3.extBut G.TOi1.symm G.l1TO) s4.extBut G.i12 G.l1i2) s5.extBut G.TOi1.symm G.l1TO
 have v2:T2 (k+1) g5:=fr1 D2 u2 s5.extBut G.TOi2.symm G.l2TO
 have zl:z<g5.objs.size:=Heap.lt_size z5
 show wpAny _ _ (Builtin.SmallTypes.ownedTupleHandOut (.ref z) (.ref g5.objs.size) >>= _) _ _ _
 refine qwb ?_
 unfold Builtin.SmallTypes.ownedTupleHandOut
 have z6:IsZip (g5.push { cls:=.type "tuple",data:=.seq #[x,y] }) z TI TO .ellipsis:=qps _ z5
 refine qwb (wpAny_setField_rec z6 (by simp) λg7 z7 s7=>?_)
 replace z7:IsZip g7 z TI TO (rawInt g5.objs.size):=z7
 refine wpAny_setField_rec z7 (by simp) λg8 z8 s8=>?_
 replace z8:IsZip g8 z TI TO (rawInt g5.objs.size):=z8
 have rise:∀c o,c≠z->g5.get? c=some o->g8.get? c=some o:=λc o q e=>s8.extBut _ _ q (s7.extBut _ _ q (qps _ e))
 have pr8:IsPair g8 g5.objs.size x y:=s8.extBut _ _ (Nat.ne_of_gt zl) (s7.extBut _ _ (Nat.ne_of_gt zl) (Heap.get?_push_size _ rfl))
 rw [sz] at z8 pr8
 refine qwp ⟨_,rfl,?_⟩
 show Q (.ref g5.objs.size) _
 rw [sz]
 exact hQ x y g8 _ px py z8 (rise _ _ G.TOz o5) (fr1 D1 v1 (x:=z) (λc o q e=>rise c o q e) G.i1z G.l1z) (fr1 D2 v2 (x:=z) (λc o q e=>rise c o q e) G.i2z G.l2z) pr8 λc o q1 q2 q3 q4 e=>rise c o q1 (old5 c o q1 q2 q3 q4 e)
theorem ycf (D1:Draws prog w A i1 [i1,c1] n1 P1 T1) (G:ZipApart z TI TO i1 i2 c1 c2) (hz:IsZip s.heap z TI TO .none) (hI:IsPair s.heap TI (.ref i1) (.ref i2)) (hO:IsPair s.heap TO a b)
  (h1:T1 k s.heap) (hend:k=n1\/k<n1/\∃P2 T2,Draws prog w A i2 [i2,c2] k P2 T2/\T2 k s.heap)
  (hE:∀h' e tk,(∀c o,c≠z->c≠TO->c≠i1->c≠i2->s.heap.get? c=some o->h'.get? c=some o)->(∃o,h'.get? e=some o/\o.cls=.type "StopIteration")->E (.ref e) { s with heap:=h',toks:=tk }) :
  wpAny (model prog w) A (Builtin.«zip.__next__» ⟨[.ref z],[]⟩) Q E s:=by
 show wpAny _ _ (field (.ref z) 2 >>= _) _ _ _
 refine qwb (wpAny_field hz rfl (x:=.bool false) rfl ?_)
 show wpAny _ _ (field (.ref z) 3 >>= _) _ _ _
 refine qwb (wpAny_field hz rfl (x:=.ref TI) rfl (qwb (wpAny_seqItems hI rfl ?_)))
 show wpAny _ _ (Builtin.SmallTypes.ownedTupleIsFree (.ref z) >>= _) _ _ _
 refine qwb ?_
 unfold Builtin.SmallTypes.ownedTupleIsFree
 refine qwb (wpAny_field hz rfl (x:=.none) rfl (qwp ?_))
 simp only [if_true]
 refine qwb (wpAny_rule (qwb (wpAny_field hz rfl (x:=.ref TO) rfl (qwb (wpAny_setField_rec hz (by simp) λg1 z1 s1=>?_)))))
 replace z1:IsZip g1 z TI TO .ellipsis:=z1
 refine qwb ?_
 simp only [List.zipIdx_cons,List.zipIdx_nil,List.forIn_cons,List.forIn_nil]
 refine qwb (qwb (wpAny_onRaise ?_))
 show wpAny _ _ (Builtin.SmallTypes.nextOf (.ref i1) >>= _) _ _ _
 have q1:=fr1 D1 h1 s1.extBut G.i1z G.l1z
 rcases hend with rfl|⟨k1,P2,T2,D2,h2⟩
 ·refine qwb (D1.done _ _ _ q1 λg2 e s2 he=>?_)
  obtain ⟨oe,hoe,hce⟩:=he
  have z2:IsZip g2 z TI TO .ellipsis:=s2 _ _ G.i1z.symm z1
  have ez:e≠z:=λx=>by subst x;rw [z2] at hoe;cases hoe;simp at hce
  refine wpAny_setField_rec z2 (by simp) λg3 _ s3=>hE g3 e _ (λc o c1 _ c3 _ x=>s3.extBut _ _ c1 (s2 _ _ c3 (s1.extBut _ _ c1 x))) ⟨oe,s3.extBut _ _ ez hoe,hce⟩
 ·refine qwb (D1.item k _ _ _ k1 q1 λx g2 tk2 px t1 s2=>qwp ?_)
  have o2:IsPair g2 TO a b:=s2.extBut _ _ G.TOi1 (s1.extBut _ _ G.TOz hO)
  refine qwb (wpAny_seqItems o2 rfl (qwb (wpAny_updateSeq_pair o2 λg3 o3 s3=>?_)))
  refine qwb (wpAny_letGo (qwp (qwb (qwb (wpAny_onRaise ?_)))))
  show wpAny _ _ (Builtin.SmallTypes.nextOf (.ref i2) >>= _) _ _ _
  have t2:T2 k g3:=fr1 D2 (fr1 D2 (fr1 D2 h2 s1.extBut G.i2z G.l2z) s2.extBut G.i12.symm G.l2i1) s3.extBut G.TOi2.symm G.l2TO
  refine qwb (D2.done _ _ _ t2 λg4 e s4 he=>?_)
  obtain ⟨oe,hoe,hce⟩:=he
  have z4:IsZip g4 z TI TO .ellipsis:=s4 _ _ G.i2z.symm (s3.extBut _ _ G.TOz.symm (s2.extBut _ _ G.i1z.symm z1))
  have ez:e≠z:=λx=>by subst x;rw [z4] at hoe;cases hoe;simp at hce
  refine wpAny_setField_rec z4 (by simp) λg5 _ s5=>hE g5 e _ (λc o q1 q2 q3 q4 x=>s5.extBut _ _ q1 (s4 _ _ q4 (s3.extBut _ _ q2 (s2.extBut _ _ q3 (s1.extBut _ _ q1 x))))) ⟨oe,s5.extBut _ _ ez hoe,hce⟩
end
section
variable {prog:Program}{w:World}{A:Around}{E:Value->Shared->Prop}{s:Shared}
variable {z TI TO i1 i2 c1 c2:Addr}{n1 n2 k:Nat}{P1 P2:Nat->Value->Prop}{T1 T2:Nat->Heap->Prop}{a b:Value}
theorem ycg (D1:Draws prog w A.in1 i1 [i1,c1] n1 P1 T1) (D2:Draws prog w A.in1 i2 [i2,c2] n2 P2 T2) (G:ZipApart z TI TO i1 i2 c1 c2) (hz:IsZip s.heap z TI TO .none) (hI:IsPair s.heap TI (.ref i1) (.ref i2)) (hO:IsPair s.heap TO a b)
  (h1:T1 k s.heap) (h2:T2 k s.heap) (k1:k<n1) (k2:k<n2)
  (hQ:∀x y h' tk,P1 k x->P2 k y->IsZip h' z TI TO (rawInt s.heap.objs.size)->IsPair h' TO x y->T1 (k+1) h'->T2 (k+1) h'->IsPair h' s.heap.objs.size x y ->
   (∀c o,c≠z->c≠TO->c≠i1->c≠i2->s.heap.get? c=some o->h'.get? c=some o)->Q (some (.ref s.heap.objs.size)) { s with heap:=h',toks:=tk }) :
  wpAny (model prog w) A (pyNext (.ref z)) Q E s:=by
 have hT:s.TypeIs (.ref z) "zip":=⟨_,hz,rfl⟩
 unfold pyNext
 exact qwb (wpAny_attempt (wpAny_callSpecial?_slot (name:=Str.ofString "__next__") hT F.slot_zip_next (wpAny_call_entry F.slot_zip_next hT F.entry_zip_next (yce D1 D2 G hz hI hO h1 h2 k1 k2 λx y h' tk p1 p2 p3 p4 p5 p6 p7 p8=>qwp (hQ x y h' tk p1 p2 p3 p4 p5 p6 p7 p8)) (F.args_zip_next_1 _))))
theorem zqp (D1:Draws prog w A.in1 i1 [i1,c1] n1 P1 T1) (G:ZipApart z TI TO i1 i2 c1 c2) (hz:IsZip s.heap z TI TO .none) (hI:IsPair s.heap TI (.ref i1) (.ref i2)) (hO:IsPair s.heap TO a b)
  (h1:T1 k s.heap) (hend:k=n1\/k<n1/\∃P2 T2,Draws prog w A.in1 i2 [i2,c2] k P2 T2/\T2 k s.heap)
  (hQ:∀h' tk,(∀c o,c≠z->c≠TO->c≠i1->c≠i2->s.heap.get? c=some o->h'.get? c=some o)->Q none { s with heap:=h',toks:=tk }):wpAny (model prog w) A (pyNext (.ref z)) Q E s:=by
 have hT:s.TypeIs (.ref z) "zip":=⟨_,hz,rfl⟩
 unfold pyNext
 refine qwb (wpAny_attempt (wpAny_callSpecial?_slot (name:=Str.ofString "__next__") hT F.slot_zip_next (wpAny_call_entry F.slot_zip_next hT F.entry_zip_next (ycf D1 G hz hI hO h1 hend λh' e tk hk he=>?_) (F.args_zip_next_1 _))))
 obtain ⟨o,ho,hc⟩:=he
 exact qwb (wpAny_isInstance (T:="StopIteration") (b:=true) ⟨o,ho,hc⟩ isSubtype_stop (qwp (hQ _ _ hk)))
end
structure Zs (P:Program) (w:World) (K:QFg) (J:It) (b a:Addr) (tn:Nat->Heap->Prop):Prop where
 obj:∀i h,tn i h->∃o,h.get? b=some o/\∀v,o.data≠.cell v
 keep:∀i h h',tn i h->(∀o,h.get? b=some o->h'.get? b=some o)->tn i h'
 go:∀(X:Cx),X.prog=P->X.w=w->X.K=K->X.calm=true->∀(i:Nat) (pins:List (Addr × Obj)) (s:Shared) (σ:L2.St) (H:Hp),Inv X pins σ H s->tn i s.heap->J.go i H ->
  ∃n Pv St,Draws P w X.A.in1 b [b,a] n Pv St/\St i s.heap/\i<n/\(∀h',St (i+1) h'->tn (i+1) h')/\∀u,Pv i u->∃x,RelV x u/\J.yld i H x H
 stop:∀(X:Cx),X.prog=P->X.w=w->X.K=K->X.calm=true->∀(i:Nat) (pins:List (Addr × Obj)) (s:Shared) (σ:L2.St) (H:Hp),Inv X pins σ H s->tn i s.heap->J.stop i H ->
  ∃Pv St,Draws P w X.A.in1 b [b,a] i Pv St/\St i s.heap
theorem ych {P:Program}{w:World}{K:QFg}(b a:Addr) (nab:a≠b):Zs P w K (Itl K a) b a (λi h=>h.IsListIter b a i) where
 obj:=λi h st=>by
  obtain ⟨o,q,c,d⟩:=st
  exact ⟨o,q,λv z=>by rw [d] at z;cases z⟩
 keep:=λi h h1 st k=>st.at λo q=>k o q
 go:=by
  intro X hP hw hK hc i pins s σ H I st hg
  subst hP hw hK
  obtain ⟨xs,x,hq,hx⟩:=hg
  obtain ⟨its,rv,p,hz⟩:=I.list hq
  obtain ⟨u,hu,ru⟩:=rv.get hx
  have hlt:i<its.toArray.size:=by simpa using (qme hu).1
  refine ⟨_,_,_,Draws.list (A:=X.A.in1) (I.ok.hd hc) b a nab its.toArray,⟨st,p.isList⟩,hlt,λh' q=>q.1,λv hv=>⟨x,?_,rfl,λys hy=>by rw [I.list_inj hy hq];exact hx⟩⟩
  have:its.toArray[i]? = some u:=by simpa using hu
  rw [this] at hv
  exact (qoi hv) ▸ ru
 stop:=by
  intro X hP hw hK hc i pins s σ H I st hg
  subst hP hw hK
  obtain ⟨xs,hq,hx⟩:=hg
  obtain ⟨its,rv,p,hz⟩:=I.list hq
  have hl:=rv.length
  refine ⟨λ_ _=>False,λj h=>j=i/\h.IsListIter b a i/\h.IsList a its.toArray,?_,rfl,st,p.isList⟩
  refine ⟨λj h q=>?_,λj h h' q k=>⟨q.1,q.2.1.at λo e=>k b (by simp) o e,q.2.2.at λo e=>k a (by simp) o e⟩,λj s' Q E hj q=>absurd hj (by rw [q.1];exact Nat.lt_irrefl _),λs' Q E q hE=>?_⟩
  ·obtain ⟨_,⟨o,e,_⟩,_⟩:=q
   exact ⟨o,e⟩
  ·exact wpAny_nextOf_list_end (I.ok.hd hc) q.2.1 q.2.2 (by simp;omega) hE
theorem yci {P:Program}{w:World}{K:QFg}(b a:Addr) (nab:a≠b):Zs P w K (Itt K a) b a (λi h=>h.IsTupleIter b a i) where
 obj:=λi h st=>by
  obtain ⟨o,q,c,d⟩:=st
  exact ⟨o,q,λv z=>by rw [d] at z;cases z⟩
 keep:=λi h h1 st k=>by
  obtain ⟨o,q,r⟩:=st
  exact ⟨o,k o q,r⟩
 go:=by
  intro X hP hw hK hc i pins s σ H I st hg
  subst hP hw hK
  obtain ⟨xs,x,hq,hx⟩:=hg
  obtain ⟨its,rv,p,hz⟩:=I.tuple hq
  obtain ⟨u,hu,ru⟩:=rv.get hx
  have p:s.heap.IsTuple a its.toArray:=p
  have hlt:i<its.toArray.size:=by simpa using (qme hu).1
  refine ⟨_,_,_,zpw (A:=X.A.in1) (I.ok.hd hc) b a nab its.toArray,⟨st,p⟩,hlt,λh' q=>q.1,λv hv=>⟨x,?_,rfl,λys hy=>by rw [I.tuple_inj hy hq];exact hx⟩⟩
  have:its.toArray[i]? = some u:=by simpa using hu
  rw [this] at hv
  exact (qoi hv) ▸ ru
 stop:=by
  intro X hP hw hK hc i pins s σ H I st hg
  subst hP hw hK
  obtain ⟨xs,hq,hx⟩:=hg
  obtain ⟨its,rv,p,hz⟩:=I.tuple hq
  have p:s.heap.IsTuple a its.toArray:=p
  have hl:=rv.length
  refine ⟨λ_ _=>False,λj h=>j=i/\h.IsTupleIter b a i/\h.IsTuple a its.toArray,?_,rfl,st,p⟩
  refine ⟨λj h q=>?_,λj h h' q k=>⟨q.1,?_,?_⟩,λj s' Q E hj q=>absurd hj (by rw [q.1];exact Nat.lt_irrefl _),λs' Q E q hE=>?_⟩
  ·obtain ⟨_,⟨o,e,_⟩,_⟩:=q
   exact ⟨o,e⟩
  ·obtain ⟨o,e,r⟩:=q.2.1
   exact ⟨o,k b (by simp) o e,r⟩
  ·obtain ⟨o,e,r⟩:=q.2.2
   exact ⟨o,k a (by simp) o e,r⟩
  ·exact zlz (I.ok.hd hc) q.2.1 q.2.2 (by simp;omega) hE
noncomputable def Itz (J1 J2:It):It:=⟨λi H=>J1.go i H/\J2.go i H,λi H x H1=>∃y1 y2 p,J1.yld i H y1 H/\J2.yld i H y2 H/\H p=none/\x=.ref p/\H1=upd H p (.tup [y1,y2]),λi H=>J1.stop i H\/(J1.go i H/\J2.stop i H)⟩
theorem ycj {P:Program}{w:World}{K:QFg}{elts:List Expr}{x0:Nat}{tp:Pos}{J1 J2:It}{z TI TO i1 i2 c1 c2:Addr}{t1 t2:Nat->Heap->Prop}(Z1:Zs P w K J1 i1 c1 t1) (Z2:Zs P w K J2 i2 c2 t2) (G:ZipApart z TI TO i1 i2 c1 c2) :
  Turn P w K (.Tuple elts x0 tp) (Itz J1 J2) [z,TI,TO,i1,i2] z (λi h=>IsZip h z TI TO .none/\IsPair h TI (.ref i1) (.ref i2)/\(∃a b,IsPair h TO a b)/\t1 i h/\t2 i h) where
 mem:=by simp
 obj:=by
  rintro i h ⟨hz,hI,⟨a,b,hO⟩,q1,q2⟩ c hc
  simp only [List.mem_cons,List.not_mem_nil,or_false] at hc
  rcases hc with rfl|rfl|rfl|rfl|rfl
  ·exact ⟨_,hz,λv e=>by have e:Data.fields _=Data.cell v:=e
                        cases e⟩
  ·exact ⟨_,hI,λv e=>by have e:Data.seq _ _=Data.cell v:=e
                        cases e⟩
  ·exact ⟨_,hO,λv e=>by have e:Data.seq _ _=Data.cell v:=e
                        cases e⟩
  ·exact Z1.obj i h q1
  ·exact Z2.obj i h q2
 keep:=by
  rintro i h h' ⟨hz,hI,⟨a,b,hO⟩,q1,q2⟩ k
  exact ⟨k z (by simp) _ hz,k TI (by simp) _ hI,⟨a,b,k TO (by simp) _ hO⟩,Z1.keep i h h' q1 (k i1 (by simp)),Z2.keep i h h' q2 (k i2 (by simp))⟩
 item:=by
  intro X hP hw hK hc i pins s σ H E I hf st hg
  obtain ⟨hz,hI,⟨a,b,hO⟩,q1,q2⟩:=st
  obtain ⟨n1,P1,T1,D1,u1,k1,v1,r1⟩:=Z1.go X hP hw hK hc i pins s σ H I q1 hg.1
  obtain ⟨n2,P2,T2,D2,u2,k2,v2,r2⟩:=Z2.go X hP hw hK hc i pins s σ H I q2 hg.2
  subst hP hw hK
  have hn:H s.heap.objs.size=none:=I.hok.fresh (qlr _)
  have lt:∀{c:Addr} {o:Obj},s.heap.get? c=some o->c≠s.heap.objs.size:=λe=>Nat.ne_of_lt (Heap.lt_size e)
  have li1:i1≠s.heap.objs.size:=by
   obtain ⟨o,e,_⟩:=Z1.obj i _ q1
   exact lt e
  have li2:i2≠s.heap.objs.size:=by
   obtain ⟨o,e,_⟩:=Z2.obj i _ q2
   exact lt e
  refine ycg D1 D2 G hz hI hO u1 u2 k1 k2 λx y h1 tk p1 p2 p3 p4 p5 p6 p7 p8=>⟨_,rfl,wpAny_letOwnedTupleGo_zip p3 λh2 z2 s2=>?_⟩
  replace s2:Heap.SameBut z h1 h2:=s2
  obtain ⟨dx,rx,yx⟩:=r1 x p1
  obtain ⟨dy,ry,yy⟩:=r2 y p2
  refine ⟨.ref s.heap.objs.size,upd H s.heap.objs.size (.tup [dx,dy]),?_,rfl,⟨dx,dy,s.heap.objs.size,yx,yy,hn,rfl,rfl⟩,⟨z2,s2.extBut _ _ G.TIz (p8 _ _ G.TIz G.TITO G.TIi1 G.TIi2 hI),⟨_,_,s2.extBut _ _ G.TOz p4⟩,Z1.keep _ _ _ (v1 _ p5) (λo e=>s2.extBut _ _ G.i1z e),Z2.keep _ _ _ (v2 _ p6) (λo e=>s2.extBut _ _ G.i2z e)⟩,λc hc=>?_⟩
  ·refine Inv.dealt (t1:=tk) (us:=[x,y]) (ch:=[z,TI,TO,i1,i2]) I hf (λc o hc q=>?_) ⟨_,s2.extBut _ _ (lt hz).symm p7,rfl,_,rfl,rfl⟩ (.cons rx (.cons ry .nil)) (by show 2<=sizeLine;decide)
   simp only [List.mem_cons,List.not_mem_nil,or_false,not_or] at hc
   exact s2.extBut _ _ hc.1 (p8 c o hc.1 hc.2.2.1 hc.2.2.2.1 hc.2.2.2.2 q)
  ·have hne:c≠s.heap.objs.size:=by
    simp only [List.mem_cons,List.not_mem_nil,or_false] at hc
    rcases hc with rfl|rfl|rfl|rfl|rfl
    ·exact lt hz
    ·exact lt hI
    ·exact lt hO
    ·exact li1
    ·exact li2
   rw [zap hne];exact (hf c hc).1
 done:=by
  intro X hP hw hK hc i pins s σ H E I hf st hg
  obtain ⟨hz,hI,⟨a,b,hO⟩,q1,q2⟩:=st
  have fin:∀(h1:Heap) (tk:Nat),(∀c o,c≠z->c≠TO->c≠i1->c≠i2->s.heap.get? c=some o->h1.get? c=some o)->Inv X pins σ H { s with heap:=h1,toks:=tk }:=λh1 tk k =>
   Inv.turnedL (ch:=[z,TI,TO,i1,i2]) I hf λc o hc q=>by
    simp only [List.mem_cons,List.not_mem_nil,or_false,not_or] at hc
    exact k c o hc.1 hc.2.2.1 hc.2.2.2.1 hc.2.2.2.2 q
  rcases hg with g1|⟨g1,g2⟩
  ·obtain ⟨P1,T1,D1,u1⟩:=Z1.stop X hP hw hK hc i pins s σ H I q1 g1
   subst hP hw hK
   exact zqp D1 G hz hI hO u1 (.inl rfl) λh1 tk k=>⟨rfl,fin h1 tk k⟩
  ·obtain ⟨n1,P1,T1,D1,u1,k1,_⟩:=Z1.go X hP hw hK hc i pins s σ H I q1 g1
   obtain ⟨P2,T2,D2,u2⟩:=Z2.stop X hP hw hK hc i pins s σ H I q2 g2
   subst hP hw hK
   exact zqp D1 G hz hI hO u1 (.inr ⟨k1,P2,T2,D2,u2⟩) λh1 tk k=>⟨rfl,fin h1 tk k⟩
 self:=λA i s Q E st h=>wpAny_pyIter_zip st.1 h
noncomputable abbrev itO (t:Bool) (a:Addr):Obj:={ cls:=.type (if t then "tuple_iterator" else "list_iterator"),data:=.fields #[.ref a,.int 0 0] }
def SqB (t:Bool) (h:Heap) (a:Addr) (vs:Array Value):Prop:=if t then h.IsTuple a vs else h.IsList a vs
theorem SqB.push (q:SqB t h a vs) (o:Obj):SqB t (h.push o) a vs:=by
 cases t with
 | true =>
  obtain ⟨x,e,r⟩:=(q:h.IsTuple a vs)
  exact (⟨x,qps _ e,r⟩:(h.push o).IsTuple a vs)
 | false=>exact Heap.IsList.push (q:h.IsList a vs) o
theorem zqq (q:SqB t s.heap a vs) (h:Q (.ref s.heap.objs.size) { s with heap:=s.heap.push (itO t a) }):wpAny (model prog w) A (pyIter (.ref a)) Q E s:=by
 cases t with
 | true=>exact wpAny_pyIter_tuple (q:s.heap.IsTuple a vs) h
 | false=>exact wpAny_pyIter_list (q:s.heap.IsList a vs) h
noncomputable abbrev zp1 (t1:Bool) (h:Heap) (l1:Addr):Heap:=h.push (itO t1 l1)
noncomputable abbrev zp2 (t1 t2:Bool) (h:Heap) (l1 l2:Addr):Heap:=(zp1 t1 h l1).push (itO t2 l2)
noncomputable abbrev zp3 (t1 t2:Bool) (h:Heap) (l1 l2:Addr):Heap:=(zp2 t1 t2 h l1 l2).push { cls:=.type "tuple",data:=.seq #[.ref h.objs.size,.ref (zp1 t1 h l1).objs.size] }
noncomputable abbrev zp4 (t1 t2:Bool) (h:Heap) (l1 l2:Addr):Heap:=(zp3 t1 t2 h l1 l2).push { cls:=.type "tuple",data:=.seq #[.none,.none] }
noncomputable abbrev zp5 (t1 t2:Bool) (h:Heap) (l1 l2:Addr):Heap:=(zp4 t1 t2 h l1 l2).push { cls:=.type "zip",data:=.fields #[.none,.bool false,.bool false,.ref (zp2 t1 t2 h l1 l2).objs.size,.ref (zp3 t1 t2 h l1 l2).objs.size] }
theorem yck (t1 t2:Bool) (l1 l2:Addr) (xs ys:Array Value) :
  Meets (Builtin.«zip.__new__» ⟨[.type "zip",.ref l1,.ref l2],[]⟩) (λ_ R s=>SqB t1 s.heap l1 xs/\SqB t2 s.heap l2 ys/\R (.ok (.ret (.ref (zp4 t1 t2 s.heap l1 l2).objs.size))) { s with heap:=zp5 t1 t2 s.heap l1 l2 }) :=
 .of_wp λprog w A R s h=>by
  obtain ⟨hp,g,d,tk,os⟩:=s
  obtain ⟨q1,q2,h⟩:=h
  have hsub:=sub_zip
  have b1:SqB t1 (Shared.heap ⟨hp,g,d,tk,os⟩) l1 xs:=q1
  have b2:SqB t2 (Shared.heap ⟨hp.push (itO t1 l1),g,d,tk,os⟩) l2 ys:=SqB.push q2 _
  wp_walk using zqq b1,zqq b2
  exact ⟨_,rfl,h⟩
section
theorem ycl (q1:SqB t1 s.heap l1 xs) (q2:SqB t2 s.heap l2 ys)
  (h:∀h',IsZip h' (s.heap.objs.size+4) (s.heap.objs.size+2) (s.heap.objs.size+3) .none->IsPair h' (s.heap.objs.size+2) (.ref s.heap.objs.size) (.ref (s.heap.objs.size+1))->IsPair h' (s.heap.objs.size+3) .none .none ->
   h'.get? s.heap.objs.size=some (itO t1 l1)->h'.get? (s.heap.objs.size+1)=some (itO t2 l2)->(∀c o,s.heap.get? c=some o->h'.get? c=some o)->Q (.ref (s.heap.objs.size+4)) { s with heap:=h' }) :
  wpAny (model prog w) A (call (.type "zip") [.ref l1,.ref l2]) Q E s:=by
 refine callType_new F.called_zip (by decide) (F.typeCall_zip_2 _ _) (F.newCall_zip_2 _ _) (λobj=>F.args_object_init_3 obj _ _) F.entry_zip_new (yck t1 t2 l1 l2 xs ys) ⟨q1,q2,?_⟩
 have e1:(zp1 t1 s.heap l1).objs.size=s.heap.objs.size+1:=Heap.size_push ..
 have e2:(zp2 t1 t2 s.heap l1 l2).objs.size=s.heap.objs.size+2:=by rw [Heap.size_push,e1]
 have e3:(zp3 t1 t2 s.heap l1 l2).objs.size=s.heap.objs.size+3:=by rw [Heap.size_push,e2]
 have e4:(zp4 t1 t2 s.heap l1 l2).objs.size=s.heap.objs.size+4:=by rw [Heap.size_push,e3]
 have g5:(zp5 t1 t2 s.heap l1 l2).get? (zp4 t1 t2 s.heap l1 l2).objs.size=some _:=Heap.get?_push_size _ rfl
 have g4:(zp5 t1 t2 s.heap l1 l2).get? (zp3 t1 t2 s.heap l1 l2).objs.size=some _:=qps _ (Heap.get?_push_size _ rfl)
 have g3:(zp5 t1 t2 s.heap l1 l2).get? (zp2 t1 t2 s.heap l1 l2).objs.size=some _:=qps _ (qps _ (Heap.get?_push_size _ rfl))
 have g2:(zp5 t1 t2 s.heap l1 l2).get? (zp1 t1 s.heap l1).objs.size=some _:=qps _ (qps _ (qps _ (Heap.get?_push_size _ rfl)))
 have g1:(zp5 t1 t2 s.heap l1 l2).get? s.heap.objs.size=some _:=qps _ (qps _ (qps _ (qps _ (Heap.get?_push_size _ rfl))))
 show _/\_
 rw [e2,e3,e4] at g5
 rw [e1,e2] at g3
 rw [e3] at g4
 rw [e1] at g2
 rw [e4]
 exact ⟨⟨_,g5,rfl⟩,h _ g5 g3 g4 g1 g2 λc o x=>qps _ (qps _ (qps _ (qps _ (qps _ x))))⟩
end
theorem ycm:bootBuiltins "zip" = some (.type "zip"):=by decide +kernel
noncomputable def ItB (K:QFg) (t:Bool) (a:Addr):It:=if t then Itt K a else Itl K a
def SqK (K:QFg) (t:Bool) (H:Hp) (a:Addr):Prop:=if t then ∃xs,SqT K H a xs else ∃xs,SqL K H a xs
def iZp (K:QFg) (ta:TA):TI:=λσ H R=>ta σ H λvs H1=>∃(t1 t2:Bool) (a b:Addr),vs=[.ref a,.ref b]/\SqK K t1 H1 a/\SqK K t2 H1 b/\R (Itz (ItB K t1 a) (ItB K t2 b)) H1
theorem SqK.at (I:Inv X pins σ H s) (q:SqK X.K t H a):∃vs,SqB t s.heap a vs/\a<s.heap.objs.size:=by
 cases t with
 | true =>
  obtain ⟨xs,hq⟩:=(q:∃xs,SqT X.K H a xs)
  obtain ⟨its,rv,pl,hz⟩:=I.tuple hq
  have pl:s.heap.IsTuple a its.toArray:=pl
  obtain ⟨o,e,_⟩:=id pl
  exact ⟨_,pl,Heap.lt_size e⟩
 | false =>
  obtain ⟨xs,hq⟩:=(q:∃xs,SqL X.K H a xs)
  obtain ⟨its,rv,pl,hz⟩:=I.list hq
  obtain ⟨o,e,_⟩:=id pl.isList
  exact ⟨_,pl.isList,Heap.lt_size e⟩
theorem zqr {P:Program}{w:World}{K:QFg}(t:Bool) (b a:Addr) (nab:a≠b):Zs P w K (ItB K t a) b a (λi h=>if t then h.IsTupleIter b a i else h.IsListIter b a i):=by
 cases t with
 | true=>exact yci b a nab
 | false=>exact ych b a nab
theorem ycn {x0:Nat}{ta:TA}(hg:Gl X "zip") (hm:X.mg "zip" = none) (ha:PA X [a,a2] ta) (hs:starEach [a,a2] X.env=(false,eval a X.env) :: starEach [a2] X.env:=by rfl) (hs2:(backTo pos (starEach [a2] X.env)).any (·.1)=false:=by rfl) :
  PI X (.Tuple elts x0 tp) (.Call (.Name "zip" p) [a,a2] [] pos) (iZp X.K ta):=by
 intro pins s σ H R I h
 refine Call_ (zd7 I hg hm ycm (PyProof.Rows.callWith_type1 (thn (ha pos pins s σ H _ I h) λus s1 hx_=>?_) hs hs2))
 obtain ⟨vs,H1,I1,r1,q1⟩:=hx_
 obtain ⟨t1,t2,b,c,rfl,k1,k2,q⟩:=q1
 obtain ⟨u,v,rfl,ru,rv⟩:=Vals.two r1
 cases ru;cases rv
 obtain ⟨xs,b1,l1⟩:=k1.at I1
 obtain ⟨ys,b2,l2⟩:=k2.at I1
 refine ycl b1 b2 λh' hz hI hO w1 w2 hk=>?_
 have m1:@LT.lt Nat _ b s1.heap.objs.size:=l1
 have m2:@LT.lt Nat _ c s1.heap.objs.size:=l2
 generalize hn:s1.heap.objs.size=n at *
 have G:ZipApart (n+4) (n+2) (n+3) n (n+1) b c:=by constructor <;> (show (_:Nat)≠_) <;> omega
 refine wpAny_pyIter_zip (s:={ s1 with heap:=h' }) hz ⟨_,_,_,_,H1,rfl,I1.kept (t':=s1.toks) hk,ycj (zqr t1 n b (Nat.ne_of_lt m1)) (zqr t2 (n+1) c (Nat.ne_of_lt (Nat.lt_succ_of_lt m2))) G,⟨hz,hI,⟨_,_,hO⟩,?_,?_⟩,λc hc=>?_,q⟩
 ·cases t1 with
  | true=>exact ⟨_,w1,rfl,rfl⟩
  | false=>exact ⟨_,w1,rfl,rfl⟩
 ·cases t2 with
  | true=>exact ⟨_,w2,rfl,rfl⟩
  | false=>exact ⟨_,w2,rfl,rfl⟩
 ·have:s1.heap.objs.size<=c:=by
   simp only [List.mem_cons,List.not_mem_nil,or_false] at hc
   rcases hc with rfl|rfl|rfl|rfl|rfl <;> omega
  exact I1.fpOk this (I1.hok.fresh this)
noncomputable def itZ (i1 i2:ItM):ItM:=λi S=>(i1 i S).bind λo=>match o with
 | none=>some none
 | some x=>(i2 i S).bind λp=>match p with
  | none=>some none
  | some y=>some (some (.tup [x,y]))
noncomputable def sqI (S:Sto):D->Option (ItM × Nat)
 | .tup xs=>some (itX xs,xs.length)
 | .ref n=>(lstOf S n).bind λxs=>some (itL n,xs.length)
 | _=>none
noncomputable def zjz (m:AM):IM:=λl S=>(m l S).bind λp=>match p.1 with
 | [x,y]=>(sqI p.2 x).bind λa=>(sqI p.2 y).bind λb=>some (itZ a.1 b.1,min a.2 b.2+1,p.2)
 | _=>none
theorem yco {K:QFg}{ρ:List Addr}{H:Hp}{i1 i2:ItM}{J1 J2:It}(h1:zec K ρ H i1 J1) (h2:zec K ρ H i2 J2):zjs K ρ H (itZ i1 i2) (Itz J1 J2):=by
 intro i ρ1 S1 H1 e s
 obtain ⟨a1,a2⟩:=h1 i ρ1 S1 H1 e s
 obtain ⟨b1,b2⟩:=h2 i ρ1 S1 H1 e s
 unfold itZ
 refine ⟨λq=>?_,λx q=>?_⟩
 ·obtain ⟨o,ho,q⟩:=bnd q
  cases o with
  | none=>exact .inl (a1 ho)
  | some x =>
   obtain ⟨p,hp,q⟩:=bnd q
   cases p with
   | none=>exact .inr ⟨(a2 x ho).1,b1 hp⟩
   | some y=>cases q
 ·obtain ⟨o,ho,q⟩:=bnd q
  cases o with
  | none=>cases q
  | some x1 =>
   obtain ⟨p,hp,q⟩:=bnd q
   cases p with
   | none=>cases q
   | some y1 =>
    cases q
    obtain ⟨g1,r1⟩:=a2 x1 ho
    obtain ⟨g2,r2⟩:=b2 y1 hp
    refine ⟨⟨g1,g2⟩,λv H2 hx_=>?_⟩
    obtain ⟨y,y',p,hy1,hy2,hp,e1,e2⟩:=hx_
    subst e1 e2
    obtain ⟨_,s1⟩:=r1 y H1 hy1
    obtain ⟨_,s2⟩:=r2 y' H1 hy2
    exact ⟨zbh hp,s.laid hp,.tup zbw (.cons (s1.mono (zbh hp)) (.cons (s2.mono (zbh hp)) .nil))⟩
theorem zqs {K:QFg}{ρ:List Addr}{S:Sto}{H:Hp}{x:D}{v:V}{a:ItM × Nat}(h:sqI S x=some a) (sim:Sim K ρ S H) (r:RD ρ H x v):∃t c,v=.ref c/\SqK K t H c/\zec K ρ H a.1 (ItB K t c):=by
 unfold sqI at h
 split at h
 ·cases h
  cases r with
  | @tup _ c us hc' rr=>exact ⟨true,c,rfl,⟨us,SqT.of hc'⟩,zlk hc' rr⟩
 ·obtain ⟨ys,hx,h⟩:=bnd h
  cases h
  obtain ⟨c,us,hc',sq,rv'⟩:=sim.lstOf hx
  cases r with
  | ref hn =>
   rw [hc'] at hn;cases hn
   exact ⟨false,c,rfl,⟨us,sq⟩,zll hc'⟩
 ·cases h
theorem ycp {x0:Nat}(hgl:Gl X "zip") (hmg:X.mg "zip" = none) (ha:PA3 X [a,a2] mA) (hst:starEach [a,a2] X.env=(false,eval a X.env) :: starEach [a2] X.env:=by rfl) (hst2:(backTo pos' (starEach [a2] X.env)).any (·.1)=false:=by rfl):zh2 X (.Tuple elts x0 tp) (.Call (.Name "zip" p0) [a,a2] [] pos') (zjz mA) :=
 PI.imp (ycn hgl hmg ha hst hst2) λσ H R hx_=>by
  obtain ⟨ρ,l,S,it,k,S',sim,ro,hm,p⟩:=hx_
  obtain ⟨⟨xs,S2⟩,q2,q1⟩:=bnd hm
  dsimp only at q1
  split at q1
  ·rename_i x y
   obtain ⟨u1,e1,q1⟩:=bnd q1
   obtain ⟨u2,e2,q1⟩:=bnd q1
   cases q1
   refine ⟨ρ,l,S,[x,y],_,sim,ro,q2,λρ1 H1 vs ex s1 r1=>?_⟩
   obtain ⟨v,u,rfl,rv,ru⟩:=r1.two
   obtain ⟨t1,c1,rfl,k1,o1⟩:=zqs e1 s1 rv
   obtain ⟨t2,c2,rfl,k2,o2⟩:=zqs e2 s1 ru
   exact ⟨t1,t2,c1,c2,rfl,k1,k2,p ρ1 H1 _ ex s1 (yco o1 o2)⟩
  ·cases q1
section
variable {P:Program}{w:World}{K:QFg}{tg:Expr}
end
section
variable {X:Cx}{tg l:Expr}{tl:TE}{m:EM}
end
section
end
open PySem.Builtin PySem.Builtin.Str
section
variable {id:String}{f:D->List D->Sto->Option (D × Sto)}{r:V->List V->Hp->VK->Prop}
end
section
end
section
end
theorem zqt (I:Inv X pins σ H s) (h:H a=some (.tup xs)):∃its:List Value,Vals xs its/\IsTD s.heap a its.toArray:=by
 obtain ⟨_,its,r,p⟩:=I.hok a _ h
 exact ⟨its,r,p⟩
section
end
theorem ycq:isSubtype (.type "tuple") (.type "set")=pure false:=by rw [isSubtype_type];kernel_rfl
theorem ycr:isSubtype (.type "tuple") (.type "frozenset")=pure false:=by rw [isSubtype_type];kernel_rfl
noncomputable abbrev zc7 (led:Bool):Obj:={ cls:=.type "set",dict:=none,data:=.set #[] 0 (.fresh 0 0 led) }
section
noncomputable abbrev dis (ns:List Int) (n:Nat):List Int:=firstMet (λi=>ns.getD i 0) n
end
theorem zml:∀{ns:List Int}{its:List Value},Vals (ns.map V.int) its->IntsAre its ns
 | [],its,r=>by cases r;exact .nil
 | n :: ns,its,r=>by
  cases r with
  | cons p q=>obtain ⟨t,rfl⟩:=p;exact .cons n t (zml q)
section
variable {X:Cx}{K:QFg}{a:Expr}{es:List Expr}{mA:AM}{pos p:Pos}{k:Nat}
theorem ycs:bootBuiltins "set" = some (.type "set"):=by decide +kernel
end
end L3
namespace SP
open PySem PySem.W PyProof.Rows PySem.Calls
section
theorem sorted_lays
  (hc:∀(E:Value->Shared->Prop) (R:List Value->Shared->Prop),(∀h' tk vs,s.heap.objs.size<=h'.objs.size->(∀b o,s.heap.get? b=some o->h'.get? b=some o)->IntsAre vs ns->R vs { s with heap:=h',toks:=tk })->wpAny (model prog w) A.in1 (collect (.ref x)) R E s) (h64:ns.length<64)
  (h:∀h' tk D e out ns',(∀b o,s.heap.get? b=some o->h'.get? b=some o)->s.heap.objs.size<=D->h'.get? D=some (seqObj "list" out e)->IntsAre out.toList ns'->ns'.Perm ns->ns'.Pairwise (·<=·)->Q (.ref D) { s with heap:=h',toks:=tk }) :
  wpAny (model prog w) A (call (.builtin "sorted") [.ref x]) Q E s:=by
 have fits:∀k,k<64->k<=sizeLine:=λk hk=>by rw [sizeLine_eq];lia
 refine call_function_entry kind_sorted plain_sorted entry_sorted (args_sorted1 _) ?_
 unfold Builtin.«sorted»
 refine qwb (m:=checkCount "sorted" 1 1 _) (qwp (qwb (hc _ _ λh' tk vs sz keep t=>?_)))
 have hl:vs.length=ns.length:=by
  clear hc h
  induction t with
  | nil=>rfl
  | cons n t q ih=>simp [ih (by simp at h64;lia)]
 refine qwb (wpAny_newList ?_ (fits _ (by lia)))
 have hD:(h'.push (seqObj "list" vs.toArray 0)).get? h'.objs.size=some (seqObj "list" vs.toArray 0):=Heap.get?_push_size _ rfl
 refine qwb (wpAny_holding (wpAny_call_entry slot_list_sort ⟨_,hD,rfl⟩ entry_list_sort (list_sort_tree (s:={ s with heap:=h'.push (seqObj "list" vs.toArray 0),toks:=tk }) hD t (by lia) λout ns' a1 a2 a3=>⟨_,rfl,?_⟩) (args_list_sort _)))
 refine qwp ⟨_,rfl,?_⟩
 obtain ⟨c,hc2⟩:=sortedHeap_at (out:=out) hD
 refine h _ tk h'.objs.size c out ns' (λb o e=>?_) sz hc2 a1 a2 a3
 have lb:=Heap.lt_size (keep b o e)
 rw [sortedHeap_old (Nat.ne_of_lt lb) (by rw [size_push'];exact Nat.lt_succ_of_lt lb)]
 exact qps _ (keep b o e)
end
end SP
namespace L3
open PySem PySem.Spec PyProof.Rows L2
noncomputable def sortI (ns:List Int):List Int:=ns.mergeSort λa b=>decide (a<=b)
theorem zdi (ns:List Int):(sortI ns).Perm ns:=List.mergeSort_perm ns _
theorem zqu (ns:List Int):(sortI ns).Pairwise (·<=·):=by
 have:=List.pairwise_mergeSort (le:=λa b:Int=>decide (a<=b)) (λa b c h1 h2=>by simp at *;lia) (λa b=>by simp;lia) ns
 exact this.imp λh=>by simpa using h
theorem zmm (h:a.Perm l) (s:a.Pairwise (·<=·)):a=sortI l :=
 List.Perm.eq_of_pairwise (λ_ _ _ _ h1 h2=>Int.le_antisymm h1 h2) s (zqu l) (h.trans (zdi l).symm)
theorem zmn:∀{ns:List Int}{us:List Value},IntsAre us ns->Vals (ns.map V.int) us
 | [],us,h=>by cases h;exact .nil
 | t :: ts,us,h=>by
  cases h with
  | cons x k q=>exact .cons ⟨_,rfl⟩ (zmn q)
theorem zj0:∀ns:List Int,RDs ρ H (ns.map D.int) (ns.map V.int)
 | []=>.nil
 | n :: ns=>.cons (.int n) (zj0 ns)
section
variable {X:Cx}{K:QFg}{a:Expr}{es:List Expr}{mA:AM}{pos p:Pos}
end
section
end
open PySem.W
section
end
section
variable {X:Cx}{E:XK}{CA:Str->Addr}{tgt iter:Expr}{body:List Stmt}{g:GM}{b:SM}{rb:ZM}{m:EM}{pos:Pos}
end
def rSetL:List V->Hp->VK->Prop:=λxs H Q=>∃(a:Addr) (ns:List Int),xs=[.ref a]/\H a=some (.lst (ns.map V.int))/\ns.length+1<scanBound/\∀l,H l=none->Q (.ref l) (upd H l (.set (λk=>(dis ns ns.length).any (· == k)) (dis ns ns.length).length))
section
variable {X:Cx}{K:QFg}{a:Expr}{es:List Expr}{mA:AM}{pos p:Pos}{k:Nat}
end
section
variable {X:Cx}{K:QFg}{a:Expr}{es:List Expr}{mA:AM}{pos p:Pos}
end
section
variable {M:Model}{E:Value->Shared->Prop}{env:Env}{outer:List Env}{Q:Unit->Shared->Prop}
end
section
variable {P:Program}{w:World}{K:QFg}{mg:Str->Option Value}{base:Heap}{N:List Str}{qual:Str}{scope:Scope}{f:Addr}{cd:Value}{A:Around}{outer:List Env}{s:Shared}{H:Hp}{E:XK}
end
section
variable {X:Cx}{E:XK}{CA:Str->Addr}{N':List Str}{elt iter tgt:Expr}{ifs:List Expr}{scope:Scope}{pos:Pos}
end
section
end
section
end
section
variable {X:Cx}{K:QFg}{a b:Expr}{ma mb:EM}{pos:Pos}
end
theorem CompSc.toSd {N':List Str}{scope:Scope}{src:St->St}(h:CompSc X N' scope src):CompSd X N' scope src :=
 ⟨h.kind,h.names,h.free,λy z=>.inl (h.rel y z),λy _ z=>h.nocell _ z rfl,h.len,h.src⟩
section
end
section
variable {K:QFg}{ρ:List Addr}{H H':Hp}{S:Sto}
end
end L3
namespace SK
open PySem PySem.W PyProof.Rows PySem.Calls
section
end
end SK
namespace L3
open PySem PySem.Spec PyProof.Rows L2
section
end
section
end
section
end
section
variable {P:Program}{w:World}{K:QFg}{mg:Str->Option Value}{base:Heap}
end
section
end
section
end
noncomputable def sm (i:Int):Bool:=decide (i.natAbs.log2<1920)
section
end
section
end
open PySem.W
section
end
section
end
section
end
section
variable {K:QFg}{ρ:List Addr}{H H':Hp}{S:Sto}
end
section
end
section
end
section
end
section
end
section
end
section
end
section
variable {P:Program}{w:World}{K:QFg}{mg:Str->Option Value}{base:Heap}{CA:Str->Addr}{j k n:Nat}{f0:Str}{rx:ZF}{tb:List (Str × Nat × ZF)}
end
section
end
section
end
section
end
section
end
section
variable {E:XK}{CA:Str->Addr}{a d:List Stmt}{st:Stmt}{r q:ZM}
end
section
end
section
variable {P:Program}{w:World}{K:QFg}{mg:Str->Option Value}{base:Heap}
end
end L3
namespace TS
open PySem PySem.SetTable
structure EI (es:Array (Int × Value)) (σ:List Int):Prop where
 sub:∀e∈es.toList,∃i t,i∈σ/\e=(hashInt i,.int i t)
 sup:∀i∈σ,∃t,(hashInt i,Value.int i t)∈es.toList
 len:es.size=σ.length
 nd:σ.Nodup
noncomputable def led0 (w:World):Bool:=!w.params.followText "set-order"
def yct (w:World) (o:Obj) (σ:List Int):Prop:=o.ExactSet/\∃es ep t,o.data=.set es ep t/\TOk t es/\t.plain=true/\t.led=led0 w/\EI es σ
def ISet (w:World) (a:Addr) (σ:List Int) (h:Heap):Prop:=∃o,h.get? a=some o/\yct w o σ
theorem ycu (k:TOk t es) (h:Int) (hN:¬In t (pn t.mask h N).j) (hl:∀m,m<N->In t (pn t.mask h m).j) (hb:N<10*(t.mask+14)):t.freeSlot h=some ((pn t.mask h N).j,false):=by
 unfold SetTable.freeSlot
 rcases zt7 k hN hl hb (Nat.zero_le _) (ha:=λ_=>h+1) (p:=t.probeStart h) rfl rfl with ⟨_,i,_,_,_,e,_⟩|⟨_,e⟩
 ·lia
 ·rw [e];rfl
theorem ycv (k:TOk t es) (h:Int) (x:Value) (hN:¬In t (pn t.mask h N).j) (hl:∀m,m<N->In t (pn t.mask h m).j) (hb:N<10*(t.mask+14)) :
  layNew t es h x=(insertAt es (t.put (pn t.mask h N).j).2 (h,x),(t.put (pn t.mask h N).j).1,false,false):=by
 have hs:(insertAt es (t.put (pn t.mask h N).j).2 (h,x)).size=es.size+1:=zdk
 have hf:(t.put (pn t.mask h N).j).1.fits (es.size+1)=true:=by
  have hro:=k.ro
  obtain ⟨n,e1,e2⟩:=k.pw
  have:2 ^ 3<=2 ^ n:=Nat.pow_le_pow_right (by decide) e2
  have hf1:(t.put (pn t.mask h N).j).1.fill=es.size+1:=by rw [zgm k.dm];show (insertAt t.place _ _).size+t.dummies.size=_;rw [zdk,k.dm,k.sz];rfl
  have hp1:(t.put (pn t.mask h N).j).1.place.size=es.size+1:=by rw [zgm k.dm];show (insertAt t.place _ _).size=_;rw [zdk,k.sz]
  have hm1:(t.put (pn t.mask h N).j).1.mask=t.mask:=rfl
  unfold SetTable.fits
  rw [hf1,hm1,hp1]
  simp
  lia
 unfold layNew
 rw [ycu k h hN hl hb]
 dsimp only
 unfold SetTable.orStandIn
 rw [hs,hf];rfl
theorem ycw {t t':SetTable}{es:Array (Int × Value)}{order:Array Nat}(hs:es.size<=1000) (e:t.relaid (es.map (·.1)) (grown es.size)=some (t',order)):coversAll order es.size=true/\t'.plain=t.plain/\t'.led=t.led:=by
 have hg:grown es.size=es.size*4:=by unfold grown;rw [if_neg (by lia)]
 obtain ⟨k,hk3,hsa,hlt,hle⟩:=znd (n:=es.size*4) (by lia)
 unfold relaid at e
 rw [hg,hsa] at e
 generalize hm:2 ^ k-1=mask at e
 have hk:mask+1=2 ^ k:=by lia
 obtain ⟨ow,hl,o⟩:=znf hk (es.map (·.1)) (by rw [Array.size_map];lia)
 unfold laid at e
 rw [hl] at e
 have e:some (({ mask:=mask,place:=((lv mask ow).map (·.1)).toArray,dummies:=#[],finger:=t.finger,led:=t.led,moves:=t.movedTo mask,plain:=t.plain }:SetTable),((lv mask ow).map (·.2)).toArray)=some (t',order):=e
 cases e
 refine ⟨?_,rfl,rfl⟩
 have hlen:(es.map (·.1)).toList.length=es.size:=by simp
 have mem:=zng o
 have srt:=zni mask ow
 unfold coversAll
 rw [List.isPerm_iff]
 refine (List.perm_ext_iff_of_nodup ?_ List.nodup_range).mpr λi=>?_
 ·rw [List.Nodup,List.pairwise_map]
  refine srt.imp_of_mem λ{p q} hp hq hpq z=>?_
  have m1:=(mem p).mp hp
  have m2:=(mem q).mp hq
  rw [z] at m1
  have:=o.inj _ _ _ m1 m2
  lia
 ·rw [List.mem_range]
  constructor
  ·intro hi
   obtain ⟨p,hp,rfl⟩:=List.mem_map.mp hi
   obtain ⟨h,e,_⟩:=o.pr p.1 p.2 ((mem p).mp hp)
   rw [<-hlen];exact (qme e).1
  ·intro hi
   obtain ⟨j,hj⟩:=o.all i (by rw [hlen];exact hi)
   exact List.mem_map.mpr ⟨(j,i),(mem (j,i)).mpr hj,rfl⟩
theorem ycx {t:SetTable}{es:Array (Int × Value)}(hz:0<es.size) (hs:es.size<=1000):∃t' es',relayAll t es (grown es.size)=(es',t',false)/\es'.size=es.size/\TOk t' es'/\t'.plain=t.plain/\t'.led=t.led/\∀e,e∈es'.toList↔e∈es.toList:=by
 obtain ⟨t',order,es',r1,r2,r3,r4,r5⟩:=zt6 (t:=t) hz hs
 obtain ⟨c1,c2,c3⟩:=ycw hs r1
 refine ⟨t',es',?_,r3,r4,c2,c3,r5⟩
 have hf:=r4.fits
 unfold relayAll
 rw [r1]
 dsimp only
 have r2':Array.filterMap (λx=>es[x]?) order=es':=r2
 rw [r2',c1,hf];rfl
section
theorem EI.put (el:EI es σ) (hn:i ∉ σ):EI (insertAt es p (hashInt i,.int i tk)) (σ++[i]):=by
 have pm:=insertAt_perm es p (hashInt i,Value.int i tk)
 rw [Array.toList_push] at pm
 refine ⟨λe he=>?_,λq hq=>?_,?_,?_⟩
 ·rcases List.mem_append.mp (pm.mem_iff.mp he) with he|he
  ·obtain ⟨q,t,hq,e1⟩:=el.sub e he;exact ⟨q,t,List.mem_append_left _ hq,e1⟩
  ·rw [List.mem_singleton] at he;subst he;exact ⟨i,tk,by simp,rfl⟩
 ·rcases List.mem_append.mp hq with hq|hq
  ·obtain ⟨t,ht⟩:=el.sup q hq
   exact ⟨t,pm.mem_iff.mpr (List.mem_append_left _ ht)⟩
  ·rw [List.mem_singleton] at hq;subst hq
   exact ⟨tk,pm.mem_iff.mpr (by simp)⟩
 ·rw [zdk,el.len];simp
 ·rw [List.nodup_append]
  exact ⟨el.nd,by simp,λx hx y hy z=>hn (by rw [List.mem_singleton.mp hy] at z;rw [<-z];exact hx)⟩
theorem EI.elems (el:EI es σ):ElemsOf (intKind prog w) es.toList:=λe he=>by
 obtain ⟨j,t,_,rfl⟩:=el.sub e he
 exact ⟨⟨j,by show Value.isInt j (.int j t)=true;simp [Value.isInt],rfl⟩,rfl⟩
theorem EI.find (el:EI es σ):(i∈σ->∃j,es.toList.findIdx? (λe=>(intKind prog w).is i e.snd)=some j)/\(i ∉ σ->es.toList.findIdx? (λe=>(intKind prog w).is i e.snd)=none):=by
 constructor
 ·intro hi
  obtain ⟨t,ht⟩:=el.sup i hi
  cases e:es.toList.findIdx? (λe=>(intKind prog w).is i e.snd) with
  | some j=>exact ⟨j,rfl⟩
  | none =>
   rw [List.findIdx?_eq_none_iff] at e
   have:=e _ ht
   have h2:Value.isInt i (.int i t)=false:=this
   simp [Value.isInt] at h2
 ·intro hi
  rw [List.findIdx?_eq_none_iff]
  intro e he
  obtain ⟨j,t,hj,rfl⟩:=el.sub e he
  show Value.isInt i (.int j t)=false
  have:¬j=i:=λz=>hi (by rw [<-z];exact hj)
  simp [Value.isInt]
  first|exact this|lia
theorem ycy (hT:ISet w a σ s.heap) (hz:σ.length<900) (old:i∈σ->Q false s) (new:i ∉ σ->∀h',Heap.SameBut a s.heap h'->ISet w a (σ++[i]) h'->Q true { s with heap:=h' }) :
  wpAny (model prog w) A (setAddHashed a (.int i tk) (hashInt i)) Q E s:=by
 obtain ⟨o,ho,hex,es,ep,t,hd,ok,pl,ld,el⟩:=hT
 obtain ⟨N,hb,hN,hl⟩:=ok.empty (hashInt i)
 have hsl:=el.len
 have sb:scanBound=4096:=rfl
 have bs:byScan (.int i tk) es=true:=by
  unfold byScan
  rw [Bool.and_eq_true,Bool.and_eq_true]
  refine ⟨⟨rfl,by rw [decide_eq_true_eq];lia⟩,?_⟩
  rw [Array.all_eq_true_iff_forall_mem]
  intro e he
  obtain ⟨j,t,_,rfl⟩:=el.sub e (by simpa using he)
  rfl
 unfold setAddHashed setAddHashedIn
 refine wpAny_holding (qwb (wpAny_setState_of ho hd ok.fits ?_))
 dsimp only
 rw [bs]
 simp only [if_true]
 refine qwb ?_
 unfold setAddByScan
 refine qwb (wpAny_rule (qwb (wpAny_setScan_of (knd:=intKind prog w) (k:=i) (by show Value.isInt i (.int i tk)=true;simp [Value.isInt]) ho hd ok.fits el.elems ?_)))
 by_cases hi:i∈σ
 ·obtain ⟨j,e⟩:=(el.find (prog:=prog) (w:=w) (i:=i)).1 hi
  rw [e]
  exact qwp (qwp (old hi))
 ·rw [(el.find (prog:=prog) (w:=w) (i:=i)).2 hi]
  dsimp only
  rw [ycv ok (hashInt i) (.int i tk) hN hl hb]
  dsimp only
  have hnew:=new hi
  have els:=el.put (i:=i) (tk:=tk) (p:=(t.put (pn t.mask (hashInt i) N).j).2) hi
  have hm1:(t.put (pn t.mask (hashInt i) N).j).1.mask=t.mask:=rfl
  have hpl:(t.put (pn t.mask (hashInt i) N).j).1.plain=t.plain:=by rw [zgm ok.dm]
  have hld:(t.put (pn t.mask (hashInt i) N).j).1.led=t.led:=by rw [zgm ok.dm]
  have hf1:(t.put (pn t.mask (hashInt i) N).j).1.fill=es.size+1:=by rw [zgm ok.dm];show (insertAt t.place _ _).size+t.dummies.size=_;rw [zdk,ok.dm,ok.sz];rfl
  have hsz:(insertAt es (t.put (pn t.mask (hashInt i) N).j).2 (hashInt i,Value.int i tk)).size=es.size+1:=zdk
  have put:=λq=>ok.put (x:=.int i tk) hN hl q
  generalize t.put (pn t.mask (hashInt i) N).j=tp at *
  obtain ⟨t1,p⟩:=tp
  dsimp only at *
  refine qwb (qwp ?_)
  rw [hpl,pl]
  simp only [if_true]
  refine qwb (qwp ?_)
  simp only [if_true]
  refine qwb (wpAny_storeSet_of ho hd ?_ (by rw [hsz,sizeLine_eq];lia))
  have hg:(s.heap.update a (Obj.putSet (insertAt es p (hashInt i,.int i tk)) t1)).get? a=some { o with data:=.set (insertAt es p (hashInt i,.int i tk)) (ep+1) t1 }:=by
   have:=Heap.get?_update_self (Obj.putSet (insertAt es p (hashInt i,.int i tk)) t1) ho (by rw [putSet_of _ _ hd];rfl)
   rw [putSet_of _ _ hd] at this;exact this
  have hsb1:=Heap.SameBut.update s.heap a (Obj.putSet (insertAt es p (hashInt i,.int i tk)) t1)
  by_cases full:t1.tooFull=true
  ·obtain ⟨t3,es3,r1,r3,r4,r6,r7,r5⟩:=ycx (t:=t1) (es:=insertAt es p (hashInt i,Value.int i tk)) (by lia) (by lia)
   rw [full,r1]
   simp only [Bool.not_false,Bool.true_and,if_true]
   refine qwb (qwp (qwb (wpAny_storeSet_of (s:={ s with heap:=s.heap.update a (Obj.putSet (insertAt es p (hashInt i,.int i tk)) t1) }) hg rfl ?_ (by rw [r3,hsz,sizeLine_eq];lia))))
   have hg2:((s.heap.update a (Obj.putSet (insertAt es p (hashInt i,.int i tk)) t1)).update a (Obj.putSet es3 t3)).get? a=some { o with data:=.set es3 (ep+1+1) t3 }:=by
    have:=Heap.get?_update_self (Obj.putSet es3 t3) hg (by rw [putSet_of es3 t3 (o:={ o with data:=.set (insertAt es p (hashInt i,.int i tk)) (ep+1) t1 }) rfl];rfl)
    rw [putSet_of es3 t3 (o:={ o with data:=.set (insertAt es p (hashInt i,.int i tk)) (ep+1) t1 }) rfl] at this;exact this
   refine qwp (qwp (hnew _ (hsb1.trans (Heap.SameBut.update _ a _)) ⟨_,hg2,hex,_,_,_,rfl,r4,by rw [r6,hpl];exact pl,by rw [r7,hld];exact ld,⟨λe he=>els.sub e ((r5 e).mp he),λq hq=>let ⟨t,z⟩:=els.sup q hq;⟨t,(r5 _).mpr z⟩,by rw [r3];exact els.len,els.nd⟩⟩))
  ·have full':t1.tooFull=false:=by simpa using full
   rw [full']
   simp only [Bool.and_false,qbf,if_false]
   refine qwp (qwp (hnew _ hsb1 ⟨_,hg,hex,_,_,_,rfl,put ?_,by rw [hpl];exact pl,by rw [hld];exact ld,els⟩))
   unfold SetTable.tooFull at full
   rw [hf1,hm1] at full
   simp at full
   exact full
end
theorem erase_perm {α:Type}:∀{l:List α}{i:Nat}(h:i<l.length),(l[i] :: l.eraseIdx i).Perm l
 | [],_,h=>absurd h (Nat.not_lt_zero _)
 | x :: l,0,_=>List.Perm.refl _
 | x :: l,i+1,h=>by
  have h':i<l.length:=Nat.lt_of_succ_lt_succ h
  show (l[i] :: x :: l.eraseIdx i).Perm (x :: l)
  exact (List.Perm.swap x l[i] _).trans (List.Perm.cons x (erase_perm h'))
theorem ycz {α:Type}(next:Nat->Nat):∀(fuel k:Nat) (left:List α) (out:Array α),left.length<=fuel->(pickOrder.go next fuel k left out).toList.Perm (out.toList++left):=by
 intro fuel
 induction fuel with
 | zero =>
  intro k left out hl
  have:left=[]:=List.length_eq_zero_iff.mp (Nat.le_zero.mp hl)
  subst this
  unfold pickOrder.go
  rw [List.append_nil]
 | succ f ih =>
  intro k left out hl
  unfold pickOrder.go
  by_cases hz:left=[]
  ·subst hz
   simp
  ·have hp:0<left.length:=List.length_pos_iff.mpr hz
   have hm:next k % left.length<left.length:=Nat.mod_lt _ hp
   rw [qge hm]
   dsimp only
   refine (ih _ _ _ (by rw [List.length_eraseIdx,if_pos hm];lia)).trans ?_
   rw [Array.toList_push,List.append_assoc,List.singleton_append]
   exact List.Perm.append_left _ (erase_perm hm)
theorem yc0 {α:Type}(next:Nat->Nat) (xs:Array α):(pickOrder next xs).toList.Perm xs.toList:=by
 unfold pickOrder
 have:=ycz next xs.size 0 xs.toList #[] (by simp)
 simpa using this
theorem slot_si_next:Slot "set_iterator" "__next__" "set_iterator.__next__" :=
 .of (owner:="set_iterator") (n:="__next__") (by rw [typeLookup_type,builtinLookup_eq_fast];kernel_rfl) (by decide +kernel) (by decide +kernel) (by decide +kernel)
  (by first|exact .inl (by decide +kernel)|exact .inr (by decide +kernel)) (by rw [isSubtype_type];kernel_rfl)
theorem zqv:Slot "set_iterator" "__iter__" "set_iterator.__iter__" :=
 .of (owner:="set_iterator") (n:="__iter__") (by rw [typeLookup_type,builtinLookup_eq_fast];kernel_rfl) (by decide +kernel) (by decide +kernel) (by decide +kernel)
  (by first|exact .inl (by decide +kernel)|exact .inr (by decide +kernel)) (by rw [isSubtype_type];kernel_rfl)
theorem zqw:entryFor table "set_iterator.__next__" = some Builtin.«set_iterator.__next__»:=entryFor_of_tree (by kernel_rfl)
theorem yc1:entryFor table "set_iterator.__iter__" = some Builtin.«dict_keyiterator.__iter__» :=
 entryFor_alias (id':="dict_keyiterator.__iter__") (by kernel_rfl) rfl (by decide +kernel) (by kernel_rfl)
theorem yc2:entryFor table "set.__iter__" = some Builtin.«frozenset.__iter__» :=
 entryFor_alias (id':="frozenset.__iter__") (by kernel_rfl) rfl (by decide +kernel) (by kernel_rfl)
theorem zqx:Manifest.owners.lookup (String.ofList ['r','o','t','a','r','e','t','i','_','t','e','s'].reverse)=some Manifest.sig_set_iterator:=by kernel_rfl
theorem zqy (a:Value):argsOk "set_iterator.__next__" ⟨[a],[]⟩:=by
 unfold argsOk;rw [signature?_of (id:="set_iterator.__next__") (n:=['_','_','t','x','e','n','_','_']) (o:=['r','o','t','a','r','e','t','i','_','t','e','s']) (by kernel_rfl) zqx];kernel_rfl
theorem yc3 (a:Value):argsOk "set_iterator.__iter__" ⟨[a],[]⟩:=by
 unfold argsOk;rw [signature?_of (id:="set_iterator.__iter__") (n:=['_','_','r','e','t','i','_','_']) (o:=['r','o','t','a','r','e','t','i','_','t','e','s']) (by kernel_rfl) zqx];kernel_rfl
noncomputable def ord (w:World) (a:Addr) (es:Array (Int × Value)) (ep:Nat):Array (Int × Value):=if w.params.followText "set-order" then pickOrder (w.params.setOrder a ep) es else es
theorem zqz (w:World) (a:Addr) (es:Array (Int × Value)) (ep:Nat):(ord w a es ep).toList.Perm es.toList:=by
 unfold ord;split
 ·exact yc0 _ _
 ·exact List.Perm.refl _
theorem zf8 (w:World) (a:Addr) (es:Array (Int × Value)) (ep:Nat):(ord w a es ep).size=es.size:=by
 have:=(zqz w a es ep).length_eq
 simpa using this
structure SIt (w:World) (h:Heap) (I a:Addr) (es:Array (Int × Value)) (ep:Nat) (t:SetTable) (i:Nat):Prop where
 it:∃o slot,h.get? I=some o/\o.cls=.type "set_iterator"/\o.data=.fields #[.int (slot:Nat) 0,.int (i:Nat) 0,.ref a,.int (es.size:Nat) 0,.int (ep:Nat) 0]/\(w.params.followText "set-order" = false->below t.place slot=i)
 st:∃o,h.get? a=some o/\o.ExactSet/\o.data=.set es ep t
 ok:TOk t es
 pl:t.plain=true
 ld:t.led=led0 w
theorem zg4 {M:Model}{A:Around}{α:Type}{b:Bool}{x y:Sem α}{Q:α->Shared->Prop}{E:Value->Shared->Prop}{s:Shared}(hb:b=false) (h:wpAny M A y Q E s):wpAny M A (if b=true then x else y) Q E s:=by
 rw [hb];exact h
section
variable {prog:Program}{w:World}{A:Around}{E:Value->Shared->Prop}{s:Shared}{a I:Addr}{es:Array (Int × Value)}{ep i:Nat}{t:SetTable}
theorem SIt.typeIs (x:SIt w s.heap I a es ep t i):s.TypeIs (.ref I) "set_iterator":=let ⟨o,_,ho,hc,_⟩:=x.it;⟨o,ho,hc⟩
theorem yc4 {Q:Value->Shared->Prop}(x:SIt w s.heap I a es ep t i) (h:Q (.ref I) s):wpAny (model prog w) A (pyIter (.ref I)) Q E s:=by
 refine wpAny_pyIter_slot x.typeIs zqv (wpAny_call_entry zqv x.typeIs yc1 ?_ (yc3 _))
 show wpAny _ _ (ret (.ref I)) _ _ s
 exact qwp ⟨_,rfl,"set_iterator",_,x.typeIs,slot_si_next.lookup,h⟩
theorem byText_wp {Q:Bool->Shared->Prop}(h:Q (w.params.followText "set-order") s):wpAny (model prog w) A setsByText Q E s:=by
 unfold setsByText
 exact qwb (wpAny_askSetting (qwp h))
theorem zq0 {o:Obj}{Q:Array (Int × Value)->Shared->Prop}(ho:s.heap.get? a=some o) (hd:o.data=.set es ep t) (ok:TOk t es) (pl:t.plain=true) (ld:t.led=led0 w) (h:Q (ord w a es ep) s):wpAny (model prog w) A (setWalk a) Q E s:=by
 unfold setWalk
 refine qwb (wpAny_setState_of ho hd ok.fits ?_)
 dsimp only
 refine qwb (byText_wp ?_)
 unfold ord at h
 cases hb:w.params.followText "set-order" with
 | true =>
  rw [hb] at h
  simp only [if_true] at h ⊢
  exact qwb (wpAny_askSetting (qwp h))
 | false =>
  rw [hb] at h
  have ld':t.led=true:=by rw [ld];unfold led0;rw [hb];rfl
  simp only [qbf,if_false] at h ⊢
  refine zg4 (show (!t.plain && decide (es.size > 1))=false by rw [pl];rfl) ?_
  refine qwb ?_
  show wpAny _ _ (if (!t.led && decide (es.size > 1))=true then _ else _) _ _ _
  rw [ld']
  simp only [Bool.not_true,Bool.false_and,qbf,if_false]
  exact qwp (qwp h)
end
section
theorem zq1 (hr:Ris xs):below xs 0=0:=by
 obtain ⟨_,h2,_⟩:=zgl hr 0
 rcases Nat.eq_zero_or_pos (below xs 0) with h|h
 ·exact h
 ·exact absurd (h2 0 h) (Nat.not_lt_zero _)
theorem yc5 (ho:s.heap.get? a=some o) (hx:o.ExactSet) (hd:o.data=.set es ep t) (ok:TOk t es) (pl:t.plain=true) (ld:t.led=led0 w)
  (h:SIt w (s.heap.push { cls:=.type "set_iterator",data:=.fields #[.int (0:Nat) 0,.int (0:Nat) 0,.ref a,.int (es.size:Nat) 0,.int (ep:Nat) 0] }) s.heap.objs.size a es ep t 0->Q (.ref s.heap.objs.size) { s with heap:=s.heap.push { cls:=.type "set_iterator",data:=.fields #[.int (0:Nat) 0,.int (0:Nat) 0,.ref a,.int (es.size:Nat) 0,.int (ep:Nat) 0] } }) :
  wpAny (model prog w) A (pyIter (.ref a)) Q E s:=by
 have hT:s.TypeIs (.ref a) "set":=⟨o,ho,hx.1⟩
 refine wpAny_pyIter_slot hT F.slot_set_iter (wpAny_call_entry F.slot_set_iter hT yc2 ?_ (F.args_set_iter_1 _))
 unfold Builtin.«frozenset.__iter__»
 refine qwb ?_
 show wpAny _ _ (pure a) _ _ s
 refine qwp ?_
 refine qwb ?_
 unfold Builtin.Frozenset.sizeOf
 refine qwb (wpAny_setEntries_of ho hd ok.fits (qwp ?_))
 refine qwb ?_
 unfold setDrawn
 refine qwb (wpAny_setState_of ho hd ok.fits ?_)
 dsimp only
 refine qwb (byText_wp (qwp ?_))
 refine zg4 (show (!w.params.followText "set-order" && (!t.plain && decide (es.size > 1)))=false by rw [pl];simp) ?_
 refine qwb (qwp ?_)
 refine qwb ?_
 unfold setEpoch
 refine qwb (wpAny_setState_of ho hd ok.fits (qwp ?_))
 dsimp only
 unfold newFields
 refine qwb (wpAny_newObj_type (qwp ⟨_,rfl,"set_iterator",_,⟨_,Heap.get?_push_size _ rfl,rfl⟩,slot_si_next.lookup,?_⟩))
 refine h ⟨⟨_,0,Heap.get?_push_size _ rfl,rfl,rfl,λ_=>zq1 ok.ris⟩,⟨o,qps _ ho,hx,hd⟩,ok,pl,ld⟩
theorem yc6 (hr:Ris xs) (h:xs[i]? = some j):below xs (j+1)=i+1:=by
 obtain ⟨h1,h2,h3⟩:=zgl hr (j+1)
 obtain ⟨hi,hj⟩:=zhe h 0
 have a1:i<below xs (j+1):=by
  rcases Nat.lt_or_ge i (below xs (j+1)) with q|q
  ·exact q
  ·have:=h3 i q hi
   lia
 have a2:¬i+1<below xs (j+1):=λq=>by
  have b1:=h2 (i+1) q
  have b2:=hr i (i+1) (by lia) (by lia)
  lia
 lia
theorem yc7 {slot:Nat}{Q:Option (Value × Nat)->Shared->Prop}(ho:s.heap.get? a=some o) (hd:o.data=.set es ep t) (ok:TOk t es) (pl:t.plain=true) (ld:t.led=led0 w) (hb:w.params.followText "set-order" = false->below t.place slot=i) (hi:i<es.size)
  (h:∀slot':Nat,(w.params.followText "set-order" = false->below t.place slot' = i+1)->Q (some (((ord w a es ep)[i]'(by rw [zf8];exact hi)).2,slot')) s) :
  wpAny (model prog w) A (setNext a slot i ep) Q E s:=by
 unfold setNext
 refine qwb (wpAny_setState_of ho hd ok.fits ?_)
 dsimp only
 refine qwb (byText_wp ?_)
 cases hbt:w.params.followText "set-order" with
 | true =>
  simp only [if_true]
  rw [if_neg (by simp)]
  refine qwb (zq0 ho hd ok pl ld (qwp ?_))
  rw [Array.getElem?_eq_getElem (by rw [zf8];exact hi)]
  exact h slot λz=>by rw [hbt] at z;cases z
 | false =>
  have ld':t.led=true:=by rw [ld];unfold led0;rw [hbt];rfl
  have hb':=hb hbt
  simp only [qbf,if_false]
  refine zg4 (show (!t.plain && decide (es.size > 1))=false by rw [pl];rfl) ?_
  refine qwb ?_
  show wpAny _ _ (if (!t.led && !es.isEmpty)=true then _ else _) _ _ _
  refine zg4 (show (!t.led && !es.isEmpty)=false by rw [ld'];rfl) ?_
  refine qwp ?_
  have hp:t.place[i]? = some (t.place.getD i 0):=zkr (by rw [ok.sz];exact hi) 0
  rw [hb',Array.getElem?_eq_getElem hi,hp]
  refine qwp ?_
  have:=h (t.place.getD i 0+1) λ_=>yc6 ok.ris hp
  unfold ord at this
  simp only [hbt,qbf,if_false] at this
  exact this
theorem yc8 {slot:Nat}{Q:Option (Value × Nat)->Shared->Prop}(ho:s.heap.get? a=some o) (hd:o.data=.set es ep t) (ok:TOk t es) (pl:t.plain=true) (ld:t.led=led0 w) (hb:w.params.followText "set-order" = false->below t.place slot=i) (hi:es.size<=i)
  (h:Q none s):wpAny (model prog w) A (setNext a slot i ep) Q E s:=by
 unfold setNext
 refine qwb (wpAny_setState_of ho hd ok.fits ?_)
 dsimp only
 refine qwb (byText_wp ?_)
 cases hbt:w.params.followText "set-order" with
 | true =>
  simp only [if_true]
  rw [if_neg (by simp)]
  refine qwb (zq0 ho hd ok pl ld (qwp ?_))
  rw [Array.getElem?_eq_none (by rw [zf8];exact hi)]
  exact h
 | false =>
  have ld':t.led=true:=by rw [ld];unfold led0;rw [hbt];rfl
  have hb':=hb hbt
  simp only [qbf,if_false]
  refine zg4 (show (!t.plain && decide (es.size > 1))=false by rw [pl];rfl) ?_
  refine qwb ?_
  show wpAny _ _ (if (!t.led && !es.isEmpty)=true then _ else _) _ _ _
  refine zg4 (show (!t.led && !es.isEmpty)=false by rw [ld'];rfl) ?_
  refine qwp ?_
  rw [hb',Array.getElem?_eq_none hi]
  exact qwp h
theorem yc9 (x:SIt w s.heap I a es ep t i) (hne:a≠I) (hi:i<es.size)
  (h:∀h',SIt w h' I a es ep t (i+1)->Heap.SameBut I s.heap h'->Q (some ((ord w a es ep)[i]'(by rw [zf8];exact hi)).2) { s with heap:=h' }) :
  wpAny (model prog w) A (pyNext (.ref I)) Q E s:=by
 obtain ⟨⟨o,slot,ho,hc,hd,hb⟩,⟨oa,hoa,hxa,hda⟩,ok,pl,ld⟩:=id x
 unfold pyNext
 refine qwb (wpAny_attempt (wpAny_callSpecial?_slot (name:=Str.ofString "__next__") x.typeIs slot_si_next
  (wpAny_call_entry slot_si_next x.typeIs zqw ?_ (zqy _))))
 unfold Builtin.«set_iterator.__next__»
 refine qwb ?_
 show wpAny _ _ (pure (Value.ref I,[])) _ _ s
 refine qwp ?_
 refine qwb (wpAny_fieldsOf ho hd ?_)
 dsimp only
 refine qwb (wpAny_setEntries_of hoa hda ok.fits ?_)
 rw [if_neg (by simp)]
 refine qwb ?_
 refine yc7 (i:=i) hoa hda ok pl ld hb hi λslot' hs'=>?_
 dsimp only
 refine qwb (wpAny_setField ho hd (by simp) ?_)
 have g1:(s.heap.update I (Obj.mapFields (·.setIfInBounds 0 (rawInt (slot':Nat))))).get? I=some (Obj.mapFields (·.setIfInBounds 0 (rawInt (slot':Nat))) o):=Heap.get?_update_self _ ho (Obj.isFreed_of_fields (Obj.data_mapFields hd _))
 have d1:=Obj.data_mapFields hd (·.setIfInBounds 0 (rawInt (slot':Nat)))
 refine qwb (wpAny_setField g1 d1 (by simp) ?_)
 have g2:((s.heap.update I (Obj.mapFields (·.setIfInBounds 0 (rawInt (slot':Nat))))).update I (Obj.mapFields (·.setIfInBounds 1 (rawInt ((i:Int)+1))))).get? I=some (Obj.mapFields (·.setIfInBounds 1 (rawInt ((i:Int)+1))) (Obj.mapFields (·.setIfInBounds 0 (rawInt (slot':Nat))) o)):=Heap.get?_update_self _ g1 (Obj.isFreed_of_fields (Obj.data_mapFields d1 _))
 have d2:=Obj.data_mapFields d1 (·.setIfInBounds 1 (rawInt ((i:Int)+1)))
 have sb:=(Heap.SameBut.update s.heap I (Obj.mapFields (·.setIfInBounds 0 (rawInt (slot':Nat))))).trans (Heap.SameBut.update _ I (Obj.mapFields (·.setIfInBounds 1 (rawInt ((i:Int)+1)))))
 refine qwp ⟨_,rfl,qwp (h _ ⟨⟨_,slot',g2,?_,?_,hs'⟩,⟨oa,?_,hxa,hda⟩,ok,pl,ld⟩ sb)⟩
 ·rw [Obj.cls_mapFields,Obj.cls_mapFields];exact hc
 ·rw [d2];simp [rawInt]
 ·exact sb.extBut _ _ hne hoa
theorem yda (hh:A.handled=none) (x:SIt w s.heap I a es ep t i) (hi:es.size<=i)
  (hQ:∀h',Heap.ExtBut I s.heap h'->Q none { s with heap:=h' }) :
  wpAny (model prog w) A (pyNext (.ref I)) Q E s:=by
 obtain ⟨⟨o,slot,ho,hc,hd,hb⟩,⟨oa,hoa,hxa,hda⟩,ok,pl,ld⟩:=id x
 unfold pyNext
 refine qwb (wpAny_attempt (wpAny_callSpecial?_slot (name:=Str.ofString "__next__") x.typeIs slot_si_next
  (wpAny_call_entry slot_si_next x.typeIs zqw ?_ (zqy _))))
 unfold Builtin.«set_iterator.__next__»
 refine qwb ?_
 show wpAny _ _ (pure (Value.ref I,[])) _ _ s
 refine qwp ?_
 refine qwb (wpAny_fieldsOf ho hd ?_)
 dsimp only
 refine qwb (wpAny_setEntries_of hoa hda ok.fits ?_)
 rw [if_neg (by simp)]
 refine qwb ?_
 refine yc8 (i:=i) hoa hda ok pl ld hb hi ?_
 dsimp only
 refine qwb (wpAny_setField ho hd (by simp) ?_)
 refine qwb ?_
 simp only [newExc,newTuple]
 refine qwb (wpAny_newObj_type ?_ (by size_fits))
 refine qwb (m:=firstArgMember _ _) (wpAny_of_eq (a:=Value.none) (by first|rfl|(simp only [firstArgMember];rfl)) ?_)
 refine wpAny_newObj_type ?_ (by size_fits)
 simp only [raiseNew]
 refine qwb (wpAny_handled ?_)
 rw [show A.in1.handled=none from hh]
 refine qwb (qwp (wpAny_throw ?_))
 refine qwb (wpAny_isInstance (T:="StopIteration") (b:=true) ⟨_,Heap.get?_push_size _ rfl,rfl⟩ isSubtype_stop ?_)
 exact qwp (hQ _ (((Heap.SameBut.update ..).extBut.push _).push _))
theorem Walks.iset (hh:A.handled=none) (I a:Addr) (hne:a≠I) (es:Array (Int × Value)) (ep:Nat) (t:SetTable) :
  Walks prog w A I [I,a] [I] es.size (λi v=>∃h,(ord w a es ep)[i]? = some (h,v)) (λi h=>SIt w h I a es ep t i) where
 sub:=λb hb=>by simp at hb;simp [hb]
 frame:=λ_ _ _ st hk=>⟨let ⟨o,sl,ho,r⟩:=st.it;⟨o,sl,hk I (by simp) o ho,r⟩,let ⟨o,ho,r⟩:=st.st;⟨o,hk a (by simp) o ho,r⟩,st.ok,st.pl,st.ld⟩
 item:=λi s Q E hi st hQ=>by
  refine yc9 st hne hi λh' hit' hs'=>?_
  have hi':i<(ord w a es ep).size:=by rw [zf8];exact hi
  exact hQ _ h' s.toks ⟨(ord w a es ep)[i].1,by rw [Array.getElem?_eq_getElem hi']⟩ hit' λb o hb e=>hs'.extBut b o (λh=>hb (by simp [h])) e
 done:=λs Q E st hQ=>yda hh st (qlr _) λh' he'=>hQ h' s.toks λb o hb e=>he' b o (λh=>hb (by simp [h])) e
 self:=λ_ _ _ _ st hQ=>yc4 st hQ
end
open PyProof.Rows
noncomputable def nub (σ:List Int) (x:Int):List Int:=if x∈σ then σ else σ++[x]
noncomputable def nubs (f:Nat->Int):Nat->List Int
 | 0=>[]
 | i+1=>nub (nubs f i) (f i)
theorem nubs_len (f:Nat->Int):∀i,(nubs f i).length<=i
 | 0=>qlr _
 | i+1=>by
  have:=nubs_len f i
  unfold nubs nub
  split
  ·lia
  ·rw [qla];show _+1<=_;lia
theorem nubs_mem (f:Nat->Int) (x:Int):∀i,x∈nubs f i↔∃j,j<i/\f j=x
 | 0=>by simp [nubs]
 | i+1=>by
  have ih:=nubs_mem f x i
  have:x∈nubs f (i+1)↔x∈nubs f i\/x=f i:=by
   show x∈nub (nubs f i) (f i)↔_
   unfold nub
   split
   ·rename_i h
    constructor
    ·exact .inl
    ·rintro (h' | h')
     ·exact h'
     ·rw [h'];exact h
   ·simp
  rw [this,ih]
  constructor
  ·rintro (⟨j,h1,h2⟩|h)
   ·exact ⟨j,by lia,h2⟩
   ·exact ⟨i,by lia,h.symm⟩
  ·rintro ⟨j,h1,h2⟩
   rcases Nat.lt_or_ge j i with h|h
   ·exact .inl ⟨j,h,h2⟩
   ·have:j=i:=by lia
    subst this;exact .inr h2.symm
section
theorem ISet.at (x:ISet w a σ h) (e:∀o,h.get? a=some o->h'.get? a=some o):ISet w a σ h':=let ⟨o,ho,r⟩:=x;⟨o,e o ho,r⟩
theorem setAdd_nub (hT:ISet w a σ s.heap) (hz:σ.length<900) (h:∀b h',Heap.SameBut a s.heap h'->ISet w a (nub σ i) h'->Q b { s with heap:=h',toks:=s.toks+1 }) :
  wpAny (model prog w) A (setAdd a (.int i tk)) Q E s:=by
 unfold setAdd
 refine wpAny_holding ?_
 refine qwb ((intKind prog w).pyHash (k:=i) (intKind_is _ _ _ _) ?_)
 refine ycy (s:={ s with toks:=s.toks+1 }) hT hz (λhi=>?_) λhi h' hs hI=>?_
 ·exact h false s.heap (Heap.SameBut.refl _ _) (by unfold nub;rw [if_pos hi];exact hT)
 ·exact h true h' hs (by unfold nub;rw [if_neg hi];exact hI)
end
section
variable {R:Result->Shared->Prop}{n:Nat}{P:Nat->Value->Prop}{St:Nat->Heap->Prop}
theorem ydb (W:Walks prog w A.in1 I fp wr n P St) (S:Addr) (hSf:S ∉ fp) (val:Nat->Int) (hval:∀i v,P i v->∃t,v=.int (val i) t) (hb:n<900) :
  ∀(k i:Nat) (s:Shared),n-i=k->i<=n->St i s.heap->ISet w S (nubs val i) s.heap ->
   (∀h' tk,(∀b o,b ∉ S :: wr->s.heap.get? b=some o->h'.get? b=some o)->ISet w S (nubs val n) h'->R (.ok (.ret .none)) { s with heap:=h',toks:=tk }) ->
   codeAny (model prog w) A (.builtin "set.update.loop" ⟨[.ref S,.ref I],[]⟩) R s:=by
 have hSw:S ∉ wr:=λh=>hSf (W.sub _ h)
 intro k
 induction k with
 | zero =>
  intro i s hk hi hst hS hR
  have hin:i=n:=by lia
  subst hin
  refine codeAny_builtin F.entry_set_update_loop ?_
  rw [Around.under_plainId F.plain_set_update_loop _]
  show wpAny _ A.in1 (pyNext (.ref I) >>= _) _ _ s
  refine qwb (W.done s _ _ hst λh' tk hm=>?_)
  show wpAny _ A.in1 (ret Value.none) _ _ _
  exact qwp (hR h' tk (λb o hb e=>hm b o (λz=>hb (List.mem_cons_of_mem _ z)) e) (hS.at λo e=>hm S o hSw e))
 | succ k ih =>
  intro i s hk hi hst hS hR
  have hlt:i<n:=by lia
  refine codeAny_builtin F.entry_set_update_loop ?_
  rw [Around.under_plainId F.plain_set_update_loop _]
  show wpAny _ A.in1 (pyNext (.ref I) >>= _) _ _ s
  refine qwb (W.item i s _ _ hlt hst λv h' tk hP hst' hm=>?_)
  obtain ⟨t,rfl⟩:=hval i v hP
  have hS':ISet w S (nubs val i) h':=hS.at λo e=>hm S o hSw e
  show wpAny _ A.in1 (holding [Value.int (val i) t] (setAdd S (.int (val i) t)) >>= _) _ _ _
  refine qwb (wpAny_holding ?_)
  refine setAdd_nub (s:={ s with heap:=h',toks:=tk }) hS' (by have:=nubs_len val i;lia) λb h2 hsb hS2=>?_
  refine qwp ⟨plainId_quiet F.plain_set_update_loop _,ih (i+1) _ (by lia) hlt (W.frame _ h' _ hst' λb hb o e=>?_) hS2 λh3 tk3 hm3 hS3=>?_⟩
  ·show h2.get? b=some o
   rw [hsb.2 b (λh:b=S=>hSf (by rw [<-h];exact hb))];exact e
  ·refine hR h3 tk3 (λb o hb e=>hm3 b o hb ?_) hS3
   show h2.get? b=some o
   rw [hsb.2 b (λh:b=S=>hb (by rw [h];simp))]
   exact hm b o (λz=>hb (List.mem_cons_of_mem _ z)) e
end
open L3
section
theorem iset0 (e:h.get? a=some (zc7 (led0 w))):ISet w a [] h :=
 ⟨_,e,⟨rfl,rfl,rfl⟩,#[],0,_,rfl,⟨rfl,rfl,⟨3,rfl,qlr _⟩,λi j hi hj=>absurd hj (by simp [SetTable.fresh]),λj hj=>by simp [In,SetTable.fresh] at hj,by show 0*5<7*3;decide,by show 7<8192;decide,λi h v e=>by simp at e⟩,rfl,rfl,⟨λe he=>by simp at he,λi hi=>by simp at hi,rfl,List.nodup_nil⟩⟩
theorem ydc (a:Value)
  (h:Q₁ (.ref s.heap.objs.size) { s with heap:=s.heap.push (zc7 (led0 w)) }) :
  codeAny (model prog w) A (.call (.builtin "set.__new__") ⟨[.type "set",a],[]⟩) (wants Q₁ E) s:=by
 refine codeAny_of_tree ?_
 show wpAny _ A.in1 (do checkBuiltinCall "set.__new__" ⟨[.type "set",a],[]⟩;again (.builtin "set.__new__" ⟨[.type "set",a],[]⟩)) _ _ s
 refine qwb (wpAny_of_eq (F.newCall_set_1 a) (qwp ⟨plainId_quiet F.plain_set_new _,codeAny_builtin F.entry_set_new ?_⟩))
 rw [Around.under_plainId F.plain_set_new _]
 unfold Builtin.«set.__new__» Builtin.Frozenset.newClass
 have hsub:=sub_set_self
 obtain ⟨hp,g,d,tk,os⟩:=s
 dsimp only
 wp_walk
 refine wpAny_askSetting (qwp ?_)
 dsimp only
 simp only [newObj]
 refine qwb (wpAny_alloc (qwp ?_))
 exact qwp h
end
open SP PySem.W PySem.Calls
section
variable {prog:Program}{w:World}{A:Around}{E:Value->Shared->Prop}{s:Shared}{d:Addr}{es:Array (Int × Value)}{ep:Nat}{t:SetTable}
def SAt (w:World) (h:Heap) (d:Addr) (es:Array (Int × Value)) (ep:Nat) (t:SetTable):Prop:=(∃o,h.get? d=some o/\o.ExactSet/\o.data=.set es ep t)/\TOk t es/\t.plain=true/\t.led=led0 w
theorem SAt.keep (x:SAt w h d es ep t) (k:∀o,h.get? d=some o->h'.get? d=some o):SAt w h' d es ep t:=let ⟨⟨o,e,r⟩,q⟩:=x;⟨⟨o,k o e,r⟩,q⟩
theorem SAt.lt (x:SAt w h d es ep t):d<h.objs.size:=let ⟨⟨_,e,_⟩,_⟩:=x;Heap.lt_size e
theorem SAt.ty (x:SAt w s.heap d es ep t):s.TypeIs (.ref d) "set":=let ⟨⟨o,e,c,_⟩,_⟩:=x;⟨o,e,c.1⟩
theorem ydd (hT:s.TypeIs (.ref r) "set") (h:Q false s):wpAny (model prog w) A (Builtin.List.listLengthHint (.ref r)) Q E s:=by
 unfold Builtin.List.listLengthHint
 refine qwb (wpAny_specialOf hT PySem.F.slot_set_len.lookup ?_)
 generalize hid:("set.__len__":String)=id0
 wp_delta
 rw [show splitId id0=some ("set","__len__") from by subst hid;decide +kernel]
 subst hid
 refine qwb (wpAny_isInstance (T:="set") (b:=true) hT (by rw [isSubtype_type];kernel_rfl) ?_)
 refine wpAny_ite_split (λhab=>absurd hab (by decide)) (λ_=>?_)
 refine wpAny_ite_split (λ_=>?_) (λhab=>absurd (by decide +kernel) hab)
 refine qwb (wpAny_typeOf hT ?_)
 exact qwp h
theorem yde:KdlSrc prog w "set" d d es.size (λi v=>∃h,(ord w d es ep)[i]? = some (h,v)) (λh=>SAt w h d es ep t) where
 type:=λ_ hm=>hm.ty
 there:=λ_ hm=>⟨hm.lt,hm.lt⟩
 keep:=λ_ _ hm hk=>hm.keep λo e=>hk d (.inl rfl) o e
 notList:=by decide
 notTuple:=by decide
 hint:=λ_ _ _ _ hm hq=>ydd hm.ty hq
 iter:=λ_ s hh hm=>⟨_,_,(λ_ _ hq=>let ⟨⟨_,e,x,dt⟩,ok,pl,ld⟩:=hm;yc5 e x dt ok pl ld λ_=>hq),Walks.iset hh _ d (Nat.ne_of_lt hm.lt) es ep t,let ⟨⟨o,e,x,dt⟩,ok,pl,ld⟩:=hm;⟨⟨_,0,Heap.get?_push_size _ rfl,rfl,rfl,λ_=>zq1 ok.ris⟩,⟨o,qps _ e,x,dt⟩,ok,pl,ld⟩⟩
theorem ydf (hh:A.handled=none) (x:SAt w s.heap d es ep t) (hn:es.size<=sizeLine)
  (h:∀(h':Heap) (tk:Nat),s.heap.objs.size<=h'.objs.size->(∀b o,s.heap.get? b=some o->h'.get? b=some o)->R ((ord w d es ep).toList.map (·.2)) { s with heap:=h',toks:=tk }):wpAny (model prog w) A (collect (.ref d)) R E s:=by
 have K:=yde (prog:=prog) (w:=w) (d:=d) (es:=es) (ep:=ep) (t:=t)
 have hS₁:(s.heap.push { cls:=.type "list",data:=.seq ([]:List Value).toArray }).get? s.heap.objs.size=some { cls:=.type "list",data:=.seq #[] }:=Heap.get?_push_size _ rfl
 have zep:∀(h':Heap) (tk:Nat) (acc:Array Value) (c:Nat),(∀b o,s.heap.get? b=some o->h'.get? b=some o)->h'.get? s.heap.objs.size=some { cls:=.type "list",dict:=none,data:=.seq acc c,slots:=#[] }->ItemsOf (λi v=>∃h,(ord w d es ep)[i]? = some (h,v)) acc es.size->R acc.toList { s with heap:=h',toks:=tk }:=λh' tk acc c k g a=>by
  have e:acc.toList=(ord w d es ep).toList.map (·.2):=by
   apply List.ext_getElem?
   intro j
   rw [qgm,Array.getElem?_toList,Array.getElem?_toList]
   rcases Nat.lt_or_ge j acc.size with hj|hj
   ·rw [Array.getElem?_eq_getElem hj]
    obtain ⟨q,z⟩:=a.2 j _ (Array.getElem?_eq_getElem hj)
    rw [z];rfl
   ·rw [Array.getElem?_eq_none hj,Array.getElem?_eq_none (by rw [zf8,<-a.1];exact hj)];rfl
  rw [e]
  exact h h' tk (Nat.le_of_lt (Heap.lt_size g)) k
 unfold collect
 refine qwb (wpAny_runValue (codeAny_builtin entry_proto_collect' ?_))
 rw [Around.under_plainId PySem.F.plain_proto_collect _]
 refine qwb (m:=newList []) (wpAny_newObj_type (qwp ⟨plainId_quiet PySem.F.plain_list_iadd _,codeAny_builtin entry_list_iadd' ?_⟩))
 rw [Around.under_plainId PySem.F.plain_list_iadd _]
 have key:=kdl_extend (A:=A) (s:={ s with heap:=s.heap.push { cls:=.type "list",data:=.seq ([]:List Value).toArray } }) (R:=λ(q:Result) (s':Shared)=>∃(h':Heap) (tk:Nat) (acc:Array Value) (c:Nat),q=.ok (.ret (.ref s.heap.objs.size))/\s' = { s with heap:=h',toks:=tk }/\(∀b o,s.heap.get? b=some o->h'.get? b=some o)/\h'.get? s.heap.objs.size=some { cls:=.type "list",dict:=none,data:=.seq acc c,slots:=#[] }/\ItemsOf (λi v=>∃h,(ord w d es ep)[i]? = some (h,v)) acc es.size)
  K hh (K.keep _ _ x λb _ o e=>qps _ e) s.heap.objs.size (Nat.ne_of_gt x.lt) (Nat.ne_of_gt x.lt) (.ref s.heap.objs.size) 0 hS₁
  (λh' tk acc c hk hS' hacc=>⟨h',tk,acc,c,rfl,rfl,λb o e=>hk b o (Nat.ne_of_lt (Heap.lt_size e)) (qps _ e),hS',hacc⟩) hn
 refine wpAny_mono key (λfin s' z=>?_) λe s' z=>let ⟨_,_,_,_,e',_⟩:=z;(by cases e')
 cases fin with
 | done f =>
  obtain ⟨h',tk,acc,c,e,rfl,k,g,a⟩:=z
  cases e
  show wpAny _ A (load s.heap.objs.size >>= _) _ _ _
  exact qwb (wpAny_load g (qwp (zep h' tk acc c k g a)))
 | again c₁ =>
  refine ⟨z.1,codeAny_mono z.2 λq s₂ y=>?_⟩
  obtain ⟨h',tk,acc,c,rfl,rfl,k,g,a⟩:=y
  show wpAny _ A (load s.heap.objs.size >>= _) _ _ _
  exact qwb (wpAny_load g (qwp (zep h' tk acc c k g a)))
theorem zq2:∀{σ ns:List Int},σ.Nodup->(∀i∈σ,i∈ns)->σ.length=ns.length->σ.Perm ns
 | [],ns,_,_,hl=>by rw [List.length_eq_zero_iff.mp hl.symm]
 | i :: r,ns,nd,hs,hl=>by
  have hi:=hs i List.mem_cons_self
  rw [List.nodup_cons] at nd
  have h1:=List.perm_cons_erase hi
  refine (List.Perm.cons i (zq2 (ns:=ns.erase i) nd.2 (λj hj=>?_) ?_)).trans h1.symm
  ·exact (List.mem_erase_of_ne λz=>nd.1 (by rw [<-z];exact hj)).mpr (hs j (List.mem_cons_of_mem _ hj))
  ·have:=h1.length_eq
   simp at this hl
   lia
theorem zq3:∀(l:List (Int × Value)),(∀e∈l,∃i t,e=(hashInt i,.int i t))->∃ns,IntsAre (l.map (·.2)) ns/\l.map (·.1)=ns.map hashInt/\∀i,i∈ns↔∃t,(hashInt i,Value.int i t)∈l
 | [],_=>⟨[],.nil,rfl,λi=>by simp⟩
 | e :: l,h=>by
  obtain ⟨ns,h1,h2,h3⟩:=zq3 l λe he=>h e (List.mem_cons_of_mem _ he)
  obtain ⟨i,t,rfl⟩:=h e (List.mem_cons_self)
  refine ⟨i :: ns,.cons _ t h1,by rw [List.map_cons,List.map_cons,h2],λj=>?_⟩
  rw [List.mem_cons,h3 j]
  constructor
  ·rintro (rfl|⟨t',z⟩)
   ·exact ⟨t,List.mem_cons_self⟩
   ·exact ⟨t',List.mem_cons_of_mem _ z⟩
  ·rintro ⟨t',z⟩
   rcases List.mem_cons.mp z with z|z
   ·have z2:=congrArg Prod.snd z
    simp only [Value.int.injEq] at z2
    exact .inl z2.1
   ·exact .inr ⟨t',z⟩
theorem ISet.walk (x:ISet w d σ h):∃es ep t ns,SAt w h d es ep t/\es.size=σ.length/\IntsAre ((ord w d es ep).toList.map (·.2)) ns/\ns.Perm σ:=by
 obtain ⟨o,e,hx,es,ep,t,hd,ok,pl,ld,el⟩:=x
 have pm:=zqz w d es ep
 obtain ⟨ns,h1,h2,h3⟩:=zq3 (ord w d es ep).toList λe he=>by
  obtain ⟨i,t,_,z⟩:=el.sub e (pm.mem_iff.mp he)
  exact ⟨i,t,z⟩
 refine ⟨es,ep,t,ns,⟨⟨o,e,hx,hd⟩,ok,pl,ld⟩,el.len,h1,?_⟩
 have hl:ns.length=σ.length:=by
  have q1:=congrArg List.length h2
  have q2:=zf8 w d es ep
  have q3:=el.len
  rw [qlm,qlm,Array.length_toList] at q1
  lia
 have sub:∀i∈σ,i∈ns:=λi hi=>by
  obtain ⟨t,z⟩:=el.sup i hi
  exact (h3 i).mpr ⟨t,pm.mem_iff.mpr z⟩
 exact (zq2 el.nd sub hl.symm).symm
theorem sorted_set (hh:A.handled=none) (x:ISet w d σ s.heap) (h64:σ.length<64)
  (h:∀(h':Heap) (tk:Nat) (D:Addr) (e:Nat) (out:Array Value),(∀b o,s.heap.get? b=some o->h'.get? b=some o)->s.heap.objs.size<=D->h'.get? D=some (seqObj "list" out e)->IntsAre out.toList (L3.sortI σ)->Q (.ref D) { s with heap:=h',toks:=tk }) :
  wpAny (model prog w) A (call (.builtin "sorted") [.ref d]) Q E s:=by
 obtain ⟨es,ep,t,ns,sa,hz,hi,pm⟩:=x.walk
 refine SP.sorted_lays (ns:=ns) (λE R hR=>ydf (by simpa using hh) sa (by rw [sizeLine_eq];lia) λh' tk sz keep=>hR h' tk _ sz keep hi) (by rw [pm.length_eq];exact h64) λh' tk D e out ns' keep sz hD a1 a2 a3=>?_
 have e1:=zmm (a2.trans pm) a3
 subst e1
 exact h h' tk D e out keep sz hD a1
end
end TS
namespace L3
open PySem PySem.Spec PyProof.Rows L2
noncomputable def zdw (ns:List Int):List Int:=TS.nubs (λi=>ns.getD i 0) ns.length
theorem ydg (ns:List Int):(zdw ns).length<=ns.length:=TS.nubs_len _ _
theorem zj1 (ns:List Int) (x:Int):x∈zdw ns↔x∈ns:=by
 unfold zdw
 rw [TS.nubs_mem,List.mem_iff_getElem]
 constructor
 ·rintro ⟨j,hj,e⟩
  exact ⟨j,hj,by rw [<-e];simp [List.getD,hj]⟩
 ·rintro ⟨j,hj,e⟩
  exact ⟨j,hj,by rw [<-e];simp [List.getD,hj]⟩
theorem zq4 (f:Nat->Int):∀i,(TS.nubs f i).Nodup
 | 0=>List.nodup_nil
 | i+1=>by
  have ih:=zq4 f i
  show (TS.nub (TS.nubs f i) (f i)).Nodup
  unfold TS.nub
  split
  ·exact ih
  ·rename_i hn
   rw [List.nodup_append]
   exact ⟨ih,by simp,λx hx y hy z=>hn (by rw [List.mem_singleton.mp hy] at z;rw [<-z];exact hx)⟩
theorem ydh (ns:List Int):(zdw ns).Nodup:=zq4 _ _
theorem zmo (hT:TS.ISet w a σ h):ObjOk P w H h a (.ext (TS.ISet w a σ)) :=
 ⟨hT,let ⟨o,ho,_⟩:=hT;⟨o,ho⟩,λh1 h2 ⟨o,ho,r⟩ k=>⟨o,k o ho,r⟩⟩
section
def zmp (X:Cx):List V->Hp->VK->Prop:=λxs H Q=>∃(q:Addr) (σ:List Int),xs=[.ref q]/\H q=some (.ext (TS.ISet X.w q σ))/\σ.length<64/\∀l,H l=none->Q (.ref l) (upd H l (.lst ((sortI σ).map V.int)))
theorem zq5 (hcalm:X.calm=true):CallR X (.builtin "sorted") (zmp X):=by
 intro pins s σ H xs us Q I r h
 obtain ⟨q,τ,rfl,hH,h64,hq⟩:=h
 obtain ⟨u,rfl,ru⟩:=zdy r
 cases ru
 have hO:TS.ISet X.w q τ s.heap:=(I.hok q _ hH).1
 refine TS.sorted_set (I.ok.hd hcalm) hO h64 λh' tk D e out keep sz hD a1=>?_
 exact ⟨.ref D,_,I.laid (t':=tk) keep sz (show ObjOk X.prog X.w _ _ _ (.lst ((sortI τ).map V.int)) from ⟨by rw [qlm,(zdi τ).length_eq,sizeLine_eq];lia,out.toList,e,zmn a1,by rw [hD]⟩),rfl,hq D (I.hok.fresh sz)⟩
end
end L3
namespace HT
open PySem PyProof.Rows
theorem ydi (n:Nat):Builtin.Slice.slicePlaces ((n:Int)-1) (-1) (-1)=n:=by
 unfold Builtin.Slice.slicePlaces
 have h1:¬((-1:Int) > 0):=by decide
 simp only [h1,if_false,Int.neg_neg,Int.ediv_one]
 split <;> lia
theorem zq6 {α β:Type}{f:α->Option β}{g:α->β}:∀{l:List α},(∀m∈l,f m=some (g m))->l.filterMap f=l.map g
 | [],_=>rfl
 | x :: l,h=>by rw [List.filterMap_cons,h x List.mem_cons_self,List.map_cons,zq6 λm hm=>h m (List.mem_cons_of_mem _ hm)]
theorem ydj (xs:Array Value):((List.range xs.size).filterMap λ(m:Nat)=>xs[(((xs.size:Int)-1)+(m:Int)*(-1)).toNat]?).toArray=xs.toList.reverse.toArray:=by
 congr 1
 have e:∀m∈List.range xs.size,xs[(((xs.size:Int)-1)+(m:Int)*(-1)).toNat]? = some (xs.toList.reverse.getD m .none):=λm hm=>by
  have hm:=List.mem_range.mp hm
  have e1:(((xs.size:Int)-1)+(m:Int)*(-1)).toNat=xs.size-1-m:=by lia
  rw [e1,Array.getElem?_eq_getElem (by lia)]
  congr 1
  rw [List.getD_eq_getElem?_getD,List.getElem?_reverse (by rw [Array.length_toList];exact hm),Array.length_toList,Array.getElem?_toList,Array.getElem?_eq_getElem (by lia)]
  rfl
 apply List.ext_getElem?
 intro i
 have e2:(List.range xs.size).filterMap (λ(m:Nat)=>xs[(((xs.size:Int)-1)+(m:Int)*(-1)).toNat]?)=(List.range xs.size).map λm=>xs.toList.reverse.getD m .none:=by
  exact zq6 e
 rw [e2,qgm]
 by_cases hi:i<xs.size
 ·rw [List.getElem?_range hi]
  have hl:i<xs.toList.reverse.length:=by rw [List.length_reverse,Array.length_toList];exact hi
  rw [qge hl]
  show some (xs.toList.reverse.getD i .none)=_
  rw [List.getD_eq_getElem?_getD,qge hl];rfl
 ·rw [List.getElem?_eq_none (by simpa using hi),List.getElem?_eq_none (by simpa using hi)];rfl
section
theorem ydk {u:Tok}{n:Nat}{Q:Int × Int × Nat->Shared->Prop}(hs:s.heap.IsSliceOf sl .none .none (.int (-1) u)) (h:Q ((n:Int)-1,-1,n) s):wpAny (model prog w) A (Builtin.Slice.sliceApplied (.ref sl) (pure (n:Int))) Q E s:=by
 obtain ⟨os,hos,hcs,hds⟩:=id hs
 unfold Builtin.Slice.sliceApplied Builtin.Slice.sliceFields
 refine qwb (qwb (wpAny_field hos hds (x:=.none) rfl (qwb (wpAny_field hos hds (x:=.none) rfl (qwb (wpAny_field hos hds (x:=.int (-1) u) rfl (qwp ?_)))))))
 refine qwb (slicePart_int ?_)
 show wpAny _ _ (if ((-1:Int) == 0)=true then _ else _) _ _ s
 rw [if_neg (by decide)]
 refine qwb (slicePart_none (qwb (slicePart_none (qwb (qwp ?_)))))
 show wpAny _ _ (pure ((n:Int)-1,(-1:Int),Builtin.Slice.slicePlaces ((n:Int)-1) (-1) (-1))) _ _ s
 rw [ydi]
 exact qwp h
theorem getItem_tuple_rev (ht:IsTup s.heap t items) (hs:s.heap.IsSliceOf sl .none .none (.int (-1) u)) (hsz:items.size<=sizeLine)
  (h:Q (.ref s.heap.objs.size) { s with heap:=s.heap.push { cls:=.type "tuple",data:=.seq items.toList.reverse.toArray } }):wpAny (model prog w) A (getItem (.ref t) (.ref sl)) Q E s:=by
 have htake:sizeOk (.seq items.toList.reverse.toArray):=by
  show items.toList.reverse.toArray.size<=sizeLine
  simpa using hsz
 obtain ⟨os,hos,hcs,hds⟩:=id hs
 have hTs:s.TypeIs (.ref sl) "slice":=⟨os,hos,hcs⟩
 unfold getItem
 try with_reducible refine wpAny_holding ?_
 first|refine qwb (qwp ?_)|skip
 refine qwb (wpAny_sequenceKey ht.typeIs (by decide) ?_)
 refine qwb (wpAny_callSpecial?_slot (name:=Str.ofString "__getitem__") ht.typeIs PyProof.Rows.slot_tuple_getitem
  (wpAny_call_entry PyProof.Rows.slot_tuple_getitem ht.typeIs entry_tuple_getitem ?_ (args_tuple_getitem _ _)))
 show wpAny _ _ (Builtin.Tuple.tupleItemsOf (.ref t) >>= _) _ _ s
 refine qwb (tupleItemsOf_ ht ?_)
 refine qwb (wpAny_typeOf hTs ?_)
 rw [if_pos (by decide)]
 refine qwb (ydk hs ?_)
 have hno:¬((((items.size:Int)-1) == 0 && (-1:Int) == 1 && items.size == items.size)=true):=by
  intro q
  rw [Bool.and_eq_true,Bool.and_eq_true] at q
  exact absurd q.1.2 (by decide)
 show wpAny _ _ (if (((items.size:Int)-1) == 0 && (-1:Int) == 1 && items.size == items.size)=true then _ else _) _ _ s
 rw [if_neg hno,ydj]
 first
  | exact qwb (m:=Builtin.Tuple.tupleExact _) (wpAny_newObj_type (qwp ⟨_,rfl,qwp h⟩) htake)
  | exact qwb (m:=Builtin.Tuple.tupleExact _) (wpAny_newObj_type (qwb (qwp (qwp ⟨_,rfl,qwp h⟩))) htake)
  | exact qwb (qwb (m:=Builtin.Tuple.tupleExact _) (wpAny_newObj_type (qwp (qwp ⟨_,rfl,qwp h⟩)) htake))
  | exact qwb (qwb (m:=Builtin.Tuple.tupleExact _) (wpAny_newObj_type (qwp ⟨_,rfl,qwp h⟩) htake))
end
end HT
namespace L3
open PySem PySem.Spec PyProof.Rows L2
theorem zq7:∀{xs:List V}{us:List Value},Vals xs us->Vals xs.reverse us.reverse
 | _,_,.nil=>.nil
 | _,_,.cons r t=>by rw [List.reverse_cons,List.reverse_cons];exact Vals.append (zq7 t) (.cons r .nil)
section
variable {te:TE}{j:Nat}
theorem ydl (he:PE X e te):PE X (.Subscript e (.Slice none none (some (.UnaryOp .USub (.Constant (.int 1) j p3) p4)) p2) pos) (λσ H Q=>te σ H λx H1=>∃a xs,x=.ref a/\SqT X.K H1 a xs/\∀p,H1 p=none->Q (.ref p) (upd H1 p (.tup xs.reverse))):=by
 intro pins s σ H Q I h
 refine Subscript_ (thn (he pins s σ H _ I h) λv s1 ⟨x,H1,I1,r1,a,xs,ex,hx,q⟩=>?_)
 subst ex
 cases r1
 refine wpAny_Slice ?_
 rw [evalPart_none]
 refine qwp (qwp ?_)
 rw [evalPart_some]
 refine thn ((zv7 zwc znm) pins s1 σ H1 (λv H'=>v=.int (-1)/\H' = H1) I1 ⟨1,rfl,rfl,rfl⟩) λu s2 ⟨y,H2,I2,r2,ey,eh⟩=>?_
 subst ey eh
 obtain ⟨t,rfl⟩:=r2
 have I3:Inv X pins σ H2 { s2 with heap:=s2.heap.push { cls:=.type "slice",data:=.fields #[.none,.none,.int (-1) t] } }:=I2.kept (t':=s2.toks) λb ob q=>qps _ q
 obtain ⟨its,r,ht,hz⟩:=I3.tuple hx
 have hlen:its.toArray.size=xs.length:=by rw [List.size_toArray];exact r.length.symm
 show wpAny (model X.prog X.w) X.A (subscriptTail e (.Slice none none (some (.UnaryOp .USub (.Constant (.int 1) j p3) p4)) p2) (.ref a) (.ref s2.heap.objs.size)) (EP X pins σ Q) X.xe { s2 with heap:=s2.heap.push { cls:=.type "slice",data:=.fields #[.none,.none,.int (-1) t] } }
 refine tail_any (ops:=[.ref a,.ref s2.heap.objs.size]) ht.typeIs PyProof.Rows.slot_tuple_getitem.lookup (HT.getItem_tuple_rev ht (Heap.IsSliceOf.new ..) (by rw [hlen];exact hz) ?_) (by with_unfolding_all rfl)
 refine ⟨.ref _,_,I3.laid (t':=s2.toks) (o:=.tup xs.reverse) (λb ob q=>qps _ q) (qlr _) ⟨by rw [List.length_reverse];exact hz,its.reverse,zq7 r,?_⟩,rfl,q _ (I3.hok.fresh (qlr _))⟩
 exact IsTD.new _ _
noncomputable def ze4 (m:EM):EM:=λl S=>(m l S).bind λp=>match p.1 with
 | .tup xs=>some (.tup xs.reverse,p.2)
 | _=>none
theorem zq8 (ha:PE3 X e ma):PE3 X (.Subscript e (.Slice none none (some (.UnaryOp .USub (.Constant (.int 1) j p3) p4)) p2) pos) (ze4 ma):=PE.imp (ydl ha) λσ H Q hx=>by
 obtain ⟨ρ,l,S,v,S',sim,ro,hm,p⟩:=hx
 obtain ⟨⟨x,S1⟩,h1,hm⟩:=bnd hm
 dsimp only at hm
 split at hm
 ·cases hm
  refine ⟨ρ,l,S,_,S',sim,ro,h1,λρ1 H1 x' e1 s1 r1=>?_⟩
  cases r1 with
  | tup ha rs=>exact ⟨_,_,rfl,.of ha,λq hq=>p ρ1 _ _ (e1.trans (zbh hq)) (s1.laid hq) (.tup zbw (rs.reverse.mono (zbh hq)))⟩
 ·cases hm
end
theorem ydm {w:World}{a:Addr}{σ:List Int}{s:Shared}(x:TS.ISet w a σ s.heap):s.TypeIs (.ref a) "set":=let ⟨o,e,c,_⟩:=x;⟨o,e,c.1⟩
theorem ydn (elt target iter:Expr) (ifs:List Expr) (scope:Scope) (pos:Pos) (it acc:Value) (env:Env) :
  compTurn (.SetComp elt [⟨target,iter,ifs,0⟩] scope pos) 0 it acc env=(do
   standAt iter.pos
   match <-pyNext it with
   | none=>pure (.done .next)
   | some v =>
    letOwnedTupleGo target it v
    assign target env v
    let mut ok:=true
    for c in ifs do
     if ok then ok <-isTrue c env (eval c env)
    if ok then
     (do let v <-eval elt env;standAt elt.pos;let _ <-call (.builtin "set.add") [acc,v])
    again (.compLoop (.SetComp elt [⟨target,iter,ifs,0⟩] scope pos) 0 it acc env)):=by rfl
section
theorem ydo {elt target iter:Expr}{ifs:List Expr}{scope:Scope}{pos:Pos}{it acc:Value}{env:Env}
  (h0:codeAny (model prog w) A (.compLoop (.SetComp elt [⟨target,iter,ifs,0⟩] scope pos) 0 it acc env) R s)
  (h:wpAny (model prog w) A (pyIter it) (λit' s'=>codeAny (model prog w) A (.compLoop (.SetComp elt [⟨target,iter,ifs,0⟩] scope pos) 0 it' acc env) R s') (notedBy (model prog w) A env λx s'=>R (.error x) s') s) :
  codeAny (model prog w) A (.compStart (.SetComp elt [⟨target,iter,ifs,0⟩] scope pos) 0 it acc env) R s:=by
 refine codeAny_of_tree ?_
 show wpAny _ _ ((compStart (.SetComp elt [⟨target,iter,ifs,0⟩] scope pos) 0 it acc env).onRaise (λx=>do noteFrame x env;standAt theWindowsPlace)) _ _ s
 refine wpAny_notedAt ?_
 unfold compStart
 show wpAny _ _ (ask >>= _) _ _ s
 refine qwb (wpAny_askSetting (wpAny_ite ?_))
 split
 ·first
   | exact qwb (qwp (qwp (And.intro rfl h0)))
   | exact qwp (And.intro rfl h0)
 ·first
   | exact qwb (wpAny_rule (qwb (wpAny_standAt (qwb (wpAny_mono h (λit' s' h'=>qwp (And.intro rfl h')) λ_ _ x=>x)))))
   | (refine qwb (wpAny_rule ?_);show wpAny _ _ (standAt iter.pos >>= _) _ _ s;exact qwb (wpAny_standAt (qwb (wpAny_mono h (λit' s' h'=>qwp (And.intro rfl h')) λ_ _ x=>x))))
theorem ydp {elt target iter:Expr}{ifs:List Expr}{scope:Scope}{pos:Pos}{it acc:Value}{env:Env}(I:Nat->Shared->Prop)
  (turn:∀n s,I n s->wpAny (model prog w) A (pyNext it) (λr s₁=>match r with
   | none=>R (.ok .next) s₁
   | some v=>wpAny (model prog w) A (letOwnedTupleGo target it v) (λ_ s₁'=>wpAny (model prog w) A (assign target env v) (λ_ s₂ =>
     wpAny (model prog w) A (forIn ifs true λc r=>if r=true then do let ok <-isTrue c env (eval c env);pure (ForInStep.yield ok) else pure (ForInStep.yield r)) (λok s₃ =>
      if ok=true then wpAny (model prog w) A (eval elt env) (λkv s₄ =>
       wpAny (model prog w) A (call (.builtin "set.add") [acc,kv]) (λ_ s₅=>∃m,m<n/\I m s₅) (λ_ _=>False) s₄) (λ_ _=>False) s₃
      else ∃m,m<n/\I m s₃) (λ_ _=>False) s₂) (λ_ _=>False) s₁') (λ_ _=>False) s₁) (λ_ _=>False) s)
  (n:Nat) (h:I n s) :
  codeAny (model prog w) A (.compLoop (.SetComp elt [⟨target,iter,ifs,0⟩] scope pos) 0 it acc env) R s:=by
 refine codeAny_loop rfl I (λn s hI=>?_) n h
 show wpAny _ A ((compTurn (.SetComp elt [⟨target,iter,ifs,0⟩] scope pos) 0 it acc env).onRaise (λx=>do noteFrame x env;theTreesLotGoes x)) _ _ s
 refine wpAny_noted ?_
 rw [ydn]
 refine qwb (wpAny_standAt (qwb (wpAny_mono (turn n s hI) (λr s₁ h₁=>?_) λ_ _ h'=>h'.elim)))
 cases r with
 | none=>exact qwp h₁
 | some v =>
  refine qwb (wpAny_mono h₁ (λ_ s₁' h₁=>?_) λ_ _ h'=>h'.elim)
  refine qwb (wpAny_mono h₁ (λ_ s₂ h₂=>qwb (wpAny_mono h₂ (λok s₃ h₃=>?_) λ_ _ h'=>h'.elim)) λ_ _ h'=>h'.elim)
  cases ok with
  | false=>exact qwp ⟨rfl,h₃⟩
  | true =>
   exact qwb (qwb (wpAny_mono h₃ (λkv s₄ h₄=>qwb (wpAny_standAt (qwb (wpAny_mono h₄ (λ_ s₅ h₅=>qwp (qwp ⟨rfl,h₅⟩)) λ_ _ h'=>h'.elim)))) λ_ _ h'=>h'.elim))
end
def zmq (X:Cx) (wi:TI) (src:St->St) (g:TG) (tts:TT) (t:TE):TE:=λσ H Q=>wi σ H λJ H1=>∀D,H1 D=none->X.K.lookup D=none->∃W:Nat->Nat->St->Hp->Prop,
 (∃m,W 0 m (src σ) (upd H1 D (.ext (TS.ISet X.w D []))))/\∀i m σ' H',W i m σ' H' ->
  (J.stop i H'/\Q (.ref D) H')\/(J.go i H'/\∃N:St->Hp->Prop,(∀σ' H',N σ' H'->∃m',m' < m/\W (i+1) m' σ' H') /\
   ∀x H'',J.yld i H' x H''->g x σ' H'' λσ2 H2=>tts σ2 H2 λb H3=>if b=true then t σ2 H3 (λkx H4=>∃τ k,H4 D=some (.ext (TS.ISet X.w D τ))/\kx=.int k/\τ.length<900/\N σ2 (upd H4 D (.ext (TS.ISet X.w D (TS.nub τ k))))) else N σ2 H3)
theorem ydq {X:Cx}{N':List Str}{elt iter tgt:Expr}{ifs:List Expr}{scope:Scope}{pos pos':Pos}{use:Option (Value->Sem Unit)}{R:Value->Shared->Prop}{pins:List (Addr × Obj)}{s:Shared}{σ:St}{H:Hp}{Q:VK}{wi:TI}{src:St->St}{g:TG}{tts:TT}{t:TE}(hcalm:X.calm=true) (sc:CompSc X N' scope src)
  (hi:PI X tgt iter wi) (hg:∀C s H fp pins,PG (cxC X N' scope C s H fp pins) tgt g) (ht:∀C s H fp pins,PTs (cxC X N' scope C s H fp pins) ifs tts) (he:∀C s H fp pins,PE (cxC X N' scope C s H fp pins) elt t)
  (hs:∀x,foldedSetIterable iter X.env x=pure x) (I:Inv X pins σ H s) (h:zmq X wi src g tts t σ H Q)
  (fin:∀D H5 s6 C mC,Inv X pins σ H5 s6->zby X pins H5 C->s6.heap.Ns C mC->Q (.ref D) H5->compPost (model X.prog X.w) X.A X.xe use R (.ref D) C (.ok .next) s6) :
  wpAny (model X.prog X.w) X.A (comprehension (.SetComp elt [⟨tgt,iter,ifs,0⟩] scope pos) scope X.env pos' (newSet (.type "set")) false (eval iter X.env) use) R X.xe s:=by
 have hasC:∀x∈scope.names,x.2=.free->∃c,X.env.cells.lookup x.1=some c:=λx hx hf=>I.ok.has x.1 (sc.free x hx hf)
 refine wpAny_comprehension_free (use:=use) (env:=X.env) rfl hs (zi9 scope X.env hasC) sc.kind sc.names ?_
 show wpAny (model X.prog X.w) X.A (eval iter X.env) _ _ s
 refine wpAny_mono (hi pins s σ H _ I h) (λv s1 h1=>wpAny_mono h1 (λitv s2 h2=>?_) λ_ _ z=>z) λ_ _ z=>z
 obtain ⟨it,fp,tn,J,H2,rfl,I2,T,st2,f2,q⟩:=h2
 refine qwb (TS.byText_wp ?_)
 show wpAny _ _ (newObj (.type "set") _) _ _ s2
 refine wpAny_newObj_type ?_ (by show 0<=sizeLine;exact Nat.zero_le _)
 show wpAny (model X.prog X.w) X.A _ _ _ { s2 with heap:=s2.heap.push (zc7 (TS.led0 X.w)) }
 have hD:H2 s2.heap.objs.size=none:=I2.hok.fresh (qlr _)
 have I3:Inv X pins σ (upd H2 s2.heap.objs.size (.ext (TS.ISet X.w s2.heap.objs.size []))) { s2 with heap:=s2.heap.push (zc7 (TS.led0 X.w)) }:=I2.laid (t':=s2.toks) (λb u e=>qps _ e) (qlr _) (zmo (TS.iset0 (Heap.get?_push_size _ rfl)))
 obtain ⟨W,⟨m0,w0⟩,turn⟩:=q s2.heap.objs.size hD (by
  cases e:X.K.lookup s2.heap.objs.size with
  | none=>rfl
  | some o=>exact absurd (Heap.lt_size (I2.kIn _ o e)) (Nat.lt_irrefl _))
 refine wpAny_newFunctionEnv sc.nocell (by intro y hy;simp at hy) (λh' hns hsb=>?_) sc.kind
 have fpIn:∀b∈fp,∃o,s2.heap.get? b=some o/\∀v,o.data≠.cell v:=T.obj 0 s2.heap st2
 have fpD:∀b∈fp,b≠s2.heap.objs.size:=λb hb=>let ⟨o,e,_⟩:=fpIn b hb;Nat.ne_of_lt (Heap.lt_size e)
 have f3:∀b∈fp,zby X pins (upd H2 s2.heap.objs.size (.ext (TS.ISet X.w s2.heap.objs.size []))) b:=λb hb=>⟨by rw [zap (fpD b hb)];exact (f2 b hb).1,(f2 b hb).2⟩
 have st3:tn 0 (s2.heap.push (zc7 (TS.led0 X.w))):=T.keep _ _ _ st2 λb hb o e=>qps _ e
 clear q hD h st2 f2 fpD
 generalize hH3:upd H2 s2.heap.objs.size (.ext (TS.ISet X.w s2.heap.objs.size []))=H3 at *
 generalize hDe:s2.heap.objs.size=D at *
 have fpIn3:∀b∈fp,∃o,(s2.heap.push (zc7 (TS.led0 X.w))).get? b=some o/\∀v,o.data≠.cell v:=T.obj 0 _ st3
 clear fpIn
 generalize s2.heap.push (zc7 (TS.led0 X.w))=h3 at *
 have old:∀b o,h3.get? b=some o->h'.get? b=some o:=λb o e=>hsb.extBut b o (Nat.ne_of_lt (Heap.lt_size e)) (qps _ e)
 have stkNo:∀b,b≠X.env.locals->b ∉ X.fs->b ∉ frs X.stack:=λb h1 h2 hb=>by
  rcases List.mem_cons.mp (I3.stkSub b hb) with z|z
  ·exact h1 z
  ·exact h2 z
 have sub:=zfr X.env scope.names [] (λx c z=>by simp at z)
 have cNe:∀b o,h3.get? b=some o->b≠h3.objs.size:=λb o e=>Nat.ne_of_lt (Heap.lt_size e)
 have I4:Inv (cxC X N' scope h3.objs.size { s2 with heap:=h3 } H3 fp pins) [] (src σ) H3 { s2 with heap:=h',toks:=s2.toks+([]:List (Str × Value)).length }:=by
  refine ⟨⟨I3.ok.mod,sc.kind,I3.ok.glob,I3.ok.blt,qlr _,λx y c h1 h2=>I3.ok.inj x y c (sub x c h1) (sub y c h2),λx hx=>?_,λx c z=>absurd (show false=true from z) Bool.false_ne_true,I3.ok.hd,I3.ok.frames,.inl rfl,λb hb=>⟨?_,λx c z=>(f3 b hb).2.2.2.2.1 x c (sub x c z)⟩,λb o e=>I3.bs b o e,Nat.le_trans I3.ok.bsz I3.sz,λb o e hb=>?_,λb hb=>stkNo b (f3 b hb).2.1 (f3 b hb).2.2.1,I3.stack,I3.stkFree⟩,
   rfl,I3.bare,Un.kept old,⟨_,hns,λi x v h1 h2 h3'=>?_⟩,λx c z=>?_,I3.hok.fresh (qlr _),λx c z=>I3.freeC x c (sub x c z),λp hp=>?_,I3.hok.kept old,sc.len σ⟩
  ·have hm:=sc.rel x hx
   exact zds X.env scope.names [] x (.inl hm) (hasC _ hm rfl)
  ·obtain ⟨o,e,_⟩:=fpIn3 b hb
   exact cNe b o e
  ·rcases (f3 b hb).2.2.2.1 with z|z
   ·exact I3.ok.noex b o e z
   ·have:=Heap.lt_size (I3.ok.bs b o e).1
    exact absurd (Nat.lt_of_lt_of_le this z) (Nat.lt_irrefl _)
  ·obtain ⟨j,e1,e2,e3⟩:=sc.src σ i v x h2 h1
   obtain ⟨m,hn,hl⟩:=I3.loc
   have hmem:=PySem.mem_of_lookup e3
   have hk:=sc.free (x,.free) hmem rfl
   have vis:Vis X.env.scope x:=by
    rcases hk with k|k
    ·exact .inr (.inl k)
    ·exact .inr (.inr k)
   obtain ⟨u,r,lk⟩:=hl j x v e1 e2 vis
   refine ⟨u,r,.inr ⟨?_,?_⟩⟩
   ·exact zhv (scope:=scope) e3
   ·rcases lk with ⟨k,_⟩|⟨_,c,hc,hcell⟩
    ·rcases hk with k' | k' <;> (rw [k] at k';cases k')
    ·obtain ⟨c',hc'⟩:=zds X.env scope.names [] x (.inl hmem) ⟨c,hc⟩
     have:=sub x c' hc'
     rw [hc] at this;cases this
     obtain ⟨o,ho,hd⟩:=hcell
     exact ⟨c,hc',o,old _ _ ho,hd⟩
  ·obtain ⟨v,o,ho,hd⟩:=I3.cell x c (sub x c z)
   exact ⟨v,o,old _ _ ho,hd⟩
  ·have hp':p∈X.pn++pins:=by simpa [cxC] using hp
   obtain ⟨e,n,ne,nf,d⟩:=I3.pin p hp'
   exact ⟨old _ _ e,n,cNe _ _ e,stkNo _ ne nf,d⟩
 have st4:tn 0 h':=T.keep _ _ _ st3 λb hb o e=>old b o e
 have fr4:∀b∈fp,H3 b=none:=λb hb=>(f3 b hb).1
 have stat:∀{H':Hp},(∀b∈fp,H' b=none)->∀b∈fp,zby (cxC X N' scope h3.objs.size { s2 with heap:=h3 } H3 fp pins) [] H' b:=λhn b hb=>by
  obtain ⟨g0,g1,g2,g3,g4,g5⟩:=f3 b hb
  obtain ⟨o,e,_⟩:=fpIn3 b hb
  exact ⟨hn b hb,cNe b o e,stkNo b g1 g2,.inl hb,λx c z=>g4 x c (sub x c z),λp hp=>g5 p (by simpa [cxC] using hp)⟩
 have loop:codeAny (model X.prog X.w) X.A (.compLoop (.SetComp elt [⟨tgt,iter,ifs,0⟩] scope pos) 0 (.ref it) (.ref D) (compEnvC scope (zbq X.env scope.names []) h3.objs.size X.env))
   (compPost (model X.prog X.w) X.A X.xe use R (.ref D) h3.objs.size) { s2 with heap:=h',toks:=s2.toks+([]:List (Str × Value)).length }:=by
  refine ydp (λn s'=>∃i σ' H',Inv (cxC X N' scope h3.objs.size { s2 with heap:=h3 } H3 fp pins) [] σ' H' s'/\tn i s'.heap/\(∀b∈fp,H' b=none)/\W i n σ' H') ?_ m0 ⟨0,src σ,H3,I4,st4,fr4,w0⟩
  rintro n s5 ⟨i,σ5,H5,I5,st5,fr5,w5⟩
  rcases turn i n σ5 H5 w5 with ⟨stop,qn⟩|⟨go,N,hN,step⟩
  ·refine wpAny_mono (T.done (cxC X N' scope h3.objs.size { s2 with heap:=h3 } H3 fp pins) rfl rfl rfl hcalm i [] s5 σ5 H5 (λ_ _=>False) I5 (stat fr5) st5 stop) (λr s6 hr=>?_) λ_ _ z=>z
   obtain ⟨hr,I6⟩:=hr
   subst hr
   obtain ⟨mC,hnC,_⟩:=I6.loc
   have IX:Inv X pins σ H5 s6:=I3.call' (s':=s6) (ch:=fp) I6.os I6.base I6.hok I6.bare λb hb=>⟨(f3 b hb).2.2.2.1,(f3 b hb).2.1,(f3 b hb).2.2.2.2.1,(f3 b hb).2.2.2.2.2⟩
   exact fin D H5 s6 h3.objs.size mC IX (I3.fpOk (qlr _) I6.free) hnC qn
  ·refine wpAny_mono (T.item (cxC X N' scope h3.objs.size { s2 with heap:=h3 } H3 fp pins) rfl rfl rfl hcalm i [] s5 σ5 H5 (λ_ _=>False) I5 (stat fr5) st5 go) (λr s6 hr=>?_) λ_ _ z=>z
   obtain ⟨u,hr,h6⟩:=hr
   subst hr
   refine wpAny_mono h6 (λ_ s7 h7=>?_) λ_ _ z=>z
   obtain ⟨x,H7,I7,r7,y7,st7,fr7⟩:=h7
   have I7':=I7.pinned (stat fr7) (T.obj _ _ st7)
   refine wpAny_mono (hg _ _ _ _ _ _ s7 σ5 H7 x u _ I7' r7 (step x H7 y7)) (λ_ s8 h8=>?_) λ_ _ z=>z
   obtain ⟨σ8,H8,I8,q8⟩:=h8
   have again:∀{H9:Hp} {s9:Shared},Inv (cxC X N' scope h3.objs.size { s2 with heap:=h3 } H3 fp pins) ([]++zcz fp s7.heap) σ8 H9 s9->N σ8 H9->∃m,m<n/\∃i σ' H',Inv (cxC X N' scope h3.objs.size { s2 with heap:=h3 } H3 fp pins) [] σ' H' s9/\tn i s9.heap/\(∀b∈fp,H' b=none)/\W i m σ' H':=λ{H9 s9} I9 n9=>by
    obtain ⟨m',hm,w9⟩:=hN σ8 H9 n9
    refine ⟨m',hm,i+1,σ8,H9,I9.unpinned,T.keep _ _ _ st7 λb hb o e=>(I9.pin (b,o) (List.mem_append_right _ (List.mem_append_right _ (zc9 hb e)))).1,λb hb=>?_,w9⟩
    obtain ⟨o,e,d⟩:=T.obj _ _ st7 b hb
    exact (I9.pin (b,o) (List.mem_append_right _ (List.mem_append_right _ (zc9 hb e)))).2.1
   refine wpAny_mono (ht _ _ _ _ _ _ s8 σ8 H8 _ I8 q8) (λok s9 h9=>?_) λ_ _ z=>z
   obtain ⟨H9,I9,q9⟩:=h9
   cases ok with
   | false=>exact again I9 q9
   | true =>
    refine wpAny_mono (he _ _ _ _ _ _ s9 σ8 H9 _ I9 q9) (λy s10 h10=>?_) λ_ _ z=>z
    obtain ⟨vy,H10,I10,r10,q10⟩:=h10
    obtain ⟨τ,kk,hys,ek,hz,nx⟩:=q10
    subst ek
    obtain ⟨tk,rfl⟩:=r10
    have hT:TS.ISet X.w D τ s10.heap:=(I10.hok D _ hys).1
    refine wpAny_call_entry F.slot_set_add (ydm hT) F.entry_set_add ?_ (F.args_set_add_2 _ _)
    unfold Builtin.«set.add» Builtin.Frozenset.oneOther;simp only [List.isEmpty_nil,bind_assoc];unfold Builtin.Frozenset.addrOf
    refine qwb (qwp ?_);try dsimp only
    refine qwb (qwp ?_);try dsimp only
    refine qwb (TS.setAdd_nub hT hz λb h' sb hT'=>qwp ⟨_,rfl,?_⟩)
    obtain ⟨o,ho,_⟩:=id hT'
    exact again (I10.write (x:=D) (e:=D) (o:=.ext (TS.ISet X.w D (TS.nub τ kk))) (t':=s10.toks+1) (by rw [hys];exact trivial) (.inl rfl) (λb o hb e=>sb.extBut b o hb e) ⟨o,ho⟩ (zmo hT')) nx
 exact ydo loop (T.self _ 0 _ _ _ st4 loop)
theorem ydr {X:Cx}{N':List Str}{elt iter tgt:Expr}{ifs:List Expr}{scope:Scope}{pos:Pos}{wi:TI}{src:St->St}{g:TG}{tts:TT}{t:TE}(hcalm:X.calm=true) (sc:CompSc X N' scope src)
  (hi:PI X tgt iter wi) (hg:∀C s H fp pins,PG (cxC X N' scope C s H fp pins) tgt g) (ht:∀C s H fp pins,PTs (cxC X N' scope C s H fp pins) ifs tts) (he:∀C s H fp pins,PE (cxC X N' scope C s H fp pins) elt t)
  (hs:∀x,foldedSetIterable iter X.env x=pure x:=by intro _;rfl):PE X (.SetComp elt [⟨tgt,iter,ifs,0⟩] scope pos) (zmq X wi src g tts t):=by
 intro pins s σ H Q I h
 rw [arm_eval_SetComp]
 refine ydq (use:=none) hcalm sc hi hg ht he hs I h λD H5 s6 C mC IX fp hn q=>⟨mC,hn,λh'' sb=>⟨.ref D,H5,?_,rfl,q⟩⟩
 exact IX.turned (t':=s6.toks) (λb o hb e=>sb.extBut b o hb e) fp.1 fp.2.1 fp.2.2.2.1 fp.2.2.2.2.1 fp.2.2.2.2.2
noncomputable def zej (ns:List Int):List Int:=ns.foldl TS.nub []
theorem yds (σ:List Int) (i x:Int):x∈TS.nub σ i↔x∈σ\/x=i:=by
 unfold TS.nub
 split
 ·rename_i h
  constructor
  ·exact .inl
  ·rintro (h' | h')
   ·exact h'
   ·rw [h'];exact h
 ·simp
theorem ydt (i:Int) (h:σ.Nodup):(TS.nub σ i).Nodup:=by
 unfold TS.nub
 split
 ·exact h
 ·rename_i hi
  rw [List.nodup_append]
  exact ⟨h,by simp,λa ha b hb=>by rw [List.mem_singleton] at hb;subst hb;exact λz=>hi (z ▸ ha)⟩
theorem ydu (σ:List Int) (i:Int):(TS.nub σ i).length<=σ.length+1:=by
 unfold TS.nub;split <;> simp
theorem zq9 (x:Int):∀(ns σ:List Int),x∈ns.foldl TS.nub σ↔x∈σ\/x∈ns
 | [],σ=>by simp
 | n :: ns,σ=>by rw [List.foldl_cons,zq9 x ns,yds,List.mem_cons,or_assoc]
theorem zra:∀(ns σ:List Int),σ.Nodup->(ns.foldl TS.nub σ).Nodup
 | [],σ,h=>h
 | n :: ns,σ,h=>zra ns _ (ydt n h)
theorem ydv (ns:List Int) (x:Int):x∈zej ns↔x∈ns:=by unfold zej;rw [zq9];simp
theorem ydw (ns:List Int):(zej ns).Nodup:=zra ns [] List.nodup_nil
noncomputable def zia (im:IM) (ixs:List (Option Nat)) (g:GM) (t:TM) (e:EM):EM:=λl S=>(im l S).bind λp=>(zbx p.1 g t e p.2.1 0 (za2 ixs l) p.2.2).bind λz=>(zcq z.1).bind λns =>
 if ns.length<64 then some (.ref z.2.length,z.2++[.lst ((sortI (zej ns)).map .int)]) else none
inductive CIS (K:QFg) (w:World) (it:ItM) (g:GM) (t:TM) (e:EM) (S2:Sto) (fin:List Int) (ρ1:List Addr) (H1:Hp) (Da:Addr) (i m:Nat) (σ':St) (H':Hp):Prop
 | mk (ρ':List Addr) (l':Lo) (S':Sto) (acc ns:List Int) (rest:List D) (_:Ext ρ1 H1 ρ' H') (_:Sim K ρ' S' H') (_:RO ρ' H' l' σ') (_:H' Da=some (.ext (TS.ISet w Da acc))) (_:(∀n:Nat,ρ'[n]?≠some Da)) (_:zbx it g t e m i l' S' = some (rest,S2)) (_:zcq rest=some ns) (_:ns.foldl TS.nub acc=fin) (_:acc.length+ns.length<64)
theorem ydx (h:zcq (d :: ds)=some ns):∃i ms,d=.int i/\zcq ds=some ms/\ns=i :: ms:=by
 cases d <;> first|(cases h;done)|skip
 obtain ⟨ms,h1,h2⟩:=bnd h
 cases h2
 exact ⟨_,ms,rfl,h1,rfl⟩
theorem ydy (σ:St) (H:Hp) (Q:VK) (q:te X.K (zia im ixs g t e) σ H Q):zmq X (ti X.K im) (za2 ixs) (tg X.K g) (tt X.K t) (te X.K e) σ H (λx H1=>zmp X [x] H1 Q):=by
 obtain ⟨ρ,l,S,v,S',sim,ro,hm,p⟩:=q
 obtain ⟨⟨it,k,S1⟩,q1,hm⟩:=bnd hm
 obtain ⟨⟨all,S2⟩,q2,hm⟩:=bnd hm
 obtain ⟨ns,hns,hm⟩:=bnd hm
 obtain ⟨hz,hm⟩:=zpx hm
 cases hm
 refine ⟨ρ,l,S,it,k,S1,sim,ro,q1,λρ1 H1 J e1 s1 io D hD hK=>?_⟩
 dsimp only at q2 hz p hns
 refine ⟨λi m σ' H'=>CIS X.K X.w it g t e S2 (zej ns) ρ1 H1 D i m σ' H',⟨k,?_⟩,?_⟩
 ·exact ⟨ρ1,za2 ixs l,S1,[],ns,all,zbh hD,s1.laid hD,(zjc ixs (ro.mono e1)).mono (zbh hD),zbw,s1.notin hD hK,q2,hns,rfl,by simpa using hz⟩
 ·rintro i m σ' H' ⟨ρ',l',S',acc,ms,rest,e2,s2,ro2,hD2,hn2,hc,hms,hfold,hlen⟩
  cases m with
  | zero=>cases hc
  | succ m =>
   unfold zbx at hc
   obtain ⟨o,ho,hc⟩:=bnd hc
   obtain ⟨iStop,iGo⟩:=io i ρ' S' H' e2 s2
   cases o with
   | none =>
    cases hc
    cases hms
    have hf:acc=zej ns:=hfold
    subst hf
    exact .inl ⟨iStop ho,D,_,rfl,hD2,by simpa using hlen,zfh s2 (zj0 _) (Pv.ext p (e1.trans e2))⟩
   | some x =>
    obtain ⟨⟨l3,S3⟩,q3,hc⟩:=bnd hc
    obtain ⟨⟨b,S4⟩,q4,hc⟩:=bnd hc
    obtain ⟨hgo,hy⟩:=iGo x ho
    refine .inr ⟨hgo,_,λσ' H' h=>h,λy H'' hyl=>?_⟩
    obtain ⟨rfl,ry⟩:=hy y H'' hyl
    refine ⟨ρ',l',S',x,l3,S3,s2,ro2,ry,q3,λρ3 H3 σ3 e3 s3 ro3=>⟨ρ3,l3,S3,b,S4,s3,ro3,q4,λρ4 H4 e4 s4=>?_⟩⟩
    obtain ⟨hD3,hn3⟩:=e3.out D _ hD2 hn2
    obtain ⟨hD4,hn4⟩:=e4.out D _ hD3 hn3
    cases b with
    | false=>exact zd1 ⟨m,Nat.lt_succ_self m,ρ4,l3,S4,acc,ms,rest,e2.trans (e3.trans e4),s4,ro3.mono e4,hD4,hn4,hc,hms,hfold,hlen⟩
    | true =>
     have hc:((e l3 S4).bind λr=>(zbx it g t e m (i+1) l3 r.2).bind λz=>some (r.1 :: z.1,z.2))=some (rest,S2):=hc
     obtain ⟨⟨y5,S5⟩,q5,hc⟩:=bnd hc
     obtain ⟨⟨rest',S6⟩,q6,hc⟩:=bnd hc
     cases hc
     obtain ⟨n5,ms',rfl,hms',rfl⟩:=ydx hms
     refine zd2 ⟨ρ4,l3,S4,.int n5,S5,s4,ro3.mono e4,q5,λρ5 H5 v5 e5 s5 r5=>?_⟩
     obtain ⟨hD5,hn5⟩:=e5.out D _ hD4 hn4
     cases r5
     have hl:acc.length+(ms'.length+1)<64:=by simpa using hlen
     have hnl:=ydu acc n5
     refine ⟨acc,n5,hD5,rfl,by lia,m,Nat.lt_succ_self m,ρ5,l3,S5,TS.nub acc n5,ms',rest',(e2.trans (e3.trans (e4.trans e5))).besideG hD hD5 (zma _),s5.besideG hD5 (zma _) hn5,?_,zbw,hn5,q6,hms',hfold,by lia⟩
     have r0:=(ro3.mono e4).mono e5
     exact ⟨r0.len,λi d h=>let ⟨w,h1,h2⟩:=r0.get i d h;⟨w,h1,h2.mono0 (zcl hD5 (zma _))⟩⟩
theorem ydz {X:Cx}{N':List Str}{elt iter tgt:Expr}{ifs:List Expr}{scope:Scope}{pos pos2 p:Pos}{im:IM}{ixs:List (Option Nat)}{g:GM}{t:TM}{e:EM}(hg0:Gl X "sorted") (hm0:X.mg "sorted" = none) (hcalm:X.calm=true) (sc:CompSc X N' scope (za2 ixs))
  (hi:PI3 X tgt iter im) (hg:∀C s H fp pins,PG3 (cxC X N' scope C s H fp pins) tgt g) (ht:∀C s H fp pins,PTs (cxC X N' scope C s H fp pins) ifs (tt X.K t)) (he:∀C s H fp pins,PE3 (cxC X N' scope C s H fp pins) elt e)
  (hs:∀x,foldedSetIterable iter X.env x=pure x:=by intro _;rfl)
  (he2:starEach [.SetComp elt [⟨tgt,iter,ifs,0⟩] scope pos2] X.env=(false,eval (.SetComp elt [⟨tgt,iter,ifs,0⟩] scope pos2) X.env) :: starEach [] X.env:=by rfl) (hpl2:(backTo pos (starEach [] X.env)).any (·.1)=false:=by rfl) :
  PE3 X (.Call (.Name "sorted" p) [.SetComp elt [⟨tgt,iter,ifs,0⟩] scope pos2] [] pos) (zia im ixs g t e) :=
 PE.imp (ziz (zq5 hcalm) hg0 hm0 zl8 (zgp (ydr (g:=tg X.K g) (tts:=tt X.K t) (t:=te X.K e) hcalm sc hi hg ht he hs) zhg he2) (by decide) (by decide) he2 hpl2) ydy
end L3
namespace TS
open PySem PySem.SetTable PyProof.Rows L3
section
theorem yd0 (hh:A.handled=none) (ht:s.heap.IsTuple l its) (hi:IntsAre its.toList ns) (hb:its.size<900)
  (hd:s.heap.get? d=some (zc7 (led0 w))) (htd:l≠d)
  (h:∀(h':Heap) (tk:Nat),ISet w d (nubs (λi=>ns.getD i 0) its.size) h'->(∀b o,b≠d->s.heap.get? b=some o->h'.get? b=some o)->Q (.done (.ret .none)) { s with heap:=h',toks:=tk }) :
  wpAny (model prog w) A (Builtin.«set.__init__» ⟨[.ref d,.ref l],[]⟩) Q E s:=by
 obtain ⟨ol,hol,hcl,nl,hdl⟩:=id ht
 have hTs:s.TypeIs (.ref d) "set":=⟨_,hd,rfl⟩
 have hTt:s.TypeIs (.ref l) "tuple":=⟨_,hol,hcl⟩
 have q1:=ycq
 have q2:=ycr
 obtain ⟨hp,g,dr,tk,os⟩:=s
 obtain ⟨c1,c2,c3,c4⟩:=ol
 dsimp only at hcl hdl hol
 subst hcl hdl
 unfold Builtin.«set.__init__» noKeywords Builtin.Frozenset.updateFrom
 generalize hPI:pyIter=PI
 wp_walk
 subst hPI
 have ht':hp.IsTuple l its:=ht
 have lt1:l<hp.objs.size:=Heap.lt_size hol
 have lt2:d<hp.objs.size:=Heap.lt_size hd
 refine wpAny_pyIter_tuple ht' (qwb (wpAny_runValue ?_))
 have vi:∀(i:Nat) (v:Value),its[i]? = some v->∃t,v=.int (ns.getD i 0) t:=λi v hv=>IntsAre.int_at hi i v (by rw [Array.getElem?_toList];exact hv)
 have nf:d ∉ [hp.objs.size,l]:=by
  simp only [List.mem_cons,List.not_mem_nil,or_false,not_or]
  exact ⟨Nat.ne_of_lt lt2,Ne.symm htd⟩
 refine ydb (Walks.tuple (by simpa using hh) hp.objs.size l (Nat.ne_of_lt lt1) its) d nf (λi=>ns.getD i 0) vi hb (its.size-0) 0 _ (by lia) (Nat.zero_le _) ⟨⟨_,Heap.get?_push_size _ rfl,rfl,rfl⟩,?_⟩ ?_ λh' tk' hk hS=>?_
 ·obtain ⟨o,e,r⟩:=id ht'
  exact ⟨o,qps _ e,r⟩
 ·exact iset0 (qps _ hd)
 ·refine qwp (qwp (h h' tk' hS λb o hb e=>?_))
  exact hk b o (by simp only [List.mem_cons,List.not_mem_nil,or_false,not_or];exact ⟨hb,Nat.ne_of_lt (Heap.lt_size e)⟩) (qps _ e)
theorem call_set_tup_i (hh:A.handled=none) (ht:s.heap.IsTuple t its) (hi:IntsAre its.toList ns) (hb:its.size<900)
  (h:∀(h':Heap) (tk:Nat),ISet w s.heap.objs.size (nubs (λi=>ns.getD i 0) its.size) h'->(∀b o,s.heap.get? b=some o->h'.get? b=some o)->Q (.ref s.heap.objs.size) { s with heap:=h',toks:=tk }) :
  wpAny (model prog w) A (call (.type "set") [.ref t]) Q E s:=by
 obtain ⟨c,tl,k0⟩:=F.called_set.mro;have k1:=F.called_set.made;have k2:=F.called_set.sub
 refine wpAny_call (codeAny_of_tree (show wpAny _ _ (callAny (.type "set") _) _ _ _ from ?_))
 refine qwp ⟨Code.quiet_builtin _ (by decide +kernel),codeAny_builtin F.entry_type_call ?_⟩;rw [Around.under_plain (weight_type_call_type "set" [.ref t] []) rfl]
 have k3:=F.called_set.notType;have k4:=F.called_set.canCreate;have k5:=F.typeCall_set_1 (.ref t)
 repeat (any_goals (first|assumption|wp_step))
 refine codeAny_mono (ydc (.ref t) (E:=E) (Q₁:=λx s1=>x=.ref s.heap.objs.size/\s1={ s with heap:=s.heap.push (zc7 (led0 w)) }) ⟨rfl,rfl⟩) λr s1 hr=>?_
 match r,hr with
 | .error e,hr=>exact hr
 | .ok .next,hr=>exact hr.elim
 | .ok .brk,hr=>exact hr.elim
 | .ok .cont,hr=>exact hr.elim
 | .ok (.ret x),hr =>
  obtain ⟨rfl,rfl⟩:=hr
  have g1:(s.heap.push (zc7 (led0 w))).get? s.heap.objs.size=some (zc7 (led0 w)):=Heap.get?_push_size _ rfl
  have g2:Shared.TypeIs { s with heap:=s.heap.push (zc7 (led0 w)) } (.ref s.heap.objs.size) "set":=⟨_,g1,rfl⟩
  have k6:=F.called_set.init.lookup;have k7:=F.called_set.init.bind (.ref s.heap.objs.size)
  repeat (any_goals (first|assumption|wp_step))
  have ht':(s.heap.push (zc7 (led0 w))).IsTuple t its:=by
   obtain ⟨o,e,q⟩:=ht
   exact ⟨o,qps _ e,q⟩
  have lt1:t≠s.heap.objs.size:=by
   obtain ⟨o,e,q⟩:=ht
   exact Nat.ne_of_lt (Heap.lt_size e)
  refine codeAny_mono (codeAny_call_builtin (R:=wants (λr s2=>r=.none/\∃h' tk,s2={ s with heap:=h',toks:=tk }/\ISet w s.heap.objs.size (nubs (λi=>ns.getD i 0) its.size) h'/\∀b o,s.heap.get? b=some o->h'.get? b=some o) E) F.called_set.init.plain F.entry_set_init
   (check_set_init_1 g2 (yd0 (by simpa using hh) ht' hi hb g1 lt1 λh' tk hS hk=>⟨rfl,h',tk,rfl,hS,λb o e=>hk b o (Nat.ne_of_lt (Heap.lt_size e)) (qps _ e)⟩))) λr2 s2 hr2=>?_
  match r2,hr2 with
  | .error e,hr2=>exact hr2
  | .ok .next,hr2=>exact hr2.elim
  | .ok .brk,hr2=>exact hr2.elim
  | .ok .cont,hr2=>exact hr2.elim
  | .ok (.ret y),hr2 =>
   obtain ⟨rfl,h',tk,rfl,hS,hk⟩:=hr2
   repeat (any_goals (first|assumption|wp_step))
   exact h _ _ hS hk
end
end TS
namespace L3
open PySem PySem.Spec PyProof.Rows L2
noncomputable def zg5:FM
 | [.tup xs],S=>(zcq xs).bind λns=>if ns.length<64 then some (.ref S.length,S++[.lst ((sortI (zdw ns)).map .int)]) else none
 | _,_=>none
noncomputable def zg6:FM
 | [.tup xs],S=>(zcq xs).bind λns=>if ns.length<64 then some (.ref S.length,S++[.lst ((sortI ns).map .int)]) else none
 | _,_=>none
theorem yd1 (ho:s.heap.get? q=some o) (hc:o.cls=.type "tuple") (hd:o.data=.seq vs n) (hz:vs.size<=sizeLine)
  (h:∀h',s.heap.objs.size<=h'.objs.size->(∀b o',s.heap.get? b=some o'->h'.get? b=some o')->Q vs.toList { s with heap:=h' }):wpAny (model prog w) A (collect (.ref q)) Q E s:=by
 unfold collect;refine qwb (wpAny_runValue (codeAny_builtin F.entry_proto_collect ?_));rw [Around.under_plainId F.plain_proto_collect _]
 show wpAny _ A.in1 (newList [] >>= λl=>again (.builtin "list.__iadd__" ⟨[l,.ref q],[]⟩)) _ _ s;refine qwb (wpAny_newObj_type ?_ (by show 0<=sizeLine;exact Nat.zero_le _))
 refine qwp ⟨plainId_quiet F.plain_list_iadd _,codeAny_builtin F.entry_list_iadd ?_⟩;rw [Around.under_plainId F.plain_list_iadd _]
 show wpAny _ A.in1 (Builtin.List.listExtendWith (.ref s.heap.objs.size) (.ref q) (.ref s.heap.objs.size)) _ _ _
 have hS:(s.heap.push (seqObj "list" #[] 0)).get? s.heap.objs.size=some (seqObj "list" #[] 0):=Heap.get?_push_size _ rfl
 have hS₂:=Heap.get?_update_self (Obj.mapSeq (·++vs)) hS rfl
 have fin':∀X,X=Value.ref s.heap.objs.size->wpAny (model prog w) A (match X with
   | Value.ref a=>do
    match (<-load a).data with
     | Data.seq xs _=>pure xs.toList
     | _=>unsupported "internal:collect"
   | _=>unsupported "internal:collect") Q E { s with heap:=(s.heap.push (seqObj "list" #[] 0)).update s.heap.objs.size (Obj.mapSeq (·++vs)) }:=by
  rintro _ rfl
  show wpAny _ A (load s.heap.objs.size >>= _) _ _ _;refine qwb (wpAny_load hS₂ (qwp ?_))
  have e:((#[]:Array Value)++vs).toList=vs.toList:=by simp
  show Q ((#[]:Array Value)++vs).toList _;rw [e]
  refine h _ (by rw [Heap.size_update,size_push'];lia) λb o' hb=>?_
  exact (Heap.get?_update_other _ _ (Nat.ne_of_gt (Heap.lt_size hb))).trans (qps _ hb)
 refine wpAny_mono (wpAny_extend_seq (hsz:=hz) (A:=A) (R:=λr s'=>r=.ok (.ret (.ref s.heap.objs.size))/\s' = { s with heap:=(s.heap.push (seqObj "list" #[] 0)).update s.heap.objs.size (Obj.mapSeq (·++vs)) })
  (s:={ s with heap:=s.heap.push (seqObj "list" #[] 0) }) _ q _ 0 (.inr rfl) hS (qps _ ho) hc hd ⟨rfl,rfl⟩) (λfin s' hx=>?_) (λe s' hx=>absurd hx.1 (by simp))
 cases fin with
 | done f=>obtain ⟨e,rfl⟩:=hx;cases e;exact fin' _ rfl
 | again c'=>exact ⟨hx.1,codeAny_mono hx.2 λr s'' hr=>by obtain ⟨rfl,rfl⟩:=hr;exact fin' _ rfl⟩
section
def zrb (X:Cx):List V->Hp->VK->Prop:=λxs H Q=>∃(q:Addr) (ns:List Int),xs=[.ref q]/\H q=some (.tup (ns.map V.int))/\ns.length<64/\∀l,H l=none->Q (.ref l) (upd H l (.ext (TS.ISet X.w l (zdw ns))))
def zrc:List V->Hp->VK->Prop:=λxs H Q=>∃(q:Addr) (ns:List Int),xs=[.ref q]/\H q=some (.tup (ns.map V.int))/\ns.length<64/\∀l,H l=none->Q (.ref l) (upd H l (.lst ((sortI ns).map V.int)))
theorem yd2 (hcalm:X.calm=true):CallR X (.type "set") (zrb X):=by
 intro pins s σ H xs us Q I r h
 obtain ⟨q,ns,rfl,sq,h64,hq⟩:=h
 obtain ⟨u,rfl,ru⟩:=zdy r
 cases ru
 obtain ⟨its,rv,o,e,c,n,d,hd⟩:=zqt I sq
 have hl:its.toArray.size=ns.length:=by have:=rv.length;simp at this;simp;lia
 refine TS.call_set_tup_i (its:=its.toArray) (ns:=ns) (I.ok.hd hcalm) ⟨o,e,c,n,d⟩ (by simpa using zml rv) (by rw [hl];lia) λh' tk hS hk=>?_
 rw [hl] at hS
 exact ⟨.ref s.heap.objs.size,_,I.laid (t':=tk) hk (qlr _) (zmo hS),rfl,hq _ (I.hok.fresh (qlr _))⟩
theorem yd3:CallR X (.builtin "sorted") zrc:=by
 intro pins s σ H xs us Q I r h
 obtain ⟨q,ns,rfl,sq,h64,hq⟩:=h
 obtain ⟨u,rfl,ru⟩:=zdy r
 cases ru
 obtain ⟨its,rv,o,e,c,n,d,hd⟩:=zqt I sq
 have hl:its.length=ns.length:=by have:=rv.length;simp at this;lia
 refine SP.sorted_lays (ns:=ns) (λE R hR=>yd1 e c d (by rw [List.size_toArray,hl,sizeLine_eq];lia) λh' hs hk=>hR h' s.toks _ hs hk (by simpa using zml rv)) h64 λh' tk D e out ns' keep sz hD a1 a2 a3=>?_
 have e1:=zmm a2 a3
 subst e1
 exact ⟨.ref D,_,I.laid (t':=tk) keep sz (show ObjOk X.prog X.w _ _ _ (.lst ((sortI ns).map V.int)) from ⟨by rw [qlm,(zdi ns).length_eq,sizeLine_eq];lia,out.toList,e,zmn a1,by rw [hD]⟩),rfl,hq D (I.hok.fresh sz)⟩
theorem yd4:Fn3 X.K zg5 (λvs H Q=>zrb X vs H λx H1=>zmp X [x] H1 Q):=by
 intro ρ S H xs vs v S' Q sim r h p
 unfold zg5 at h
 split at h
 ·obtain ⟨ns,h3,h⟩:=bnd h
  obtain ⟨hz,e⟩:=zbe h
  cases e
  obtain ⟨w,rfl,rw'⟩:=r.one
  cases rw' with
  | tup ha rr =>
   have e:=zl7 h3 rr
   subst e
   exact ⟨_,ns,rfl,ha,hz,λd hd=>⟨d,zdw ns,rfl,zbw,Nat.lt_of_le_of_lt (ydg ns) hz,zfh (sim.laid hd) (zj0 _) (p.ext (zbh hd))⟩⟩
 ·cases h
theorem yd5 {K:QFg}:Fn3 K zg6 zrc:=by
 intro ρ S H xs vs v S' Q sim r h p
 unfold zg6 at h
 split at h
 ·obtain ⟨ns,h3,h⟩:=bnd h
  obtain ⟨hz,e⟩:=zbe h
  cases e
  obtain ⟨w,rfl,rw'⟩:=r.one
  cases rw' with
  | tup ha rr =>
   have e:=zl7 h3 rr
   subst e
   exact ⟨_,ns,rfl,ha,hz,zfh sim (zj0 _) p⟩
 ·cases h
theorem yd6 (hcalm:X.calm=true) (hg:Gl X "sorted") (hm:X.mg "sorted" = none) (hg2:Gl X "set") (hm2:X.mg "set" = none) (ha:PA3 X [a] mA) (he:starEach [a] X.env=(false,eval a X.env) :: starEach [] X.env:=by rfl) (hpl:(backTo pos2 (starEach [] X.env)).any (·.1)=false:=by rfl)
  (he2:starEach [.Call (.Name "set" p2) [a] [] pos2] X.env=(false,eval (.Call (.Name "set" p2) [a] [] pos2) X.env) :: starEach [] X.env:=by rfl) (hpl2:(backTo pos (starEach [] X.env)).any (·.1)=false:=by rfl) :
  PE3 X (.Call (.Name "sorted" p) [.Call (.Name "set" p2) [a] [] pos2] [] pos) (zaf zg5 mA) :=
 PE.imp (ziz (zq5 hcalm) hg hm zl8 (zgp (zi0 (yd2 hcalm) hg2 hm2 ycs ha (by decide) (by decide) he hpl) zhg he2) (by decide) (by decide) he2 hpl2) (zk8 yd4)
theorem yd7 (hg:Gl X "sorted") (hm:X.mg "sorted" = none) (ha:PA3 X (a :: es) mA) (he:starEach (a :: es) X.env=(false,eval a X.env) :: starEach es X.env:=by rfl) (hpl:(backTo pos (starEach es X.env)).any (·.1)=false:=by rfl):PE3 X (.Call (.Name "sorted" p) (a :: es) [] pos) (zaf zg6 mA) :=
 zfi yd3 yd5 hg hm zl8 ha (by decide) (by decide) he hpl
end
theorem zaq {α:Type}{x:α}{p:α->Prop}:(∃d,(some (some x):Option (Option α))=some (some d)/\p d)=p x:=by
 apply propext;constructor
 ·rintro ⟨d,h,q⟩;cases h;exact q
 ·exact λq=>⟨x,rfl,q⟩
theorem zbu {α:Type}{x:α}{p:α->Prop}:(∃d,(some x:Option α)=some d/\p d)=p x:=by
 apply propext;constructor
 ·rintro ⟨d,h,q⟩;cases h;exact q
 ·exact λq=>⟨x,rfl,q⟩
theorem zch {b:Bool}{p:Bool->Prop}:(∃k,D.bl b=D.bl k/\p k)=p b:=by
 apply propext;constructor
 ·rintro ⟨d,h,q⟩;cases h;exact q
 ·exact λq=>⟨b,rfl,q⟩
theorem zj2 {α:Type}{x y:α}:L2.atI [x,y] 0=some x:=rfl
theorem zmr {α:Type}{x y:α}:L2.atI [x,y] 1=some y:=rfl
theorem zrd {α:Type}{x y z:α}:L2.atI [x,y,z] 0=some x:=rfl
theorem zre {α:Type}{x y z:α}:L2.atI [x,y,z] 1=some y:=rfl
theorem zrf {α:Type}{x y z:α}:L2.atI [x,y,z] 2=some z:=rfl
theorem zdj:lstOf (S++[.lst xs]) S.length=some xs:=by unfold lstOf;rw [zfe]
theorem yd8 {α:Type}(xs:List α) (i:Int) (h0:0<=i) (h1:i<xs.length):∃x,L2.atI xs i=some x/\x∈xs:=by
 have hl:i.toNat<xs.length:=by omega
 refine ⟨xs[i.toNat],?_,List.getElem_mem hl⟩
 unfold L2.atI L2.ixN
 rw [if_pos h0,if_pos h1]
 simp [hl]
theorem atI_get {α:Type}{xs:List α}{i:Nat}{x:α}(h:xs[i]? = some x):L2.atI xs (i:Int)=some x:=by
 have hl:=(qme h).1
 unfold L2.atI L2.ixN
 rw [if_pos (by omega),if_pos (by omega)]
 simpa using h
section
theorem zrg:Wo (zeh (.int i) (.int j) S) Q=(((-(2 ^ 64)<i/\i<2 ^ 64)\/(-(2 ^ 64)<j/\j<2 ^ 64))/\Q (.int (i*j)) S):=zex
theorem zcr:Wo (zai (.tup xs) (.int i) S) Q = ∃v,L2.atI xs i=some v/\Q v S:=by
 have e:zai (.tup xs) (.int i) S=dIx (.tup xs) (.int i) S:=by
  unfold zai
  cases h:dIx (.tup xs) (.int i) S with
  | some v=>rfl
  | none=>rfl
 rw [e,zlq]
theorem zf9:Wo (zai (.ref k) (.int i) S) Q = ∃xs,lstOf S k=some xs/\∃v,L2.atI xs i=some v/\Q v S:=by
 have e:zai (.ref k) (.int i) S=dIx (.ref k) (.int i) S:=by
  unfold zai
  cases h:dIx (.ref k) (.int i) S with
  | some v=>rfl
  | none=>rfl
 rw [e,zlr]
theorem zga:Wo (zb7 [.ref k] S) Q = ∃xs,lstOf S k=some xs/\Q (.int xs.length) S:=zlt
theorem zj3:Wo (zb7 [.tup xs] S) Q=Q (.int xs.length) S:=zls
theorem zms:Wo (dNe (.int i) (.int j) S) Q=Q (.bl (!decide (i=j))) S:=zbl
theorem zrh:Wo (zf1 [.ref n] S) Q = ∃xs,lstOf S n=some xs/\xs.all zh0=true/\Q (.bl (xs.any isT)) S:=by
 show Wo ((lstOf S n).bind λxs=>if xs.all zh0=true then some (.bl (xs.any isT),S) else none) Q=_
 rw [zew];simp only [zex]
theorem zmt:Wo (zet U (.bl b) S) Q=Q (.bl (isI "bool" U)) S:=zbl
theorem zmu:Wo (zet U (.int b) S) Q=Q (.bl (isI "int" U)) S:=zbl
theorem zmv:Wo (zet U (.tup b) S) Q=Q (.bl (isI "tuple" U)) S:=zbl
theorem zib:isI U U=true:=by unfold isI;simp
theorem yd9 (h1:S[n]? = some (.lst xs)) (h2:S[m]? = some (.lst [])):Wo (zh3 (.ref n) (.ref m) S) Q=Q (.bl xs.isEmpty) S:=by
 show Wo (match S[n]?,S[m]? with|some (.lst xs),some (.lst [])=>some (.bl xs.isEmpty,S)|_,_=>none) Q=_
 rw [h1,h2];exact zbl
end
def Gr (S0 S:Sto):Prop:=∃ex,S=S0++ex
theorem Gr.refl (S:Sto):Gr S S:=⟨[],by rw [List.append_nil]⟩
theorem Gr.trans (h:Gr A B) (g:Gr B C):Gr A C:=by obtain ⟨x,rfl⟩:=h;obtain ⟨y,rfl⟩:=g;exact ⟨x++y,by rw [List.append_assoc]⟩
theorem Gr.push (h:Gr A B) (o:Ob):Gr A (B++[o]):=h.trans ⟨[o],rfl⟩
theorem Gr.get {n:Nat}{o:Ob}(h:Gr A B) (e:A[n]? = some o):B[n]? = some o:=by
 obtain ⟨x,rfl⟩:=h
 rw [List.getElem?_append_left (qme e).1];exact e
theorem Gr.lst (h:Gr A B) (e:lstOf A n=some xs):lstOf B n=some xs:=by
 unfold lstOf at e ⊢
 cases q:A[n]? with
 | none=>rw [q] at e;cases e
 | some o=>rw [h.get q];rw [q] at e;exact e
section
theorem zic (xs:List D) (R:Nat->List D->Lo->Sto->Prop) (hit:∀i acc l S,R i acc l S->it i S=some xs[i]?)
  (step:∀(i:Nat) x acc l S,xs[i]? = some x->R i acc l S->Wg (g x l S) λl1 S1=>Wt t l1 S1 λb S2=>if b=true then We e l1 S2 λv S3=>R (i+1) (acc++[v]) l1 S3 else R (i+1) acc l1 S2) :
  ∀(n i:Nat) (acc:List D) (l:Lo) (S:Sto),n+i=xs.length->R i acc l S->∃rest S' l',zbx it g t e (n+1) i l S=some (rest,S')/\R xs.length (acc++rest) l' S'
 | 0,i,acc,l,S,hn,h=>by
  have hi:i=xs.length:=by omega
  have e0:=hit i acc l S h
  rw [List.getElem?_eq_none_iff.mpr (by omega)] at e0
  refine ⟨[],S,l,?_,by rw [List.append_nil,<-hi];exact h⟩
  unfold zbx;rw [e0];rfl
 | n+1,i,acc,l,S,hn,h=>by
  have hi:i<xs.length:=by omega
  have e0:=hit i acc l S h
  rw [qge hi] at e0
  obtain ⟨l1,S1,e1,b,S2,e2,q⟩:=step i _ acc l S (qge hi) h
  cases b with
  | true =>
   obtain ⟨v,S3,e3,q⟩:=q
   obtain ⟨rest,S',l',e4,q⟩:=zic xs R hit step n (i+1) (acc++[v]) l1 S3 (by omega) q
   refine ⟨v :: rest,S',l',?_,by rw [List.append_assoc] at q;exact q⟩
   unfold zbx;rw [e0];show (g _ l S).bind _=_;rw [e1];show (t l1 S1).bind _=_;rw [e2]
   show (e l1 S2).bind _=_;rw [e3];show (zbx it g t e (n+1) (i+1) l1 S3).bind _=_;rw [e4];rfl
  | false =>
   obtain ⟨rest,S',l',e4,q⟩:=zic xs R hit step n (i+1) acc l1 S2 (by omega) q
   refine ⟨rest,S',l',?_,q⟩
   unfold zbx;rw [e0];show (g _ l S).bind _=_;rw [e1];show (t l1 S1).bind _=_;rw [e2]
   exact e4
theorem zg7 (xs:List D) (R:Nat->List D->Lo->Sto->Prop) (him:im l S=some (it,xs.length+1,S1)) (h0:R 0 [] (za2 ixs l) S1) (hit:∀i acc l S,R i acc l S->it i S=some xs[i]?)
  (step:∀(i:Nat) x acc l S,xs[i]? = some x->R i acc l S->Wg (g x l S) λl1 S1=>Wt t l1 S1 λb S2=>if b=true then We e l1 S2 λv S3=>R (i+1) (acc++[v]) l1 S3 else R (i+1) acc l1 S2)
  (fin:∀acc l' S',R xs.length acc l' S'->acc.length<=sizeLine/\Q (.ref S'.length) (S'++[.lst acc])):We (zb6 im ixs g t e) l S Q:=by
 obtain ⟨rest,S',l',h1,h2⟩:=zic (it:=it) (g:=g) (t:=t) (e:=e) xs R hit step xs.length 0 [] (za2 ixs l) S1 rfl h0
 obtain ⟨hz,q⟩:=fin rest l' S' h2
 refine ⟨_,_,?_,q⟩
 unfold zb6;rw [him];show (zbx it g t e (xs.length+1) 0 (za2 ixs l) S1).bind _=_;rw [h1];show (if _ then _ else _)=_;rw [if_pos hz]
theorem yea (xs:List D) (F:D->D) (P:Sto->Prop) (L:Lo->Prop) (him:im l S=some (it,xs.length+1,S1)) (h0:P S1) (l0:L (za2 ixs l)) (hit:∀i S,P S->it i S=some xs[i]?) (hz:xs.length<=sizeLine)
  (step:∀x l S,x∈xs->L l->P S->Wg (g x l S) λl1 S2=>P S2/\L l1/\We e l1 S2 λv S3=>v=F x/\P S3)
  (fin:∀S',P S'->Q (.ref S'.length) (S'++[.lst (xs.map F)])):We (zb6 im ixs g zba e) l S Q:=by
 refine zg7 xs (λi acc l S=>acc=(xs.take i).map F/\L l/\P S) him ⟨rfl,l0,h0⟩ (λi acc l S h=>hit i S h.2.2) ?_ ?_
 ·rintro i x acc l S hx ⟨rfl,hl,hp⟩
  obtain ⟨l1,S2,e1,p1,q1,v,S3,e2,rfl,p3⟩:=step x l S (qmg hx) hl hp
  refine ⟨l1,S2,e1,?_⟩
  dsimp only
  rw [zhx,if_pos rfl]
  refine ⟨_,S3,e2,?_,q1,p3⟩
  rw [List.take_add_one,hx];simp
 ·rintro acc l' S' ⟨rfl,hl,hp⟩
  rw [List.take_length]
  exact ⟨by rw [qlm];exact hz,fin S' hp⟩
theorem zri (xs:List D) (F:D->Option D) (P:Sto->Prop) (L:Lo->Prop) (him:im l S=some (it,xs.length+1,S1)) (h0:P S1) (l0:L (za2 ixs l)) (hit:∀i S,P S->it i S=some xs[i]?) (hz:xs.length<=sizeLine)
  (step:∀x l S,x∈xs->L l->P S->Wg (g x l S) λl1 S2=>L l1/\Wt t l1 S2 λb S3=>P S3/\(b=false->F x=none)/\(b=true->We e l1 S3 λv S4=>F x=some v/\P S4))
  (fin:∀S',P S'->Q (.ref S'.length) (S'++[.lst (xs.filterMap F)])):We (zb6 im ixs g t e) l S Q:=by
 refine zg7 xs (λi acc l S=>acc=(xs.take i).filterMap F/\L l/\P S) him ⟨rfl,l0,h0⟩ (λi acc l S h=>hit i S h.2.2) ?_ ?_
 ·rintro i x acc l S hx ⟨rfl,hl,hp⟩
  obtain ⟨l1,S2,e1,q1,b,S3,e2,p3,hf,ht⟩:=step x l S (qmg hx) hl hp
  refine ⟨l1,S2,e1,b,S3,e2,?_⟩
  have et:xs.take (i+1)=xs.take i++[x]:=by rw [List.take_add_one,hx];rfl
  cases b with
  | true =>
   obtain ⟨v,S4,e4,hv,p4⟩:=ht rfl
   dsimp only
   rw [if_pos rfl]
   refine ⟨v,S4,e4,?_,q1,p4⟩
   rw [et,List.filterMap_append];simp [hv]
  | false =>
   dsimp only
   rw [if_neg Bool.false_ne_true]
   refine ⟨?_,q1,p3⟩
   rw [et,List.filterMap_append];simp [hf rfl]
 ·rintro acc l' S' ⟨rfl,hl,hp⟩
  rw [List.take_length]
  exact ⟨Nat.le_trans (List.length_filterMap_le _ _) hz,fin S' hp⟩
theorem yeb (xs:List D) (V:D->Prop) (P:Nat->Sto->Prop) (L:Lo->Prop) (him:im l S=some (it,xs.length+1,S1)) (h0:P 0 S1) (l0:L (za2 ixs l)) (hit:∀i S,P i S->it i S=some xs[i]?) (hz:xs.length<=sizeLine)
  (step:∀(i:Nat) x l S,xs[i]? = some x->L l->P i S->Wg (g x l S) λl1 S2=>L l1/\We e l1 S2 λv S3=>V v/\P (i+1) S3)
  (fin:∀vs S',vs.length=xs.length->(∀v∈vs,V v)->P xs.length S'->Q (.ref S'.length) (S'++[.lst vs])):We (zb6 im ixs g zba e) l S Q:=by
 refine zg7 xs (λi acc l S=>acc.length=i/\(∀v∈acc,V v)/\L l/\P i S) him ⟨rfl,(λv hv=>by cases hv),l0,h0⟩ (λi acc l S h=>hit i S h.2.2.2) ?_ ?_
 ·rintro i x acc l S hx ⟨hl,hv,hL,hp⟩
  obtain ⟨l1,S2,e1,q1,v,S3,e2,hv2,p3⟩:=step i x l S hx hL hp
  refine ⟨l1,S2,e1,?_⟩
  dsimp only
  rw [zhx,if_pos rfl]
  refine ⟨v,S3,e2,by simp [hl],λu hu=>?_,q1,p3⟩
  rcases List.mem_append.mp hu with hu|hu
  ·exact hv u hu
  ·rw [List.mem_singleton.mp hu];exact hv2
 ·rintro acc l' S' ⟨hl,hv,hL,hp⟩
  exact ⟨by rw [hl];exact hz,fin acc S' hl hv hp⟩
end
theorem yec (h:as l S=some ([.int j],S1)) (hz:-(2 ^ 62)<=j/\j<2 ^ 62):zbi as l S=some ((0,j.toNat),S1):=by
 unfold zbi;rw [h];simp only [Option.bind_some];rw [if_pos hz]
theorem zj4 (h:as l S=some ([.int (n:Int)],S1)) (hn:n<1000000000):zed (zbi as) l S=some (itX (zau 0 n),(zau 0 n).length+1,S1):=by
 have:=yec h ⟨by omega,by omega⟩
 unfold zed;rw [this];simp only [Option.bind_some,Int.toNat_natCast,zeg]
noncomputable def enl (xs:List D):List D:=xs.mapIdx λi x=>.tup [.int i,x]
theorem zrj (xs:List D):(enl xs).length=xs.length:=by simp [enl]
theorem zrk (xs:List D) (i:Nat):(enl xs)[i]? = (xs[i]?).map λx=>.tup [.int i,x]:=by simp [enl,List.getElem?_mapIdx]
theorem zid (h:e l S=some (.tup xs,S1)):zcp e l S=some (itX xs,xs.length+1,S1):=by
 unfold zcp;rw [h];rfl
theorem zj5 (h:e l S=some (.ref n,S1)) (hn:lstOf S1 n=some xs):zcp e l S=some (itL n,xs.length+1,S1):=by
 unfold zcp;rw [h];show (lstOf S1 n).bind _=_;rw [hn];rfl
theorem zie (hn:lstOf S n=some xs):itL n i S=some xs[i]?:=by unfold itL;rw [hn];rfl
section
theorem zmw (P:Nat->Lo->Sto->Prop) (O:D->Sto->Prop):∀(xs:List D) (k:Nat) (l:Lo) (S:Sto),P k l S ->
  (∀(i:Nat) x l S,xs[i]? = some x->P (k+i) l S->Wg (g x l S) λl1 S1=>Ws b l1 S1 λf l2 S2=>((f=.nx\/f=.ct)/\P (k+i+1) l2 S2)\/∃d,f=.rt d/\O d S2) ->
  Wr (zde g b xs l S) λf l' S'=>(f=.nx/\P (k+xs.length) l' S')\/∃d,f=.rt d/\O d S'
 | [],k,l,S,h0,_=>⟨_,_,_,rfl,.inl ⟨rfl,h0⟩⟩
 | x :: xs,k,l,S,h0,hs=>by
  obtain ⟨l1,S1,e1,f,l2,S2,e2,q⟩:=hs 0 x l S rfl h0
  rcases q with ⟨hf,h1⟩|⟨d,rfl,hd⟩
  ·have ih:=zmw P O xs (k+1) l2 S2 h1 λi y l S hy hp=>by
    have:=hs (i+1) y l S (by simpa using hy) (by rw [show k+(i+1)=k+1+i by omega];exact hp)
    rw [show k+(i+1)+1=k+1+i+1 by omega] at this
    exact this
   obtain ⟨f',l',S',e3,q1⟩:=ih
   refine ⟨f',l',S',?_,by rw [List.length_cons,show k+(xs.length+1)=k+1+xs.length by omega];exact q1⟩
   unfold zde
   rw [e1];show (b l1 S1).bind _=_;rw [e2]
   rcases hf with rfl|rfl <;> exact e3
  ·refine ⟨_,l2,S2,?_,.inr ⟨d,rfl,hd⟩⟩
   unfold zde
   rw [e1];show (b l1 S1).bind _=_;rw [e2];rfl
theorem ze5 (P:Nat->Lo->Sto->Prop) (O:D->Sto->Prop) (h:as l S=some ([.int (n:Int)],S1)) (hn:n<1000000000) (h0:P 0 l S1)
  (step:∀(i:Nat) l S,i<n->P i l S->Wg (g (.int i) l S) λl1 S1=>Ws b l1 S1 λf l2 S2=>((f=.nx\/f=.ct)/\P (i+1) l2 S2)\/∃d,f=.rt d/\O d S2)
  (fin:∀l' S',P n l' S'->QS .nx l' S') (out:∀d l' S',O d S'->QS (.rt d) l' S'):Ws (zcw (zbi as) g b) l S QS:=by
 rw [zzm]
 refine ⟨_,_,h,(n:Int),rfl,⟨by omega,by omega⟩,?_⟩
 rw [Int.toNat_natCast]
 refine (zmw P O (zau 0 n) 0 l S1 h0 ?_).mono ?_
 ·intro i x l S hx hp
  obtain ⟨hi,rfl⟩:=zjk hx
  rw [Nat.zero_add] at hp
  have:=step i l S hi hp
  rw [Int.zero_add,Nat.zero_add]
  exact this
 ·rintro f l' S' (⟨rfl,hp⟩|⟨d,rfl,hd⟩)
  ·rw [zeg,Nat.zero_add] at hp;exact fin l' S' hp
  ·exact out d l' S' hd
end
section
theorem ze6:Wo (zbf (.int i) (.int j) S) Q=Q (.int (i+j)) S:=zbl
theorem zif:Wo (zbf (.tup xs) (.tup ys) S) Q=(xs.length+ys.length<=sizeLine/\Q (.tup (xs++ys)) S):=zex
theorem yed {n:Nat}{i:Nat}(h:S[n]? = some (.lst xs)) (hi:i<=xs.length) (hz:xs.length<sizeLine):Wo (zf3 (.ref n) [.int i,x] S) Q=Q .non (S.set n (.lst (xs.take i++[x]++xs.drop i))):=by
 have:zf3 (.ref n) [.int i,x] S=some (.non,S.set n (.lst (xs.take i++[x]++xs.drop i))):=by
  unfold zf3;simp only [h]
  rw [if_pos ⟨by omega,by omega,hz⟩,Int.toNat_natCast]
 rw [this];exact zbl
def Wp (o:OM) (l:Lo) (S:Sto) (Q:Option Int->Sto->Prop):Prop:=∃v S',o l S=some (v,S')/\Q v S'
theorem zgb {Q:Option Int->Sto->Prop}:Wp zc2 l S Q=Q none S:=by
 apply propext
 exact ⟨λhx1_=>by obtain ⟨v,S',h,q⟩:=hx1_;cases h;exact q,λq=>⟨_,_,rfl,q⟩⟩
theorem zgc {Q:Option Int->Sto->Prop}:Wp (zcs e) l S Q=We e l S λx S1=>∃i,x=.int i/\Q (some i) S1:=by
 apply propext
 constructor
 ·rintro ⟨v,S',h,q⟩
  obtain ⟨⟨x,S1⟩,h1,h⟩:=bnd h
  refine ⟨x,S1,h1,?_⟩
  cases x with
  | int i=>cases h;exact ⟨i,rfl,q⟩
  | _=>cases h
 ·rintro ⟨x,S1,h1,i,rfl,q⟩
  exact ⟨_,S1,by unfold zcs;rw [h1];rfl,q⟩
theorem zgd {b:Int}{p:Int->Prop}:(∃k,D.int b=D.int k/\p k)=p b:=by
 apply propext;constructor
 ·rintro ⟨d,h,q⟩;cases h;exact q
 ·exact λq=>⟨b,rfl,q⟩
noncomputable def slA (x:D) (a b:Option Int) (S:Sto):Option (D × Sto):=match x with
 | .tup xs=>some (.tup (zbt xs a b),S)
 | .ref n=>(lstOf S n).bind λxs=>some (.ref S.length,S++[.lst (zbt xs a b)])
 | .str z=>if z.length<=sizeLine then some (.str (Txt.slice z a b),S) else none
 | _=>none
theorem zge {m:EM}{lo hi:OM}:We (zcx m lo hi) l S Q=We m l S λx S1=>Wp lo l S1 λa S2=>Wp hi l S2 λb S3=>Wo (slA x a b S3) Q:=by
 apply propext
 constructor
 ·rintro ⟨v,S',h,q⟩
  obtain ⟨⟨x,S1⟩,h1,h⟩:=bnd h
  obtain ⟨⟨a,S2⟩,h2,h⟩:=bnd h
  obtain ⟨⟨b,S3⟩,h3,h⟩:=bnd h
  exact ⟨x,S1,h1,a,S2,h2,b,S3,h3,v,S',h,q⟩
 ·rintro ⟨x,S1,h1,a,S2,h2,b,S3,h3,v,S',h,q⟩
  refine ⟨v,S',?_,q⟩
  unfold zcx;rw [h1];show (lo l S1).bind _=_;rw [h2];show (hi l S2).bind _=_;rw [h3];exact h
theorem zj6:Wo (slA (.tup xs) a b S) Q=Q (.tup (zbt xs a b)) S:=zbl
theorem zj7 (h:lstOf S n=some xs):Wo (slA (.ref n) a b S) Q=Q (.ref S.length) (S++[.lst (zbt xs a b)]):=by
 show Wo ((lstOf S n).bind λxs=>some (.ref S.length,S++[.lst (zbt xs a b)])) Q=_
 rw [h];exact zbl
theorem zmx (xs:List D) (k:Nat):zbt xs none (some (k:Int))=xs.take k:=by
 unfold zbt;rw [HT.sIx_none,HT.sIx_nat,List.drop_zero,Nat.sub_zero]
 by_cases h:k<=xs.length
 ·rw [Nat.min_eq_left h]
 ·rw [Nat.min_eq_right (by omega),List.take_length,List.take_of_length_le (by omega)]
theorem yee (xs:List D) (k:Nat):zbt xs (some (k:Int)) none=xs.drop k:=by
 unfold zbt;rw [HT.sIx_none,HT.sIx_nat]
 by_cases h:k<=xs.length
 ·rw [Nat.min_eq_left h,List.take_of_length_le (by rw [List.length_drop];exact qlr _)]
 ·rw [Nat.min_eq_right (by omega),Nat.sub_self,List.take_zero,List.drop_eq_nil_of_le (by omega)]
end
section
theorem zrl (xs:List D) (P:Nat->Lo->Sto->Prop) (O:D->Sto->Prop) (hit:∀i l S,P i l S->it i S=some xs[i]?)
  (step:∀(i:Nat) x l S,xs[i]? = some x->P i l S->Wg (g x l S) λl1 S1=>Ws b l1 S1 λf l2 S2=>((f=.nx\/f=.ct)/\P (i+1) l2 S2)\/∃d,f=.rt d/\O d S2) :
  ∀(n i:Nat) (l:Lo) (S:Sto),n+i=xs.length->P i l S->Wr (zdv it g b (n+1) i l S) λf l' S'=>(f=.nx/\P xs.length l' S')\/∃d,f=.rt d/\O d S'
 | 0,i,l,S,hn,h=>by
  have hi:i=xs.length:=by omega
  have e0:=hit i l S h
  rw [List.getElem?_eq_none_iff.mpr (by omega)] at e0
  refine ⟨.nx,l,S,?_,.inl ⟨rfl,by rw [<-hi];exact h⟩⟩
  unfold zdv;rw [e0];rfl
 | n+1,i,l,S,hn,h=>by
  have hi:i<xs.length:=by omega
  have e0:=hit i l S h
  rw [qge hi] at e0
  obtain ⟨l1,S1,e1,f,l2,S2,e2,q⟩:=step i _ l S (qge hi) h
  rcases q with ⟨hf,h1⟩|⟨d,rfl,hd⟩
  ·obtain ⟨f',l',S',e3,q1⟩:=zrl xs P O hit step n (i+1) l2 S2 (by omega) h1
   refine ⟨f',l',S',?_,q1⟩
   unfold zdv;rw [e0];show (g _ l S).bind _=_;rw [e1];show (b l1 S1).bind _=_;rw [e2]
   rcases hf with rfl|rfl <;> exact e3
  ·refine ⟨_,l2,S2,?_,.inr ⟨d,rfl,hd⟩⟩
   unfold zdv;rw [e0];show (g _ l S).bind _=_;rw [e1];show (b l1 S1).bind _=_;rw [e2];rfl
theorem zrm (xs:List D) (P:Nat->Lo->Sto->Prop) (O:D->Sto->Prop) (him:im l S=some (it,xs.length+1,S1)) (h0:P 0 l S1) (hit:∀i l S,P i l S->it i S=some xs[i]?)
  (step:∀(i:Nat) x l S,xs[i]? = some x->P i l S->Wg (g x l S) λl1 S1=>Ws b l1 S1 λf l2 S2=>((f=.nx\/f=.ct)/\P (i+1) l2 S2)\/∃d,f=.rt d/\O d S2)
  (fin:∀l' S',P xs.length l' S'->QS .nx l' S') (out:∀d l' S',O d S'->QS (.rt d) l' S'):Ws (zh1 im g b) l S QS:=by
 obtain ⟨f,l',S',e,q⟩:=zrl (it:=it) (g:=g) (b:=b) xs P O hit step xs.length 0 l S1 rfl h0
 refine ⟨f,l',S',by unfold zh1;rw [him];exact e,?_⟩
 rcases q with ⟨rfl,h⟩|⟨d,rfl,h⟩
 ·exact fin l' S' h
 ·exact out d l' S' h
theorem zrn (xs:List D) (P:Nat->Lo->Sto->Prop) (O:D->Sto->Prop) (he:e l S=some (.tup xs,S1)) (h0:P 0 l S1)
  (step:∀(i:Nat) x l S,xs[i]? = some x->P i l S->Wg (g x l S) λl1 S1=>Ws b l1 S1 λf l2 S2=>((f=.nx\/f=.ct)/\P (i+1) l2 S2)\/∃d,f=.rt d/\O d S2)
  (fin:∀l' S',P xs.length l' S'->QS .nx l' S') (out:∀d l' S',O d S'->QS (.rt d) l' S'):Ws (zcv e g b) l S QS:=by
 rw [zph]
 refine ⟨_,_,he,?_⟩
 refine (zmw P O xs 0 l S1 h0 ?_).mono ?_
 ·intro i x l S hx hp
  rw [Nat.zero_add] at hp ⊢
  exact step i x l S hx hp
 ·rintro f l' S' (⟨rfl,hp⟩|⟨d,rfl,hd⟩)
  ·rw [Nat.zero_add] at hp;exact fin l' S' hp
  ·exact out d l' S' hd
theorem zro (xs:List D) (P:Nat->Lo->Sto->Prop) (O:D->Sto->Prop) (hit:∀i l S,P i l S->lstOf S n=some xs)
  (step:∀(i:Nat) x l S,xs[i]? = some x->P i l S->Wg (g x l S) λl1 S1=>Ws b l1 S1 λf l2 S2=>((f=.nx\/f=.ct)/\P (i+1) l2 S2)\/∃d,f=.rt d/\O d S2) :
  ∀(k i:Nat) (l:Lo) (S:Sto),k+i=xs.length->P i l S->Wr (zdf g b n (k+1) i l S) λf l' S'=>(f=.nx/\P xs.length l' S')\/∃d,f=.rt d/\O d S'
 | 0,i,l,S,hn,h=>by
  have hi:i=xs.length:=by omega
  refine ⟨.nx,l,S,?_,.inl ⟨rfl,by rw [<-hi];exact h⟩⟩
  unfold zdf;rw [hit i l S h];simp only [Option.bind_some];rw [List.getElem?_eq_none_iff.mpr (by omega)]
 | k+1,i,l,S,hn,h=>by
  have hi:i<xs.length:=by omega
  obtain ⟨l1,S1,e1,f,l2,S2,e2,q⟩:=step i _ l S (qge hi) h
  rcases q with ⟨hf,h1⟩|⟨d,rfl,hd⟩
  ·obtain ⟨f',l',S',e3,q1⟩:=zro xs P O hit step k (i+1) l2 S2 (by omega) h1
   refine ⟨f',l',S',?_,q1⟩
   unfold zdf;rw [hit i l S h];simp only [Option.bind_some];rw [qge hi];show (g _ l S).bind _=_;rw [e1];show (b l1 S1).bind _=_;rw [e2]
   rcases hf with rfl|rfl <;> exact e3
  ·refine ⟨_,l2,S2,?_,.inr ⟨d,rfl,hd⟩⟩
   unfold zdf;rw [hit i l S h];simp only [Option.bind_some];rw [qge hi];show (g _ l S).bind _=_;rw [e1];show (b l1 S1).bind _=_;rw [e2];rfl
theorem zj8 (xs:List D) (P:Nat->Lo->Sto->Prop) (O:D->Sto->Prop) (he:e l S=some (.ref n,S1)) (h0:P 0 l S1) (hit:∀i l S,P i l S->lstOf S n=some xs)
  (step:∀(i:Nat) x l S,xs[i]? = some x->P i l S->Wg (g x l S) λl1 S1=>Ws b l1 S1 λf l2 S2=>((f=.nx\/f=.ct)/\P (i+1) l2 S2)\/∃d,f=.rt d/\O d S2)
  (fin:∀l' S',P xs.length l' S'->QS .nx l' S') (out:∀d l' S',O d S'->QS (.rt d) l' S'):Ws (zcv e g b) l S QS:=by
 rw [zph]
 refine ⟨_,_,he,?_⟩
 simp only
 rw [hit 0 l S1 h0];simp only [Option.bind_some]
 refine (zro xs P O hit step xs.length 0 l S1 rfl h0).mono ?_
 rintro f l' S' (⟨rfl,hp⟩|⟨d,rfl,hd⟩)
 ·exact fin l' S' hp
 ·exact out d l' S' hd
end
theorem zrp (B:Nat):∀ts:List Str,(∀t∈ts,t.length<=B)->(ts.map (·.length)).sum<=B*ts.length
 | [],_=>Nat.zero_le _
 | t :: ts,h=>by
  have h1:=h t List.mem_cons_self
  have h2:=zrp B ts λx hx=>h x (List.mem_cons_of_mem _ hx)
  simp only [List.map_cons,List.sum_cons,List.length_cons]
  rw [Nat.mul_add];omega
theorem yef (xs:List PyData):PyData.shownAll xs=xs.map PyData.shown:=by
 induction xs with
 | nil=>rfl
 | cons x xs ih=>unfold PyData.shownAll;rw [ih];rfl
theorem yeg (B:Nat) (xs:List PyData) (h:∀x∈xs,x.shown.length<=B):(PyData.tuple xs).shown.length<=B*xs.length+2*xs.length+3:=by
 show (tupleText (PyData.shownAll xs)).length<=_
 rw [yef]
 have h1:=tupleText_len_le (xs.map PyData.shown)
 have h2:=zrp B (xs.map PyData.shown) λt ht=>by
  obtain ⟨p,hp,rfl⟩:=List.mem_map.mp ht
  exact h p hp
 simp only [qlm] at h1 h2
 omega
def Sh (S:Sto) (k B:Nat) (d:D):Prop:=∃p:PyData,p.shown.length<=B/\∀S',Gr S S'->za5 S' k d=some p
theorem Sh.le (h:Sh S k B d) (hb:B<=B'):Sh S k B' d:=let ⟨p,h1,h2⟩:=h;⟨p,Nat.le_trans h1 hb,h2⟩
theorem zrq:∀(xs:List D),(∀x∈xs,Sh S k B x)->∃ps:List PyData,ps.length=xs.length/\(∀p∈ps,p.shown.length<=B)/\∀S',Gr S S'->pyAll S' k xs=some ps
 | [],_=>⟨[],rfl,(λp hp=>by cases hp),λex _=>by unfold pyAll;rfl⟩
 | x :: xs,h=>by
  obtain ⟨p,h1,h2⟩:=h x List.mem_cons_self
  obtain ⟨ps,h3,h4,h5⟩:=zrq xs λy hy=>h y (List.mem_cons_of_mem _ hy)
  refine ⟨p :: ps,by simp [h3],λq hq=>?_,λex g=>?_⟩
  ·rcases List.mem_cons.mp hq with rfl|hq
   ·exact h1
   ·exact h4 q hq
  ·unfold pyAll;rw [h2 ex g,h5 ex g];rfl
theorem zj9 (h:∀x∈xs,Sh S k B x) (hn:xs.length<=n):Sh S (k+1) (B*n+2*n+3) (.tup xs):=by
 obtain ⟨ps,h1,h2,h3⟩:=zrq xs h
 refine ⟨.tuple ps,?_,λex g=>?_⟩
 ·have:=yeg B ps h2
  rw [h1] at this
  have h4:B*xs.length<=B*n:=Nat.mul_le_mul_left _ hn
  omega
 ·unfold za5;rw [h3 ex g];rfl
theorem zrr (h:n<1000000):((n:Nat):Int).natAbs.log2<1920:=by
 by_cases hz:n=0
 ·subst hz;decide
 ·have h1:((n:Nat):Int).natAbs=n:=by omega
  rw [h1]
  have h2:n.log2<20:=(Nat.log2_lt hz).mpr (Nat.lt_of_lt_of_le h (by decide))
  omega
theorem zrs {k n:Nat}(h:n<1000000):Sh S (k+1) 10 (.int n):=by
 refine ⟨.int n,?_,λex _=>by unfold za5;rw [if_pos (zrr h)]⟩
 show (PySem.Str.ofString (toString (n:Int))).length<=10
 exact PySem.W.KT.len_num (by omega) (by omega)
theorem yeh:Sh S (k+1) 10 .non:=⟨.none,by decide +kernel,λex _=>by unfold za5;rfl⟩
theorem yei (h:za5 S 140 x=some p) (hz:p.shown.length<=sizeLine):Wo (zez [x] S) Q=Q (.str p.shown) S:=by
 rw [zzq,h]
 apply propext
 constructor
 ·rintro ⟨pd,e,_,q⟩;cases e;exact q
 ·intro q;exact ⟨p,rfl,hz,q⟩
section
theorem zrt:We zmc l S Q=Q (.ref S.length) (S++[.tdct []]):=by
 apply propext
 exact ⟨λhx2_=>by obtain ⟨v,S',h,q⟩:=hx2_;cases h;exact q,λq=>⟨_,_,rfl,q⟩⟩
theorem zru:Wo (ze0 neg y x S) Q = ∃o,dRd S x y=some o/\Q (.bl (if neg then !o.isSome else o.isSome)) S:=by
 unfold ze0
 rw [zew];simp only [zbl]
theorem zmy:Wg (zh6 o i v l S) QG=We o l S λx S1=>We i l S1 λy S2=>∃S',zf5 x y v S2=some S'/\QG l S':=by
 apply propext
 constructor
 ·rintro ⟨l',S',h,q⟩
  obtain ⟨⟨x,S1⟩,h1,h⟩:=bnd h
  obtain ⟨⟨y,S2⟩,h2,h⟩:=bnd h
  obtain ⟨S3,h3,h⟩:=bnd h
  cases h
  exact ⟨x,S1,h1,y,S2,h2,_,h3,q⟩
 ·rintro ⟨x,S1,h1,y,S2,h2,S3,h3,q⟩
  refine ⟨l,S3,?_,q⟩
  unfold zh6;rw [h1];show (i l S1).bind _=_;rw [h2];show (zf5 x y v S2).bind _=_;rw [h3];rfl
theorem yej (h:S[n]? = some (.tdct kvs)) (hk:zc5 y=some k) (hz:kvs.length<sizeLine):zf5 (.ref n) y v S=some (S.set n (.tdct (zcd kvs k v))):=by
 unfold zf5;dsimp only;rw [h];dsimp only;rw [hk];show (if _ then _ else _)=_;rw [if_pos hz]
theorem zmz (h:S[n]? = some (.tdct kvs)) (hk:zc5 y=some k):dRd S (.ref n) y=some (za8 kvs k):=by
 unfold dRd;dsimp only;rw [h];dsimp only;rw [hk];rfl
theorem zm0 (h:S[n]? = some (.tdct kvs)):isDc S (.ref n)=some ():=by unfold isDc;dsimp only;rw [h]
end
theorem zrv (I:Nat->Lo->Sto->Prop) (O:D->Sto->Prop) (Q:Lo->Sto->Prop)
  (step:∀m l S,I m l S->Wt c l S λk S1=>if k=true then Ws b l S1 λf l2 S2=>((f=.nx\/f=.ct)/\∃m',m' < m/\I m' l2 S2)\/∃d,f=.rt d/\O d S2 else Q l S1) :
  ∀(fuel m:Nat),m<fuel->∀l S,I m l S->Wr (whl c b fuel l S) λf l' S'=>(f=.nx/\Q l' S')\/∃d,f=.rt d/\O d S'
 | 0,m,h,_,_,_=>absurd h (Nat.not_lt_zero _)
 | fuel+1,m,h,l,S,hi=>by
  obtain ⟨k,S1,e1,h1⟩:=step m l S hi
  cases k with
  | false=>exact ⟨.nx,l,S1,by unfold whl;rw [e1];rfl,.inl ⟨rfl,h1⟩⟩
  | true =>
   have h1:Ws b l S1 λf l2 S2=>((f=.nx\/f=.ct)/\∃m',m' < m/\I m' l2 S2)\/∃d,f=.rt d/\O d S2:=h1
   obtain ⟨f,l2,S2,e2,q⟩:=h1
   rcases q with ⟨hf,m',hm,hi2⟩|⟨d,rfl,hd⟩
   ·obtain ⟨f',l',S',e3,q⟩:=zrv I O Q step fuel m' (by omega) l2 S2 hi2
    refine ⟨f',l',S',?_,q⟩
    unfold whl;rw [e1];show (b l S1).bind _=_;rw [e2]
    rcases hf with rfl|rfl <;> exact e3
   ·refine ⟨_,l2,S2,?_,.inr ⟨d,rfl,hd⟩⟩
    unfold whl;rw [e1];show (b l S1).bind _=_;rw [e2];rfl
theorem zrw (I:Nat->Lo->Sto->Prop) (O:D->Sto->Prop) (Q:Lo->Sto->Prop) (m:Nat) (hm:m<1000000) (h0:I m l S)
  (step:∀m l S,I m l S->Wt c l S λk S1=>if k=true then Ws b l S1 λf l2 S2=>((f=.nx\/f=.ct)/\∃m',m' < m/\I m' l2 S2)\/∃d,f=.rt d/\O d S2 else Q l S1)
  (fin:∀l' S',Q l' S'->QS .nx l' S') (out:∀d l' S',O d S'->QS (.rt d) l' S'):Ws (whl c b zfz) l S QS:=by
 refine Wr.mono (zrv I O Q step zfz m hm l S h0) ?_
 rintro f l' S' (⟨rfl,h⟩|⟨d,rfl,h⟩)
 ·exact fin l' S' h
 ·exact out d l' S' h
theorem zbm (h1:Ws m l S λf l1 S1=>f=.nx/\l1=l'/\S1=S') (h2:Ws n l' S' QS):Ws (zal m n) l S QS:=by
 rw [zjf]
 obtain ⟨f,l1,S1,e,rfl,rfl,rfl⟩:=h1
 exact ⟨_,_,_,e,h2⟩
theorem zgf (R:Lo->Sto->Prop) (O:D->Sto->Prop) (h1:Ws m l S λf l1 S1=>(f=.nx/\R l1 S1)\/∃d,f=.rt d/\O d S1) (h2:∀l1 S1,R l1 S1->Ws n l1 S1 QS) (h3:∀d l1 S1,O d S1->QS (.rt d) l1 S1):Ws (zal m n) l S QS:=by
 rw [zjf]
 obtain ⟨f,l1,S1,e,q⟩:=h1
 rcases q with ⟨rfl,r⟩|⟨d,rfl,o⟩
 ·exact ⟨_,_,_,e,h2 l1 S1 r⟩
 ·exact ⟨_,_,_,e,h3 d l1 S1 o⟩
theorem Gr.len (h:Gr A B):A.length<=B.length:=by obtain ⟨x,rfl⟩:=h;rw [qla];omega
theorem Gr.set (h:Gr A B) (hr:A.length<=r) (o:Ob):Gr A (B.set r o):=by
 obtain ⟨x,rfl⟩:=h
 exact ⟨x.set (r-A.length) o,by rw [List.set_append_right _ _ hr]⟩
theorem zig (h:S[n]? = some (.lst xs)):lstOf S n=some xs:=by unfold lstOf;rw [h]
theorem zce {S:Sto}{o:Ob}:(S++[o])[S.length]? = some o:=zfe S o
theorem zb8 {n:Nat}{o o':Ob}(h:S[n]? = some o):(S++[o'])[n]? = some o:=by
 rw [List.getElem?_append_left (qme h).1];exact h
theorem zg8 {S:Sto}{n:Nat}{o o':Ob}(h:S[n]? = some o):(S.set n o')[n]? = some o':=List.getElem?_set_self (qme h).1
theorem zcf {S:Sto}{n m:Nat}{o o':Ob}(h:S[m]? = some o) (hn:n≠m):(S.set n o')[m]? = some o:=by rw [List.getElem?_set_ne hn];exact h
theorem zg9 (h:S[n]? = some (.lst xs)) (hz:xs.length<sizeLine):Wo (zct (.ref n) [x] S) Q=Q .non (S.set n (.lst (xs++[x]))):=by
 rw [zzl,h]
 apply propext
 constructor
 ·rintro ⟨ys,e,_,q⟩;cases e;exact q
 ·exact λq=>⟨xs,rfl,hz,q⟩
theorem zd4 (h:S[n]? = some (.lst xs)):zgu (.ref n) S=some xs:=zig h
section
theorem zka {α:Type}{im:IM}{it:ItM}{ixs:List (Option Nat)}{g:GM}{e:EM}(ys:List α) (f h:α->D) (P:Sto->Prop) (L:Lo->Prop) (him:im l S=some (it,(ys.map f).length+1,S1)) (h0:P S1) (l0:L (za2 ixs l)) (hit:∀i S,P S->it i S=some (ys.map f)[i]?) (hz:ys.length<=sizeLine)
  (step:∀y l S,y∈ys->L l->P S->Wg (g (f y) l S) λl1 S2=>L l1/\We e l1 S2 λv S3=>v=h y/\P S3)
  (fin:∀S',P S'->Q (.ref S'.length) (S'++[.lst (ys.map h)])):We (zb6 im ixs g zba e) l S Q:=by
 refine zg7 (ys.map f) (λi acc l S=>acc=(ys.take i).map h/\L l/\P S) him ⟨rfl,l0,h0⟩ (λi acc l S h=>hit i S h.2.2) ?_ ?_
 ·rintro i x acc l S hx ⟨rfl,hl,hp⟩
  rw [qgm] at hx
  obtain ⟨y,hy,rfl⟩:=Option.map_eq_some_iff.mp hx
  obtain ⟨l1,S2,e1,q1,v,S3,e2,rfl,p3⟩:=step y l S (qmg hy) hl hp
  refine ⟨l1,S2,e1,?_⟩
  dsimp only
  rw [zhx,if_pos rfl]
  refine ⟨_,S3,e2,?_,q1,p3⟩
  rw [List.take_add_one,hy];simp
 ·rintro acc l' S' ⟨rfl,hl,hp⟩
  have e:ys.take (ys.map f).length=ys:=by rw [qlm,List.take_length]
  rw [e]
  exact ⟨by rw [qlm];exact hz,fin S' hp⟩
end
end L3
section
namespace G
open PySem PySem.Spec PyProof.Rows L2 L3
noncomputable abbrev bd:List Stmt:=PySem.Challenge.pw_opencells_k10_rooms_that_fit.main.body
noncomputable def zrx:SM:=zal (zao (zb6 (zcp (zaa 1)) [none,some 0,some 2] (zah 0) (zba) (eOp zai (eOp zai (eOp zai (zaa 1) (eC (.int 1))) (zaa 0)) (zaa 2))) (zah 3)) (za7 (zaf zdq (zac (zia (zcp (zaa 3)) [none,none] (zeb 2 (zco (zah 0) (zco (zah 1) (zea)))) (tE (eOp zes (zaa 0) (eC .non))) (zaa 0)) (zae))))
noncomputable def zha:FM:=zbp 4 zrx
noncomputable def zry:SM:=za7 (zd9 (eUn (zet "tuple") (zaa 0)) (eOp zh3 (zb6 (zcp (zaa 0)) [none] (zah 0) (zdl (zdb (tE (eUn (zet "int") (zaa 0)))) (tE (eUn (zet "bool") (zaa 0)))) (eC (.int 1))) (zaf zcn (zae))))
noncomputable def zih:FM:=zbp 1 zry
noncomputable def zrz:SM:=zal (zao (zaf zcn (zae)) (zah 3)) (zal (zcw (zbi (zac (zaf zb7 (zac (eOp zai (zaa 0) (eC (.int 1))) (zae))) (zae))) (zah 4) (sIf (tE (eOp (dIn false) (zaa 4) (zb6 (zcp (zaa 1)) [none,some 0,some 2] (zah 0) (zba) (eOp zai (eOp zai (eOp zai (eOp zai (zaa 1) (eC (.int 1))) (zaa 0)) (zaa 2)) (eC (.int 0)))))) (zdr (zb5 zct (zaa 3) (zac (zaa 4) zae))) (zbr))) (za7 (zaf zdq (zac (zaa 3) (zae)))))
noncomputable def zii:FM:=zbp 5 zrz
noncomputable def zr0:SM:=zal (zh1 (zjv (zac (zaa 1) (zae))) (zeb 2 (zco (zah 2) (zco (zah 3) (zea)))) (zcv (zcx (zaa 1) (zcs (eOp zbf (zaa 2) (eC (.int 1)))) (zc2)) (zah 4) (sIf (tE (eOp (ze0 false) (zaf zbo (zac (zaa 3) (zac (zaa 4) (zae)))) (zaa 0))) (za7 (zaf zbo (zac (zaa 3) (zac (zaa 4) (zae))))) (zbr)))) (za7 (eC .non))
noncomputable def zij:FM:=zbp 5 zr0
noncomputable def zr1:SM:=zal (zao (zaf zb7 (zac (eOp zai (zaa 0) (eC (.int 1))) (zae))) (zah 1)) (za7 (zjy (zed (zbi (zac (zaa 1) (zae)))) [none,none,some 1] (zah 0) (zba) (zgw (zac (eOp zbf (zaa 0) (eC (.int 1))) (zac (zaa 2) (zae)))) (zah 1) (zba) (zaf zbo (zac (zaa 0) (zac (zaa 1) (zae))))))
noncomputable def zdx:FM:=zbp 2 zr1
noncomputable def zr2:SM:=zal (zao (zaa 0) (zeb 2 (zco (zah 1) (zco (zah 2) (zea))))) (zal (zao (zmc) (zah 3)) (zal (zcv (zaf zdx (zac (zaa 0) (zae))) (zeb 2 (zco (zah 4) (zco (zah 5) (zea)))) (zcw (zbi (zac (zaa 1) (zae))) (zah 6) (zal (zao (zaf zbo (zac (eOp zai (eOp zai (eOp zai (zaa 2) (zaa 4)) (zaa 6)) (eC (.int 0))) (zac (eOp zai (eOp zai (eOp zai (zaa 2) (zaa 5)) (zaa 6)) (eC (.int 0))) (zae)))) (zah 7)) (sIf (tE (eOp (dIn true) (eC .non) (zaa 7))) (zal (zao (zaf zbo (zac (zaf zh8 (zac (zaa 7) (zae))) (zac (zaf zh9 (zac (zaa 7) (zae))) (zae)))) (zah 8)) (zdr (zb5 zct (zf7 (zaa 3) (zaa 8) (zaf zcn (zae))) (zac (zaf zbo (zac (zaa 4) (zac (zaa 5) (zae)))) zae)))) (zbr))))) (za7 (zaa 3))))
noncomputable def zik:FM:=zbp 9 zr2
noncomputable def zr3:SM:=za7 (zd9 (eOp zes (zaa 0) (eC .non)) (zd9 (eOp zes (zaa 1) (eC .non)) (eOp dNe (zaa 0) (zaa 1))))
noncomputable def zhb:FM:=zbp 2 zr3
noncomputable def zr4:SM:=za7 (zaf zhb (zac (eOp zai (zaa 0) (eC (.int 1))) (zac (eOp zai (zaa 1) (eC (.int 1))) (zae))))
noncomputable def zgg:FM:=zbp 2 zr4
noncomputable def zr5:SM:=zal (zao (zaa 0) (zeb 2 (zco (zah 1) (zco (zah 2) (zea))))) (za7 (zb6 (zcp (zaf zdx (zac (zaa 0) (zae)))) [none,none,some 1,some 2] (zeb 2 (zco (zah 0) (zco (zah 1) (zea)))) (tE (zaf zf1 (zac (zb6 (zed (zbi (zac (zaa 2) (zae)))) [none,some 3,some 0,some 1] (zah 0) (zba) (zaf zgg (zac (eOp zai (eOp zai (zaa 1) (zaa 2)) (zaa 0)) (zac (eOp zai (eOp zai (zaa 1) (zaa 3)) (zaa 0)) (zae))))) (zae)))) (zaf zbo (zac (zaa 0) (zac (zaa 1) (zae))))))
noncomputable def zil:FM:=zbp 3 zr5
noncomputable def zr6:SM:=zal (zao (zaf zil (zac (zaa 0) (zae))) (zah 1)) (zal (zao (zaf zik (zac (zaa 0) (zae))) (zah 2)) (zal (zao (zh7 (zcp (zaa 1)) [none] (zah 0) (zba) (zaa 0) (eC (.bl true))) (zah 3)) (zal (whl (tL (zaa 1)) (zal (zao (zb5 zfm (zaa 1) zae) (zah 4)) (zcv (zg2 (zaa 2) (zaa 4) (zaf zcn (zae))) (zah 5) (sIf (tE (eOp (ze0 true) (zaa 5) (zaa 3))) (zal (zao (eC (.bl true)) (zh6 (zaa 3) (zaa 5))) (zdr (zb5 zct (zaa 1) (zac (zaa 5) zae)))) (zbr)))) zfz) (za7 (zaa 3)))))
noncomputable def zim:FM:=zbp 6 zr6
noncomputable def zr7:SM:=za7 (eOp dIs (zaf zij (zac (zaf zim (zac (zaa 0) (zae))) (zac (zaf zg5 (zac (zaa 1) (zae))) (zae)))) (eC .non))
noncomputable def zek:FM:=zbp 2 zr7
noncomputable def zr8:SM:=zal (zao (eC (.bl true)) (zah 3)) (zal (zcv (zaa 2) (zah 4) (zcv (zaa 2) (zah 5) (zao (zd9 (zaa 3) (zho (eOp zai (eOp zai (zaa 1) (zaa 4)) (zaa 5)))) (zah 3)))) (zal (zao (zaf zek (zac (zaa 0) (zac (zaa 2) (zae)))) (zah 6)) (zal (sIf (zdl (zdb (tE (eUn (zet "bool") (zaa 6)))) (zdl (tE (eOp zc4 (zaa 6) (zaa 3))) (tE (eOp zc4 (zaf zek (zac (zaa 0) (zac (ze4 (zaa 2)) (zae)))) (zaa 3))))) (za7 (eC (.bl false))) (zbr)) (zal (sIf (zdl (tE (eOp zc4 (zaf zek (zac (zaa 0) (zac (eOp zbf (zaa 2) (zcx (zaa 2) (zc2) (zcs (eC (.int 1))))) (zae)))) (zaa 3))) (tE (eOp zc4 (zaf zek (zac (zaa 0) (zac (eOp zbf (zaa 2) (ze4 (zaa 2))) (zae)))) (zaa 3)))) (za7 (eC (.bl false))) (zbr)) (zal (zao (zaf zdq (zac (zaf zg6 (zac (zaa 2) (zae))) (zae))) (zah 7)) (zal (zcw (zbi (zac (eOp zai (zaa 0) (eC (.int 0))) (zae))) (zah 8) (zal (zao (zaf zha (zac (zaa 0) (zac (zaa 7) (zac (zaa 8) (zae))))) (zah 9)) (zal (sIf (zdl (zdb (tE (zaf zih (zac (zaa 9) (zae))))) (tE (eOp zc4 (zaa 9) (zaf zii (zac (zaa 0) (zac (zaa 7) (zac (zaa 8) (zae)))))))) (za7 (eC (.bl false))) (zbr)) (sIf (tE (eOp zc4 (zaf zha (zac (zaa 0) (zac (zaa 7) (zac (zaa 8) (zae))))) (zaa 9))) (za7 (eC (.bl false))) (zbr))))) (za7 (eC (.bl true)))))))))
noncomputable def zhc:FM:=zbp 10 zr8
noncomputable def zr9:SM:=zal (sIf (tE (eOp dGt (eOp zai (zaa 0) (eC (.int 2))) (eC (.int 0)))) (zal (zao (eOp zdc (eOp zai (zaa 0) (eC (.int 2))) (zaa 1)) (zah 2)) (zal (zao (eOp zi7 (eOp zai (zaa 0) (eC (.int 2))) (zaa 1)) (zdd (zaa 0) (eC (.int 2)))) (za7 (zaa 2)))) (zbr)) (zal (zao (eOp zai (zaa 0) (eC (.int 1))) (zah 3)) (zal (zao (eOp zbf (zaa 3) (eC (.int 1))) (zdd (zaa 0) (eC (.int 1)))) (zal (zao (eOp zbf (eOp zeh (eC (.int 7919)) (zaa 3)) (eC (.int 11))) (zah 4)) (zal (sIf (tE (eOp dGt (zaf zb7 (zac (eOp zai (zaa 0) (eC (.int 0))) (zae))) (eC (.int 0)))) (zao (eOp zai (eOp zai (zaa 0) (eC (.int 0))) (eOp zdc (zaa 3) (zaf zb7 (zac (eOp zai (zaa 0) (eC (.int 0))) (zae))))) (zah 4)) (zbr)) (zal (sIf (zcm (tE (eOp dLt (zaa 3) (zaf zb7 (zac (eOp zai (zaa 0) (eC (.int 0))) (zae))))) (tE (eOp dGe (zaf zfl (zac (zaa 4) (zae))) (eOp zlb (eC (.int 10)) (eC (.int 18)))))) (zal (zao (eOp zi7 (zaf zfl (zac (zaa 4) (zae))) (zaa 1)) (zdd (zaa 0) (eC (.int 2)))) (za7 (eOp zdc (zaf zfl (zac (zaa 4) (zae))) (zaa 1)))) (zbr)) (zal (zao (eOp zai (zaf zbo (zac (eC (.int 2147483647)) (zac (eC (.int 2147483629)) (zac (eC (.int 2147483587)) (zac (eC (.int 2147483579)) (zac (eC (.int 2147483563)) (zae))))))) (eOp zdc (zaa 3) (eC (.int 5)))) (zah 5)) (zal (zao (eOp zdc (eOp zeh (eOp zbf (eOp zdc (zaa 4) (eC (.int 2147483549))) (eC (.int 1))) (eOp zbf (eOp zeh (zaa 3) (zaa 3)) (eC (.int 48271)))) (zaa 5)) (zah 6)) (zal (zao (eOp zdc (eOp zbf (eOp zbf (eOp zlb (zaa 6) (eC (.int 3))) (eOp zeh (eC (.int 69621)) (zaa 3))) (eC (.int 3))) (eC (.int 2147483543))) (zah 6)) (za7 (eOp zdc (eOp zi7 (eOp zdc (eOp zeh (zaa 6) (eOp zbf (eOp zbf (eOp zdc (zaa 6) (eC (.int 65521))) (zaa 3)) (eC (.int 5)))) (eC (.int 2147483497))) (eC (.int 64))) (zaa 1)))))))))))
noncomputable def zbn:FM:=zbp 7 zr9
noncomputable def zsa:SM:=zal (zao (zly (zbi (zac (zaa 1) (zae)))) (zah 2)) (za7 (zb6 (zed (zbi (zac (zaa 1) (zae)))) [none,some 2,some 0] (zah 0) (zba) (zb5 zf0 (zaa 1) (zac (zaf zbn (zac (zaa 2) (zac (zaf zb7 (zac (zaa 1) (zae))) (zae)))) zae))))
noncomputable def zin:FM:=zbp 3 zsa
noncomputable def zsb:SM:=zal (zao (zaf zbn (zac (zaa 0) (zac (eC (.int 4)) (zae)))) (zah 2)) (zal (zao (zaf zin (zac (zaa 0) (zac (zaf zb7 (zac (zaa 1) (zae))) (zae)))) (zah 3)) (zal (sIf (tE (eOp dEq (zaa 2) (eC (.int 0)))) (za7 (zaf zdq (zac (zcx (zaa 3) (zc2) (zcs (zaf zbn (zac (zaa 0) (zac (eOp zbf (zaf zb7 (zac (zaa 1) (zae))) (eC (.int 1))) (zae)))))) (zae)))) (zbr)) (zal (zao (zaf zcn (zae)) (zah 4)) (zal (zcv (zaa 3) (zah 5) (sIf (zdb (tE (zaf zf1 (zac (zb6 (zcp (zaa 4)) [none,some 1,some 5] (zah 0) (zba) (eOp zai (eOp zai (zaa 1) (zaa 2)) (zaa 0))) (zae))))) (zdr (zb5 zct (zaa 4) (zac (zaa 5) zae))) (zbr))) (zal (zao (zcx (zaa 4) (zc2) (zcs (eOp zbf (eC (.int 1)) (zaf zbn (zac (zaa 0) (zac (zaf zb7 (zac (zaa 4) (zae))) (zae))))))) (zah 4)) (zal (zao (zaf zbn (zac (zaa 0) (zac (zaf zb7 (zac (zaa 1) (zae))) (zae)))) (zah 6)) (zal (sIf (zcm (tE (eOp dEq (zaa 2) (eC (.int 1)))) (tE (eOp (dIn true) (zaa 6) (zaa 4)))) (zdr (zb5 zf3 (zaa 4) (zac (zaf zbn (zac (zaa 0) (zac (eOp zbf (zaf zb7 (zac (zaa 4) (zae))) (eC (.int 1))) (zae)))) (zac (zaa 6) zae)))) (zbr)) (za7 (zaf zdq (zac (zaa 4) (zae)))))))))))
noncomputable def zio:FM:=zbp 7 zsb
noncomputable def zsc:SM:=zal (zh1 (zjz (zac (zaa 0) (zac (zaa 1) (zae)))) (zeb 2 (zco (zah 3) (zco (zah 4) (zea)))) (zal (sIf (zcm (tE (eOp (dIn true) (eC .non) (zaf zbo (zac (eOp zai (zaa 3) (eC (.int 1))) (zac (eOp zai (zaa 4) (eC (.int 1))) (zae)))))) (tE (eOp dNe (eOp zai (zaa 3) (eC (.int 1))) (eOp zai (zaa 4) (eC (.int 1)))))) (za7 (eC (.bl true))) (zbr)) (sIf (zcm (tE (eOp (dIn true) (eC .non) (zaf zbo (zac (eOp zai (zaa 3) (eC (.int 0))) (zac (eOp zai (zaa 4) (eC (.int 0))) (zae)))))) (tE (eOp zai (eOp zai (zaa 2) (eOp zai (zaa 3) (eC (.int 0)))) (eOp zai (zaa 4) (eC (.int 0)))))) (za7 (eC (.bl true))) (zbr)))) (za7 (eC (.bl false)))
noncomputable def zgh:FM:=zbp 5 zsc
noncomputable def zsd:SM:=zal (zao (eOp zai (zaa 0) (eC (.int 1))) (zah 1)) (zal (zao (zb6 (zcp (zaa 1)) [none,some 1] (zah 0) (zba) (zb6 (zcp (zaa 1)) [none] (zah 0) (zba) (eC (.bl false)))) (zah 2)) (zal (zao (eC (.bl true)) (zah 3)) (zal (whl (tE (zaa 3)) (zal (zao (eC (.bl false)) (zah 3)) (zcw (zbi (zac (zaf zb7 (zac (zaa 1) (zae))) (zae))) (zah 4) (zcw (zbi (zac (zaa 4) (zae))) (zah 5) (sIf (zcm (zdb (tE (eOp zai (eOp zai (zaa 2) (zaa 4)) (zaa 5)))) (tE (zaf zgh (zac (eOp zai (zaa 1) (zaa 4)) (zac (eOp zai (zaa 1) (zaa 5)) (zac (zaa 2) (zae))))))) (zal (zao (eC (.bl true)) (zdd (eOp zai (zaa 2) (zaa 4)) (zaa 5))) (zal (zao (eC (.bl true)) (zdd (eOp zai (zaa 2) (zaa 5)) (zaa 4))) (zao (eC (.bl true)) (zah 3)))) (zbr))))) zfz) (za7 (zaa 2)))))
noncomputable def ziq:FM:=zbp 6 zsd
noncomputable def zse:SM:=zal (zao (eC .non) (zah 5)) (zal (zao (eC .non) (zah 6)) (zal (sIf (tE (eOp dGe (zaf zbn (zac (zaa 0) (zac (eC (.int 8)) (zae)))) (zaa 1))) (zao (zaf zbn (zac (zaa 0) (zac (zaa 4) (zae)))) (zah 5)) (zbr)) (zal (sIf (tE (eOp dGe (zaf zbn (zac (zaa 0) (zac (eC (.int 8)) (zae)))) (zaa 1))) (zao (eOp zdc (eOp zbf (zaf zbn (zac (zaa 0) (zac (zaa 2) (zae)))) (zaa 3)) (eC (.int 8))) (zah 6)) (zbr)) (za7 (zaf zbo (zac (zaa 5) (zac (zaa 6) (zae))))))))
noncomputable def zir:FM:=zbp 7 zse
noncomputable def zsf:SM:=zal (zao (eOp zai (zaf zbo (zac (eC (.int 0)) (zac (eC (.int 1)) (zac (eC (.int 3)) (zac (eC (.int 6)) (zae)))))) (zaf zbn (zac (zaa 0) (zac (eC (.int 4)) (zae))))) (zah 3)) (zal (zao (eOp zai (zaf zbo (zac (eC (.int 1)) (zac (eC (.int 2)) (zac (eC (.int 2)) (zac (eC (.int 8)) (zae)))))) (zaf zbn (zac (zaa 0) (zac (eC (.int 4)) (zae))))) (zah 4)) (zal (zao (eOp dEq (zaf zbn (zac (zaa 0) (zac (eC (.int 3)) (zae)))) (eC (.int 0))) (zah 5)) (zal (zao (zaf zbn (zac (zaa 0) (zac (eC (.int 8)) (zae)))) (zah 6)) (zal (zao (zaf zcn (zae)) (zah 7)) (zal (zcw (zbi (zac (zaa 2) (zae))) (zah 8) (sIf (zcm (tE (zaa 5)) (zcm (tE (eOp dGt (zaa 8) (eC (.int 0)))) (tE (eOp dEq (zaf zbn (zac (zaa 0) (zac (eC (.int 2)) (zae)))) (eC (.int 0)))))) (zal (zao (eOp zai (zaa 7) (zaf zbn (zac (zaa 0) (zac (zaa 8) (zae))))) (zah 9)) (zal (zao (zaf zbn (zac (zaa 0) (zac (zaa 1) (zae)))) (zah 10)) (zdr (zb5 zct (zaa 7) (zac (eOp zbf (eOp zbf (zcx (zaa 9) (zc2) (zcs (zaa 10))) (zaf zbo (zac (zaf zbo (zac (eOp zai (eOp zai (zaa 9) (zaa 10)) (eC (.int 0))) (zac (eC .non) (zae)))) (zae)))) (zcx (zaa 9) (zcs (eOp zbf (zaa 10) (eC (.int 1)))) (zc2))) zae))))) (zdr (zb5 zct (zaa 7) (zac (zaf zdq (zac (zb6 (zed (zbi (zac (zaa 1) (zae)))) [none,some 0,some 3,some 4,some 6,some 2] (zah 0) (zba) (zaf zir (zac (zaa 1) (zac (zaa 2) (zac (zaa 3) (zac (zaa 4) (zac (zaa 5) (zae)))))))) (zae))) zae))))) (za7 (zaf zbo (zac (zaa 1) (zac (zaf zdq (zac (zaa 7) (zae))) (zae))))))))))
noncomputable def zis:FM:=zbp 11 zsf
noncomputable def zsg:SM:=za7 (zaf zcn (zac (zcx (zaa 0) (zc2) (zcs (eC (.int 63)))) (zac (eC (.int 0)) (zac (eC (.int 0)) (zae)))))
noncomputable def zkb:FM:=zbp 1 zsg
noncomputable def zsh:SM:=zal (zao (zaf zkb (zac (zaa 0) (zae))) (zah 1)) (zal (zcw (zbi (zac (eC (.int 2)) (zae))) (zah 2) (zal (zao (eOp zbf (eC (.int 1)) (zaf zbn (zac (zaa 1) (zac (eC (.int 4)) (zae))))) (zah 3)) (zal (zao (eOp zbf (eC (.int 1)) (zaf zbn (zac (zaa 1) (zac (eOp zai (zaf zcn (zac (eC (.int 8)) (zac (eC (.int 8)) (zac (eC (.int 14)) (zac (eC (.int 24)) (zae)))))) (zaf zbn (zac (zaa 1) (zac (eC (.int 4)) (zae))))) (zae))))) (zah 4)) (zal (zao (zaf zis (zac (zaa 1) (zac (zaa 3) (zac (zaa 4) (zae))))) (zah 5)) (zal (zao (zaf ziq (zac (zaa 5) (zae))) (zah 6)) (zal (zao (zaf zez (zac (zaa 5) (zae))) (zah 7)) (zal (zcw (zbi (zac (eC (.int 10)) (zae))) (zah 8) (sIf (zdb (tE (zaf zhc (zac (zaa 5) (zac (zaa 6) (zac (zaf zio (zac (zaa 1) (zac (zaa 6) (zae)))) (zae))))))) (za7 (eC (.bl false))) (zbr))) (sIf (zdl (zdb (tE (zaf zhc (zac (zaa 5) (zac (zaa 6) (zac (zaf zbo (zae)) (zae))))))) (tE (eOp dNe (zaf zez (zac (zaa 5) (zae))) (zaa 7)))) (za7 (eC (.bl false))) (zbr))))))))) (za7 (eC (.bl true))))
noncomputable def ze7:FM:=zbp 9 zsh
theorem bl0 {C:List PySem.Value->Prop}(h:C []):∀us:List PySem.Value,us.length=0->C us:=by
 intro us hl
 rw [List.eq_nil_of_length_eq_zero hl];exact h
theorem blS {n:Nat}{C:List PySem.Value->Prop}(h:∀a (us:List PySem.Value),us.length=n->C (a :: us)):∀us:List PySem.Value,us.length=n+1->C us:=by
 intro us hl
 cases us with
 | nil=>cases hl
 | cons a us=>exact h a us (Nat.succ.inj hl)
theorem bl1 {C:List PySem.Value->Prop}(h:∀a0,C [a0]):∀us:List PySem.Value,us.length=1->C us:=blS λa0=>bl0 (C:=λus=>C (a0 :: us)) (h a0)
theorem bl2 {C:List PySem.Value->Prop}(h:∀a0 a1,C [a0,a1]):∀us:List PySem.Value,us.length=2->C us:=blS λa0=>blS λa1=>bl0 (C:=λus=>C (a0 :: a1 :: us)) (h a0 a1)
theorem bl3 {C:List PySem.Value->Prop}(h:∀a0 a1 a2,C [a0,a1,a2]):∀us:List PySem.Value,us.length=3->C us:=blS λa0=>blS λa1=>blS λa2=>bl0 (C:=λus=>C (a0 :: a1 :: a2 :: us)) (h a0 a1 a2)
theorem bl5 {C:List PySem.Value->Prop}(h:∀a0 a1 a2 a3 a4,C [a0,a1,a2,a3,a4]):∀us:List PySem.Value,us.length=5->C us:=blS λa0=>blS λa1=>blS λa2=>blS λa3=>blS λa4=>bl0 (C:=λus=>C (a0 :: a1 :: a2 :: a3 :: a4 :: us)) (h a0 a1 a2 a3 a4)
inductive FI (K:QFg) (x:Str) (st:Stmt):Prop
 | mk {f:Addr} {oc kV dc pm cd ct:Value} {od an:Option Addr} {sl:Array (Option Value)} (a:PySem.W.nsIn K mainGlobals x=some (some (.ref f))) (l:K.lookup f=some ⟨oc,od,.func (PySem.W.fnOf x x (zgq st) (zd8 st) (zax st) .none kV dc pm an cd ct),sl⟩) (c:PySem.W.codeIn K cd x=true) (k:PySem.W.keepIn K (.ref f)=true)
inductive FJ (K:QFg) (mg:Str->Option Value) (x:Str) (st:Stmt):Prop
 | mk {f:Addr} {fd:FuncData} (F:Fun K x x st f fd) (m:mg x=some (.ref f)) (n:Fnc K mg x)
theorem FI.ok {K:QFg}{x:Str}{st:Stmt}{h:Heap}{mg:Str->Option Value}(i:FI K x st) (X:K.In h) (G:h.Ns mainGlobals mg):FJ K mg x st:=by
 obtain ⟨a,l,c,k⟩:=i
 exact ⟨zx2 l c k,PySem.W.mg_of X G a,_,_,a,l,PySem.W.mg_of X G a⟩
section
variable {P:Program}{w:World}{K:QFg}{mg:Str->Option Value}{base:Heap}{CA:Str->Addr}
theorem zb9 {x:Str}{st:Stmt}{N ps:List Str}{n k:Nat}{b:SM}(F:FJ K mg x st) (S:FnScope N ps (zax st)) (hn:ps.length=n)
  (hb:∀us:List Value,us.length=ps.length->∀(kV doc pm:Value) (an:Option Addr) (cdv ct:Value),bindArgs (PySem.W.fnOf x x (zgq st) (zd8 st) (zax st) .none kV doc pm an cdv ct) ⟨us,[]⟩=pure (ps.zip us))
  (hbody:∀(f:Addr) (cdv:Value),PySem.W.codeIn K cdv x=true->∀(A:Around) (outer:List Env) (s:Shared) (H:Hp) (E:XK),Room k (A.deeper (envOfC x (zax st) s.heap.objs.size f cdv)) ->
   zc0 (zen CX0 P w K mg base N x (zax st) f cdv A outer s H E).nox (zd8 st) b):Has P w K mg base x (k+1) n (zbp N.length b):=by
 obtain ⟨F,m,_⟩:=F
 exact zzj F m S hn (F.binds λ_ _ _ _ _ _ us hl=>hb us hl _ _ _ _ _ _) (hbody _)
theorem yek:FnScope ["machine","rooms","ask","cells"] ["machine","rooms","ask"] (zax (top bd 10)):=⟨rfl,rfl,rfl,by decide +kernel,rfl,by decide +kernel,by decide +kernel⟩
theorem yel:List.Nodup (["room","machine","ask"]:List Str):=by decide +kernel
theorem zsi:List.Nodup (["goes","says"]:List Str):=by decide +kernel
noncomputable abbrev zsj:List Str:=["machine","rooms","ask","cells"]
theorem h_m_followers (F:FJ K mg "followers" (top bd 10)) (z_tuple:mg "tuple" = none) (z_sorted:mg "sorted" = none):Has P w K mg base "followers" 1 3 zha:=by
 have sc:=yek
 refine zb9 (k:=0) F sc rfl (bl3 λ_ _ _=>λ_ _ _ _ _ _=>rfl) λf cdv hcd A outer s H E hr=>?_
 exact zan (zqf 3 sc.nd (N':=["room","machine","ask"]) (ixs:=[none,some 0,some 2]) rfl (ze3 (scO:=zax (top bd 10)) (NO:=zsj) rfl rfl (by decide +kernel)) (zee (zab 1)) (λ_ _ _ _ _=>za4 0 yel) (λ_ _ _ _ _=>zdt) (λ_ _ _ _ _=>zas (zas (zas (zab 1) (zaj)) (zab 0)) (zab 2))) (zar (zbb (zfs rfl z_tuple (zad (ydz (N':=["goes","says"]) (ixs:=[none,none]) rfl z_sorted rfl (zjd (scO:=zax (top bd 10)) (NO:=zsj) rfl rfl (by decide +kernel)) (zee (zab 3)) (λ_ _ _ _ _=>zfp rfl (zcu (za4 0 zsi) (zcu (za4 1 zsi) (zfo)))) (λ_ _ _ _ _=>zlm (zyq (zab 0) (zdm))) (λ_ _ _ _ _=>zab 0)) (zag)))))
theorem yem:FnScope ["_law_found"] ["_law_found"] (zax (top bd 21)):=⟨rfl,rfl,rfl,by decide +kernel,rfl,by decide +kernel,by decide +kernel⟩
theorem yen:List.Nodup (["_law_one"]:List Str):=by decide +kernel
noncomputable abbrev yeo:List Str:=["_law_found"]
theorem h_m_law_wholes (F:FJ K mg "_law_wholes" (top bd 21)) (z_isinstance:mg "isinstance" = none) (z_tuple:mg "tuple" = none) (z_int:mg "int" = none) (z_bool:mg "bool" = none):Has P w K mg base "_law_wholes" 1 1 zih:=by
 have sc:=yem
 refine zb9 (k:=0) F sc rfl (bl1 λ_=>λ_ _ _ _ _ _=>rfl) λf cdv hcd A outer s H E hr=>?_
 exact zar (zbb (zi6 (zi8 (U:="tuple") rfl z_isinstance rfl z_tuple zpb (by decide) (zab 0)) (zk7 (ya3 hr (ze2 (N':=["_law_one"]) (ixs:=[none]) rfl (ze3 (scO:=zax (top bd 21)) (NO:=yeo) rfl rfl (by decide +kernel)) (zee (zab 0)) (λ_ _ _ _ _=>za4 0 yen) (λ_ _ _ _ _=>zlm (zdo (zgt (zfg (zc1 (zi8 (U:="int") rfl z_isinstance rfl z_int zzf (by decide) (zab 0)))) (zhr (zc1 (zi8 (U:="bool") rfl z_isinstance rfl z_bool zpc (by decide) (zab 0))))))) (λ_ _ _ _ _=>zaj)) (zeq (zag))))))
theorem yep:FnScope ["_law_machine_here","_law_rooms","_law_ask","_law_found","_law_room"] ["_law_machine_here","_law_rooms","_law_ask"] (zax (top bd 18)):=⟨rfl,rfl,rfl,by decide +kernel,rfl,by decide +kernel,by decide +kernel⟩
theorem yeq:List.Nodup (["_law_one","_law_machine_here","_law_ask"]:List Str):=by decide +kernel
noncomputable abbrev yer:List Str:=["_law_machine_here","_law_rooms","_law_ask","_law_found","_law_room"]
theorem h_m_law_followers (F:FJ K mg "_law_followers" (top bd 18)) (z_tuple:mg "tuple" = none) (z_range:mg "range" = none) (z_len:mg "len" = none):Has P w K mg base "_law_followers" 1 3 zii:=by
 have sc:=yep
 refine zb9 (k:=0) F sc rfl (bl3 λ_ _ _=>λ_ _ _ _ _ _=>rfl) λf cdv hcd A outer s H E hr=>?_
 exact zan (zay 3 sc.nd (zeq (zag))) (zan (zeu PassesOwn.never rfl rfl z_range (zad (zdh rfl z_len (zad (zas (zab 0) (zaj)) (zag))) (zag)) (za4 4 sc.nd) (zar (zbz (zz2 (zab 4) (ze2 (N':=["_law_one","_law_machine_here","_law_ask"]) (ixs:=[none,some 0,some 2]) rfl (ze3 (scO:=zax (top bd 18)) (NO:=yer) rfl rfl (by decide +kernel)) (zee (zab 1)) (λ_ _ _ _ _=>za4 0 yeq) (λ_ _ _ _ _=>zdt) (λ_ _ _ _ _=>zas (zas (zas (zas (zab 1) (zaj)) (zab 0)) (zab 2)) (zaj)))) (zar (zfn (zgv (zab 3) (zab 4)))) (zb2)))) (zar (zbb (zfs rfl z_tuple (zad (zab 3) (zag))))))
theorem yet:FnScope ["pairs","lot","at","one","other"] ["pairs","lot"] (zax (top bd 8)):=⟨rfl,rfl,rfl,by decide +kernel,rfl,by decide +kernel,by decide +kernel⟩
theorem h_m_first_parted (F:FJ K mg "first_parted" (top bd 8)) (z_enumerate:mg "enumerate" = none):Has P w K mg base "first_parted" 1 2 zij:=by
 have sc:=yet
 refine zb9 (k:=0) F sc rfl (bl2 λ_ _=>λ_ _ _ _ _ _=>rfl) λf cdv hcd A outer s H E hr=>?_
 exact zan (zp7 PassesOwn.never rfl (ya0 rfl z_enumerate (zad (zab 1) (zag))) (zfp rfl (zcu (za4 2 sc.nd) (zcu (za4 3 sc.nd) (zfo)))) (zar (zgx PassesOwn.never rfl (zf2 (zab 1) (zfk (zb3 (zab 2) (zaj))) (zfj)) (za4 4 sc.nd) (zar (zbz (ybc hr (zci (zad (zab 3) (zad (zab 4) (zag)))) (zab 0)) (zar (zbb (zci (zad (zab 3) (zad (zab 4) (zag)))))) (zb2)))))) (zar (zbb (zdm)))
theorem yeu:FnScope ["machine","many"] ["machine"] (zax (top bd 4)):=⟨rfl,rfl,rfl,by decide +kernel,rfl,by decide +kernel,by decide +kernel⟩
theorem zsk:List.Nodup (["one","other","many"]:List Str):=by decide +kernel
noncomputable abbrev yev:List Str:=["machine","many"]
theorem h_m_all_pairs (F:FJ K mg "all_pairs" (top bd 4)) (z_range:mg "range" = none) (z_len:mg "len" = none):Has P w K mg base "all_pairs" 1 1 zdx:=by
 have sc:=yeu
 refine zb9 (k:=0) F sc rfl (bl1 λ_=>λ_ _ _ _ _ _=>rfl) λf cdv hcd A outer s H E hr=>?_
 exact zan (zay 1 sc.nd (zdh rfl z_len (zad (zas (zab 0) (zaj)) (zag)))) (zar (zbb (ycd (N':=["one","other","many"]) (ixs:=[none,none,some 1]) rfl (zjd (scO:=zax (top bd 4)) (NO:=yev) rfl rfl (by decide +kernel)) (zjb rfl z_range (zad (zab 1) (zag))) (λ_ _ _ _ _=>za4 0 zsk) (λ_ _ _ _ _=>zdt) (λ_ _ _ _ _=>ycb rfl z_range (zad (zb3 (zab 0) (zaj)) (zad (zab 2) (zag)))) (λ_ _ _ _ _=>za4 1 zsk) (λ_ _ _ _ _=>zdt) (λ_ _ _ _ _=>zci (zad (zab 0) (zad (zab 1) (zag)))))))
theorem yew:FnScope ["machine","asks","rooms","sources","one","other","ask","behind","pair"] ["machine"] (zax (top bd 6)):=⟨rfl,rfl,rfl,by decide +kernel,rfl,by decide +kernel,by decide +kernel⟩
theorem h_m_pairs_ahead (F:FJ K mg "pairs_ahead" (top bd 6)) (z_max:mg "max" = none) (z_min:mg "min" = none) (z_range:mg "range" = none) (h_m_all_pairs:Has P w K mg base "all_pairs" 1 1 zdx):Has P w K mg base "pairs_ahead" 2 1 zik:=by
 have sc:=yew
 refine zb9 (k:=1) F sc rfl (bl1 λ_=>λ_ _ _ _ _ _=>rfl) λf cdv hcd A outer s H E hr=>?_
 exact zan (zfq (zab 0) (zfp rfl (zcu (za4 1 sc.nd) (zcu (za4 2 sc.nd) (zfo))))) (zan (zay 3 sc.nd (ybf)) (zan (zgx PassesOwn.never rfl (za1 h_m_all_pairs hr (by decide) rfl (zad (zab 0) (zag)) (zak za0)) (zfp rfl (zcu (za4 4 sc.nd) (zcu (za4 5 sc.nd) (zfo)))) (zar (zeu PassesOwn.never rfl rfl z_range (zad (zab 1) (zag)) (za4 6 sc.nd) (zan (zay 7 sc.nd (zci (zad (zas (zas (zas (zab 2) (zab 4)) (zab 6)) (zaj)) (zad (zas (zas (zas (zab 2) (zab 5)) (zab 6)) (zaj)) (zag))))) (zar (zbz (zjo (zdm) (zab 7)) (zan (zay 8 sc.nd (zci (zad (yby rfl rfl z_min (zad (zab 7) (zag))) (zad (ybz rfl rfl z_max (zad (zab 7) (zag))) (zag))))) (zar (zfn (zgv (yb3 hr (zab 3) (zab 8) (zeq (zag))) (zci (zad (zab 4) (zad (zab 5) (zag)))))))) (zb2))))))) (zar (zbb (zab 3)))))
theorem yex:FnScope ["one","other"] ["one","other"] (zax (top bd 1)):=⟨rfl,rfl,rfl,by decide +kernel,rfl,by decide +kernel,by decide +kernel⟩
theorem h_m_answers_unlike (F:FJ K mg "answers_unlike" (top bd 1)):Has P w K mg base "answers_unlike" 1 2 zhb:=by
 have sc:=yex
 refine zb9 (k:=0) F sc rfl (bl2 λ_ _=>λ_ _ _ _ _ _=>rfl) λf cdv hcd A outer s H E hr=>?_
 exact zar (zbb (zi6 (zo2 (zab 0) (zdm)) (zi6 (zo2 (zab 1) (zdm)) (zk7 (zyo (zab 0) (zab 1))))))
theorem yey:FnScope ["cell","beside"] ["cell","beside"] (zax (top bd 2)):=⟨rfl,rfl,rfl,by decide +kernel,rfl,by decide +kernel,by decide +kernel⟩
theorem h_m_say_unlike (F:FJ K mg "say_unlike" (top bd 2)) (h_m_answers_unlike:Has P w K mg base "answers_unlike" 1 2 zhb):Has P w K mg base "say_unlike" 2 2 zgg:=by
 have sc:=yey
 refine zb9 (k:=1) F sc rfl (bl2 λ_ _=>λ_ _ _ _ _ _=>rfl) λf cdv hcd A outer s H E hr=>?_
 exact zar (zbb (za1 h_m_answers_unlike hr (by decide) rfl (zad (zas (zab 0) (zaj)) (zad (zas (zab 1) (zaj)) (zag))) (zak (zak za0))))
theorem yez:FnScope ["machine","asks","rooms"] ["machine"] (zax (top bd 5)):=⟨rfl,rfl,rfl,by decide +kernel,rfl,by decide +kernel,by decide +kernel⟩
theorem zsl:List.Nodup (["one","other","asks","rooms"]:List Str):=by decide +kernel
theorem ye0:List.Nodup (["ask","rooms","one","other"]:List Str):=by decide +kernel
noncomputable abbrev ye1:List Str:=["machine","asks","rooms"]
theorem h_m_pairs_at_once (F:FJ K mg "pairs_at_once" (top bd 5)) (z_any:mg "any" = none) (z_range:mg "range" = none) (h_m_all_pairs:Has P w K mg base "all_pairs" 1 1 zdx) (h_m_say_unlike:Has P w K mg base "say_unlike" 2 2 zgg):Has P w K mg base "pairs_at_once" 3 1 zil:=by
 have sc:=yez
 refine zb9 (k:=2) F sc rfl (bl1 λ_=>λ_ _ _ _ _ _=>rfl) λf cdv hcd A outer s H E hr=>?_
 exact zan (zfq (zab 0) (zfp rfl (zcu (za4 1 sc.nd) (zcu (za4 2 sc.nd) (zfo))))) (zar (zbb (ze2 (N':=["one","other","asks","rooms"]) (ixs:=[none,none,some 1,some 2]) rfl (ze3 (scO:=zax (top bd 5)) (NO:=ye1) rfl rfl (by decide +kernel)) (zee (za1 h_m_all_pairs hr (by decide) rfl (zad (zab 0) (zag)) (zak za0))) (λ_ _ _ _ _=>zfp rfl (zcu (za4 0 zsl) (zcu (za4 1 zsl) (zfo)))) (λ_ _ _ _ _=>zlm (zc1 (zpv rfl rfl z_any (zad (ze2 (N':=["ask","rooms","one","other"]) (ixs:=[none,some 3,some 0,some 1]) rfl (CompSc.toSd (zqh (scO:=zax (top bd 5)) rfl (by decide +kernel))) (zjb rfl z_range (zad (zab 2) (zag))) (λ_ _ _ _ _=>za4 0 ye0) (λ_ _ _ _ _=>zdt) (λ_ _ _ _ _=>za1 h_m_say_unlike hr (by decide) rfl (zad (zas (zas (zab 1) (zab 2)) (zab 0)) (zad (zas (zas (zab 1) (zab 3)) (zab 0)) (zag))) (zak (zak za0)))) (zag))))) (λ_ _ _ _ _=>zci (zad (zab 0) (zad (zab 1) (zag)))))))
theorem ye2:FnScope ["machine","waiting","sources","found","pair","source"] ["machine"] (zax (top bd 3)):=⟨rfl,rfl,rfl,by decide +kernel,rfl,by decide +kernel,by decide +kernel⟩
theorem ye3:List.Nodup (["pair"]:List Str):=by decide +kernel
noncomputable abbrev ye4:List Str:=["machine","waiting","sources","found","pair","source"]
theorem h_m_parted_pairs (F:FJ K mg "parted_pairs" (top bd 3)) (h_m_pairs_ahead:Has P w K mg base "pairs_ahead" 2 1 zik) (h_m_pairs_at_once:Has P w K mg base "pairs_at_once" 3 1 zil):Has P w K mg base "parted_pairs" 4 1 zim:=by
 have sc:=ye2
 refine zb9 (k:=3) F sc rfl (bl1 λ_=>λ_ _ _ _ _ _=>rfl) λf cdv hcd A outer s H E hr=>?_
 exact zan (zay 1 sc.nd (za1 h_m_pairs_at_once hr (by decide) rfl (zad (zab 0) (zag)) (zak za0))) (zan (zay 2 sc.nd (za1 h_m_pairs_ahead hr (by decide) rfl (zad (zab 0) (zag)) (zak za0))) (zan (ybp 3 sc.nd hr (N':=["pair"]) (ixs:=[none]) rfl (zjd (scO:=zax (top bd 3)) (NO:=ye4) rfl rfl (by decide +kernel)) (ybo (zee (zab 1))) (λ_ _ _ _ _=>za4 0 ye3) (λ_ _ _ _ _=>zdt) (λ_ _ _ _ _=>zab 0) (λ_ _ _ _ _=>zb4)) (zan (zpl zfz PassesOwn.never (ybr (zab 1)) (zan (zay 4 sc.nd (zy3 (zab 1))) (zar (zgx PassesOwn.never rfl (ybe hr (zab 2) (zab 4) (zeq (zag))) (za4 5 sc.nd) (zar (zbz (ybd hr (zab 5) (zab 3)) (zan (ybh hr (zab 3) (zab 5) (zb4)) (zar (zfn (zgv (zab 1) (zab 5))))) (zb2))))))) (zar (zbb (zab 3))))))
theorem ye5:FnScope ["machine","rooms"] ["machine","rooms"] (zax (top bd 9)):=⟨rfl,rfl,rfl,by decide +kernel,rfl,by decide +kernel,by decide +kernel⟩
theorem h_m_fits (F:FJ K mg "fits" (top bd 9)) (z_sorted:mg "sorted" = none) (z_set:mg "set" = none) (h_m_first_parted:Has P w K mg base "first_parted" 1 2 zij) (h_m_parted_pairs:Has P w K mg base "parted_pairs" 4 1 zim):Has P w K mg base "fits" 5 2 zek:=by
 have sc:=ye5
 refine zb9 (k:=4) F sc rfl (bl2 λ_ _=>λ_ _ _ _ _ _=>rfl) λf cdv hcd A outer s H E hr=>?_
 exact zar (zbb (zyp (za1 h_m_first_parted hr (by decide) rfl (zad (za1 h_m_parted_pairs hr (by decide) rfl (zad (zab 0) (zag)) (zak za0)) (zad (yd6 rfl rfl z_sorted rfl z_set (zad (zab 1) (zag))) (zag))) (zak (zak za0))) (zdm)))
theorem ye6:FnScope ["_law_machine_here","_law_table_here","_law_rooms","_law_due","_law_one","_law_other","_law_found","_law_rising","_law_ask","_law_told"] ["_law_machine_here","_law_table_here","_law_rooms"] (zax (top bd 22)):=⟨rfl,rfl,rfl,by decide +kernel,rfl,by decide +kernel,by decide +kernel⟩
theorem h_m_law_right (F:FJ K mg "_law_right" (top bd 22)) (z_range:mg "range" = none) (z_tuple:mg "tuple" = none) (z_sorted:mg "sorted" = none) (z_isinstance:mg "isinstance" = none) (z_bool:mg "bool" = none) (h_m_followers:Has P w K mg base "followers" 1 3 zha) (h_m_law_wholes:Has P w K mg base "_law_wholes" 1 1 zih) (h_m_law_followers:Has P w K mg base "_law_followers" 1 3 zii) (h_m_fits:Has P w K mg base "fits" 5 2 zek):Has P w K mg base "_law_right" 6 3 zhc:=by
 have sc:=ye6
 refine zb9 (k:=5) F sc rfl (bl3 λ_ _ _=>λ_ _ _ _ _ _=>rfl) λf cdv hcd A outer s H E hr=>?_
 exact zan (zay 3 sc.nd (zb4)) (zan (zgx PassesOwn.never rfl (zab 2) (za4 4 sc.nd) (zar (zgx PassesOwn.never rfl (zab 2) (za4 5 sc.nd) (zar (zay 3 sc.nd (zi6 (zab 3) (zk7 (zyj (zas (zas (zab 1) (zab 4)) (zab 5)))))))))) (zan (zay 6 sc.nd (za1 h_m_fits hr (by decide) rfl (zad (zab 0) (zad (zab 2) (zag))) (zak (zak za0)))) (zan (zbz (zdo (zgt (zfg (zc1 (zi8 (U:="bool") rfl z_isinstance rfl z_bool zpc (by decide) (zab 6)))) (zgt (zgy hr (zab 6) (zab 3)) (zhr (zgy hr (za1 h_m_fits hr (by decide) rfl (zad (zab 0) (zad (zq8 (zab 2)) (zag))) (zak (zak za0))) (zab 3)))))) (zar (zbb (zb4))) (zb2)) (zan (zbz (zdo (zgt (zgy hr (za1 h_m_fits hr (by decide) rfl (zad (zab 0) (zad (zb3 (zab 2) (zf2 (zab 2) (zfj) (zfk (zaj)))) (zag))) (zak (zak za0))) (zab 3)) (zhr (zgy hr (za1 h_m_fits hr (by decide) rfl (zad (zab 0) (zad (zb3 (zab 2) (zq8 (zab 2))) (zag))) (zak (zak za0))) (zab 3))))) (zar (zbb (zb4))) (zb2)) (zan (zay 7 sc.nd (zfs rfl z_tuple (zad (yd7 rfl z_sorted (zad (zab 2) (zag))) (zag)))) (zan (zeu PassesOwn.never rfl rfl z_range (zad (zas (zab 0) (zaj)) (zag)) (za4 8 sc.nd) (zan (zay 9 sc.nd (za1 h_m_followers hr (by decide) rfl (zad (zab 0) (zad (zab 7) (zad (zab 8) (zag)))) (zak (zak (zak za0))))) (zan (zbz (zdo (zgt (zfg (zc1 (za1 h_m_law_wholes hr (by decide) rfl (zad (zab 9) (zag)) (zak za0)))) (zhr (zgy hr (zab 9) (za1 h_m_law_followers hr (by decide) rfl (zad (zab 0) (zad (zab 7) (zad (zab 8) (zag)))) (zak (zak (zak za0)))))))) (zar (zbb (zb4))) (zb2)) (zar (zbz (zgy hr (za1 h_m_followers hr (by decide) rfl (zad (zab 0) (zad (zab 7) (zad (zab 8) (zag)))) (zak (zak (zak za0)))) (zab 9)) (zar (zbb (zb4))) (zb2)))))) (zar (zbb (zb4)))))))))
theorem ye7:FnScope ["_law_pen_here","_law_many","_law_digit","_law_at","_law_cell_here","_law_prime","_law_number"] ["_law_pen_here","_law_many"] (zax (top bd 13)):=⟨rfl,rfl,rfl,by decide +kernel,rfl,by decide +kernel,by decide +kernel⟩
theorem h_m_law_take (F:FJ K mg "_law_take" (top bd 13)) (z_len:mg "len" = none) (z_abs:mg "abs" = none):Has P w K mg base "_law_take" 1 2 zbn:=by
 have sc:=ye7
 refine zb9 (k:=0) F sc rfl (bl2 λ_ _=>λ_ _ _ _ _ _=>rfl) λf cdv hcd A outer s H E hr=>?_
 exact zan (zbz (zld (zas (zab 0) (zaj)) (zaj)) (zan (zay 2 sc.nd (zdp (zas (zab 0) (zaj)) (zab 1))) (zan (zfq (zlc (zas (zab 0) (zaj)) (zab 1)) (zhu (zab 0) (zaj))) (zar (zbb (zab 2))))) (zb2)) (zan (zay 3 sc.nd (zas (zab 0) (zaj))) (zan (zfq (zb3 (zab 3) (zaj)) (zhu (zab 0) (zaj))) (zan (zay 4 sc.nd (zb3 (zhy (zaj) (zab 3)) (zaj))) (zan (zbz (zld (zdh rfl z_len (zad (zas (zab 0) (zaj)) (zag))) (zaj)) (zar (zay 4 sc.nd (zas (zas (zab 0) (zaj)) (zdp (zab 3) (zdh rfl z_len (zad (zas (zab 0) (zaj)) (zag))))))) (zb2)) (zan (zbz (zdo (zff (zyl (zab 3) (zdh rfl z_len (zad (zas (zab 0) (zaj)) (zag)))) (zgs (zle (zlo rfl z_abs (zad (zab 4) (zag))) (zow (zaj) (zaj)))))) (zan (zfq (zlc (zlo rfl z_abs (zad (zab 4) (zag))) (zab 1)) (zhu (zab 0) (zaj))) (zar (zbb (zdp (zlo rfl z_abs (zad (zab 4) (zag))) (zab 1))))) (zb2)) (zan (zay 5 sc.nd (zas (zci (zad (zaj) (zad (zaj) (zad (zaj) (zad (zaj) (zad (zaj) (zag))))))) (zdp (zab 3) (zaj)))) (zan (zay 6 sc.nd (zdp (zhy (zb3 (zdp (zab 4) (zaj)) (zaj)) (zb3 (zhy (zab 3) (zab 3)) (zaj))) (zab 5))) (zan (zay 6 sc.nd (zdp (zb3 (zb3 (zow (zab 6) (zaj)) (zhy (zaj) (zab 3))) (zaj)) (zaj))) (zar (zbb (zdp (zlc (zdp (zhy (zab 6) (zb3 (zb3 (zdp (zab 6) (zaj)) (zab 3)) (zaj))) (zaj)) (zaj)) (zab 1))))))))))))
theorem ye8:FnScope ["_law_pen_here","_law_many","_law_left"] ["_law_pen_here","_law_many"] (zax (top bd 19)):=⟨rfl,rfl,rfl,by decide +kernel,rfl,by decide +kernel,by decide +kernel⟩
theorem ye9:List.Nodup (["_law_k","_law_left","_law_pen_here"]:List Str):=by decide +kernel
noncomputable abbrev yfa:List Str:=["_law_pen_here","_law_many","_law_left"]
theorem h_m_law_order (F:FJ K mg "_law_order" (top bd 19)) (z_range:mg "range" = none) (z_len:mg "len" = none) (z_list:mg "list" = none) (h_m_law_take:Has P w K mg base "_law_take" 1 2 zbn):Has P w K mg base "_law_order" 2 2 zin:=by
 have sc:=ye8
 refine zb9 (k:=1) F sc rfl (bl2 λ_ _=>λ_ _ _ _ _ _=>rfl) λf cdv hcd A outer s H E hr=>?_
 exact zan (zay 2 sc.nd (zz9 rfl rfl z_list rfl z_range (zad (zab 1) (zag)))) (zar (zbb (ze2 (N':=["_law_k","_law_left","_law_pen_here"]) (ixs:=[none,some 2,some 0]) rfl (ze3 (scO:=zax (top bd 19)) (NO:=yfa) rfl rfl (by decide +kernel)) (zjb rfl z_range (zad (zab 1) (zag))) (λ_ _ _ _ _=>za4 0 ye9) (λ_ _ _ _ _=>zdt) (λ_ _ _ _ _=>zz4 (zab 1) (za1 h_m_law_take hr (by decide) rfl (zad (zab 2) (zad (zdh rfl z_len (zad (zab 1) (zag))) (zag))) (zak (zak za0)))))))
theorem yfb:FnScope ["_law_pen_here","_law_table_here","_law_way","_law_order_here","_law_found","_law_room","_law_more"] ["_law_pen_here","_law_table_here"] (zax (top bd 20)):=⟨rfl,rfl,rfl,by decide +kernel,rfl,by decide +kernel,by decide +kernel⟩
theorem yfc:List.Nodup (["_law_other","_law_table_here","_law_room"]:List Str):=by decide +kernel
noncomputable abbrev yfd:List Str:=["_law_pen_here","_law_table_here","_law_way","_law_order_here","_law_found","_law_room","_law_more"]
theorem h_m_law_some (F:FJ K mg "_law_some" (top bd 20)) (z_tuple:mg "tuple" = none) (z_len:mg "len" = none) (z_any:mg "any" = none) (h_m_law_take:Has P w K mg base "_law_take" 1 2 zbn) (h_m_law_order:Has P w K mg base "_law_order" 2 2 zin):Has P w K mg base "_law_some" 3 2 zio:=by
 have sc:=yfb
 refine zb9 (k:=2) F sc rfl (bl2 λ_ _=>λ_ _ _ _ _ _=>rfl) λf cdv hcd A outer s H E hr=>?_
 exact zan (zay 2 sc.nd (za1 h_m_law_take hr (by decide) rfl (zad (zab 0) (zad (zaj) (zag))) (zak (zak za0)))) (zan (zay 3 sc.nd (za1 h_m_law_order hr (by decide) rfl (zad (zab 0) (zad (zdh rfl z_len (zad (zab 1) (zag))) (zag))) (zak (zak za0)))) (zan (zbz (zlf (zab 2) (zaj)) (zar (zbb (zfs rfl z_tuple (zad (zf2 (zab 3) (zfj) (zfk (za1 h_m_law_take hr (by decide) rfl (zad (zab 0) (zad (zb3 (zdh rfl z_len (zad (zab 1) (zag))) (zaj)) (zag))) (zak (zak za0))))) (zag))))) (zb2)) (zan (zay 4 sc.nd (zeq (zag))) (zan (zgx PassesOwn.never rfl (zab 3) (za4 5 sc.nd) (zar (zbz (zfg (zc1 (zpv rfl rfl z_any (zad (ze2 (N':=["_law_other","_law_table_here","_law_room"]) (ixs:=[none,some 1,some 5]) rfl (ze3 (scO:=zax (top bd 20)) (NO:=yfd) rfl rfl (by decide +kernel)) (zee (zab 4)) (λ_ _ _ _ _=>za4 0 yfc) (λ_ _ _ _ _=>zdt) (λ_ _ _ _ _=>zas (zas (zab 1) (zab 2)) (zab 0))) (zag))))) (zar (zfn (zgv (zab 4) (zab 5)))) (zb2)))) (zan (zay 4 sc.nd (zf2 (zab 4) (zfj) (zfk (zb3 (zaj) (za1 h_m_law_take hr (by decide) rfl (zad (zab 0) (zad (zdh rfl z_len (zad (zab 4) (zag))) (zag))) (zak (zak za0))))))) (zan (zay 6 sc.nd (za1 h_m_law_take hr (by decide) rfl (zad (zab 0) (zad (zdh rfl z_len (zad (zab 1) (zag))) (zag))) (zak (zak za0)))) (zan (zbz (zdo (zff (zlf (zab 2) (zaj)) (zgs (zjo (zab 6) (zab 4))))) (zar (zfn (ya8 (zab 4) (za1 h_m_law_take hr (by decide) rfl (zad (zab 0) (zad (zb3 (zdh rfl z_len (zad (zab 4) (zag))) (zaj)) (zag))) (zak (zak za0))) (zab 6)))) (zb2)) (zar (zbb (zfs rfl z_tuple (zad (zab 4) (zag))))))))))))
theorem yfe:FnScope ["_law_room","_law_beside","_law_table_here","_law_cell_here","_law_other"] ["_law_room","_law_beside","_law_table_here"] (zax (top bd 16)):=⟨rfl,rfl,rfl,by decide +kernel,rfl,by decide +kernel,by decide +kernel⟩
theorem h_m_law_parts (F:FJ K mg "_law_parts" (top bd 16)) (z_zip:mg "zip" = none):Has P w K mg base "_law_parts" 1 3 zgh:=by
 have sc:=yfe
 refine zb9 (k:=0) F sc rfl (bl3 λ_ _ _=>λ_ _ _ _ _ _=>rfl) λf cdv hcd A outer s H E hr=>?_
 exact zan (zp7 PassesOwn.never rfl (ycp rfl z_zip (zad (zab 0) (zad (zab 1) (zag)))) (zfp rfl (zcu (za4 3 sc.nd) (zcu (za4 4 sc.nd) (zfo)))) (zan (zbz (zdo (zff (zjo (zdm) (zci (zad (zas (zab 3) (zaj)) (zad (zas (zab 4) (zaj)) (zag))))) (zgs (zo3 (zas (zab 3) (zaj)) (zas (zab 4) (zaj)))))) (zar (zbb (zb4))) (zb2)) (zar (zbz (zdo (zff (zjo (zdm) (zci (zad (zas (zab 3) (zaj)) (zad (zas (zab 4) (zaj)) (zag))))) (zgs (zc1 (zas (zas (zab 2) (zas (zab 3) (zaj))) (zas (zab 4) (zaj))))))) (zar (zbb (zb4))) (zb2))))) (zar (zbb (zb4)))
theorem yff:FnScope ["_law_machine_here","_law_rooms","_law_table_here","_law_more","_law_one","_law_other"] ["_law_machine_here"] (zax (top bd 17)):=⟨rfl,rfl,rfl,by decide +kernel,rfl,by decide +kernel,by decide +kernel⟩
theorem yfg:List.Nodup (["_law_one","_law_rooms"]:List Str):=by decide +kernel
theorem yfh:List.Nodup (["_law_other"]:List Str):=by decide +kernel
noncomputable abbrev yfi:List Str:=["_law_machine_here","_law_rooms","_law_table_here","_law_more","_law_one","_law_other"]
theorem h_m_law_table (F:FJ K mg "_law_table" (top bd 17)) (z_range:mg "range" = none) (z_len:mg "len" = none) (h_m_law_parts:Has P w K mg base "_law_parts" 1 3 zgh):Has P w K mg base "_law_table" 2 1 ziq:=by
 have sc:=yff
 refine zb9 (k:=1) F sc rfl (bl1 λ_=>λ_ _ _ _ _ _=>rfl) λf cdv hcd A outer s H E hr=>?_
 exact zan (zay 1 sc.nd (zas (zab 0) (zaj))) (zan (zqf 2 sc.nd (N':=["_law_one","_law_rooms"]) (ixs:=[none,some 1]) rfl (ze3 (scO:=zax (top bd 17)) (NO:=yfi) rfl rfl (by decide +kernel)) (zee (zab 1)) (λ_ _ _ _ _=>za4 0 yfg) (λ_ _ _ _ _=>zdt) (λ_ _ _ _ _=>ze2 (N':=["_law_other"]) (ixs:=[none]) rfl (CompSc.toSd (zqh (scO:=zax (top bd 17)) rfl (by decide +kernel))) (zee (zab 1)) (λ_ _ _ _ _=>za4 0 yfh) (λ_ _ _ _ _=>zdt) (λ_ _ _ _ _=>zb4))) (zan (zay 3 sc.nd (zb4)) (zan (zpl zfz PassesOwn.never (zc1 (zab 3)) (zan (zay 3 sc.nd (zb4)) (zar (zeu PassesOwn.never rfl rfl z_range (zad (zdh rfl z_len (zad (zab 1) (zag))) (zag)) (za4 4 sc.nd) (zar (zeu PassesOwn.never rfl rfl z_range (zad (zab 4) (zag)) (za4 5 sc.nd) (zar (zbz (zdo (zff (zfg (zc1 (zas (zas (zab 2) (zab 4)) (zab 5)))) (zgs (zc1 (za1 h_m_law_parts hr (by decide) rfl (zad (zas (zab 1) (zab 4)) (zad (zas (zab 1) (zab 5)) (zad (zab 2) (zag)))) (zak (zak (zak za0)))))))) (zan (zfq (zb4) (zhu (zas (zab 2) (zab 4)) (zab 5))) (zan (zfq (zb4) (zhu (zas (zab 2) (zab 5)) (zab 4))) (zar (zay 3 sc.nd (zb4))))) (zb2))))))))) (zar (zbb (zab 2))))))
theorem yfj:FnScope ["_law_pen_here","_law_share","_law_wide","_law_shift","_law_many","_law_goes","_law_answer"] ["_law_pen_here","_law_share","_law_wide","_law_shift","_law_many"] (zax (top bd 15)):=⟨rfl,rfl,rfl,by decide +kernel,rfl,by decide +kernel,by decide +kernel⟩
theorem h_m_law_cell (F:FJ K mg "_law_cell" (top bd 15)) (h_m_law_take:Has P w K mg base "_law_take" 1 2 zbn):Has P w K mg base "_law_cell" 2 5 zir:=by
 have sc:=yfj
 refine zb9 (k:=1) F sc rfl (bl5 λ_ _ _ _ _=>λ_ _ _ _ _ _=>rfl) λf cdv hcd A outer s H E hr=>?_
 exact zan (zay 5 sc.nd (zdm)) (zan (zay 6 sc.nd (zdm)) (zan (zbz (zle (za1 h_m_law_take hr (by decide) rfl (zad (zab 0) (zad (zaj) (zag))) (zak (zak za0))) (zab 1)) (zar (zay 5 sc.nd (za1 h_m_law_take hr (by decide) rfl (zad (zab 0) (zad (zab 4) (zag))) (zak (zak za0))))) (zb2)) (zan (zbz (zle (za1 h_m_law_take hr (by decide) rfl (zad (zab 0) (zad (zaj) (zag))) (zak (zak za0))) (zab 1)) (zar (zay 6 sc.nd (zdp (zb3 (za1 h_m_law_take hr (by decide) rfl (zad (zab 0) (zad (zab 2) (zag))) (zak (zak za0))) (zab 3)) (zaj)))) (zb2)) (zar (zbb (zci (zad (zab 5) (zad (zab 6) (zag)))))))))
theorem yfk:FnScope ["_law_pen_here","_law_asks","_law_many","_law_share","_law_wide","_law_alike","_law_shift","_law_rooms","_law_room","_law_cells","_law_at"] ["_law_pen_here","_law_asks","_law_many"] (zax (top bd 14)):=⟨rfl,rfl,rfl,by decide +kernel,rfl,by decide +kernel,by decide +kernel⟩
theorem yfl:List.Nodup (["_law_ask","_law_pen_here","_law_share","_law_wide","_law_shift","_law_many"]:List Str):=by decide +kernel
noncomputable abbrev yfm:List Str:=["_law_pen_here","_law_asks","_law_many","_law_share","_law_wide","_law_alike","_law_shift","_law_rooms","_law_room","_law_cells","_law_at"]
theorem h_m_law_machine (F:FJ K mg "_law_machine" (top bd 14)) (z_tuple:mg "tuple" = none) (z_range:mg "range" = none) (h_m_law_take:Has P w K mg base "_law_take" 1 2 zbn) (h_m_law_cell:Has P w K mg base "_law_cell" 2 5 zir):Has P w K mg base "_law_machine" 3 3 zis:=by
 have sc:=yfk
 refine zb9 (k:=2) F sc rfl (bl3 λ_ _ _=>λ_ _ _ _ _ _=>rfl) λf cdv hcd A outer s H E hr=>?_
 exact zan (zay 3 sc.nd (zas (zci (zad (zaj) (zad (zaj) (zad (zaj) (zad (zaj) (zag)))))) (za1 h_m_law_take hr (by decide) rfl (zad (zab 0) (zad (zaj) (zag))) (zak (zak za0))))) (zan (zay 4 sc.nd (zas (zci (zad (zaj) (zad (zaj) (zad (zaj) (zad (zaj) (zag)))))) (za1 h_m_law_take hr (by decide) rfl (zad (zab 0) (zad (zaj) (zag))) (zak (zak za0))))) (zan (zay 5 sc.nd (zyn (za1 h_m_law_take hr (by decide) rfl (zad (zab 0) (zad (zaj) (zag))) (zak (zak za0))) (zaj))) (zan (zay 6 sc.nd (za1 h_m_law_take hr (by decide) rfl (zad (zab 0) (zad (zaj) (zag))) (zak (zak za0)))) (zan (zay 7 sc.nd (zeq (zag))) (zan (zeu PassesOwn.never rfl rfl z_range (zad (zab 2) (zag)) (za4 8 sc.nd) (zar (zbz (zdo (zff (zc1 (zab 5)) (zff (zld (zab 8) (zaj)) (zgs (zlf (za1 h_m_law_take hr (by decide) rfl (zad (zab 0) (zad (zaj) (zag))) (zak (zak za0))) (zaj)))))) (zan (zay 9 sc.nd (zas (zab 7) (za1 h_m_law_take hr (by decide) rfl (zad (zab 0) (zad (zab 8) (zag))) (zak (zak za0))))) (zan (zay 10 sc.nd (za1 h_m_law_take hr (by decide) rfl (zad (zab 0) (zad (zab 1) (zag))) (zak (zak za0)))) (zar (zfn (zgv (zab 7) (zb3 (zb3 (zf2 (zab 9) (zfj) (zfk (zab 10))) (zci (zad (zci (zad (zas (zas (zab 9) (zab 10)) (zaj)) (zad (zdm) (zag)))) (zag)))) (zf2 (zab 9) (zfk (zb3 (zab 10) (zaj))) (zfj)))))))) (zar (zfn (zgv (zab 7) (zfs rfl z_tuple (zad (ze2 (N':=["_law_ask","_law_pen_here","_law_share","_law_wide","_law_shift","_law_many"]) (ixs:=[none,some 0,some 3,some 4,some 6,some 2]) rfl (ze3 (scO:=zax (top bd 14)) (NO:=yfm) rfl rfl (by decide +kernel)) (zjb rfl z_range (zad (zab 1) (zag))) (λ_ _ _ _ _=>za4 0 yfl) (λ_ _ _ _ _=>zdt) (λ_ _ _ _ _=>za1 h_m_law_cell hr (by decide) rfl (zad (zab 1) (zad (zab 2) (zad (zab 3) (zad (zab 4) (zad (zab 5) (zag)))))) (zak (zak (zak (zak (zak za0))))))) (zag))))))))) (zar (zbb (zci (zad (zab 1) (zad (zfs rfl z_tuple (zad (zab 7) (zag))) (zag)))))))))))
theorem yfn:FnScope ["_law_script"] ["_law_script"] (zax (top bd 12)):=⟨rfl,rfl,rfl,by decide +kernel,rfl,by decide +kernel,by decide +kernel⟩
theorem h_m_law_pen (F:FJ K mg "_law_pen" (top bd 12)):Has P w K mg base "_law_pen" 1 1 zkb:=by
 have sc:=yfn
 refine zb9 (k:=0) F sc rfl (bl1 λ_=>λ_ _ _ _ _ _=>rfl) λf cdv hcd A outer s H E hr=>?_
 exact zar (zbb (zeq (zad (zf2 (zab 0) (zfj) (zfk (zaj))) (zad (zaj) (zad (zaj) (zag))))))
theorem yfo:FnScope ["_law_script","_law_pen_here","_law_turn","_law_asks","_law_many","_law_machine_here","_law_table_here","_law_kept","_law_k"] ["_law_script"] (zax (top bd 23)):=⟨rfl,rfl,rfl,by decide +kernel,rfl,by decide +kernel,by decide +kernel⟩
theorem yfp {f:Addr}{fd:FuncData}(F:Fun K "law" "law" (top bd 23) f fd) (z_repr:mg "repr" = none) (z_range:mg "range" = none) (h_m_law_right:Has P w K mg base "_law_right" 6 3 zhc) (h_m_law_some:Has P w K mg base "_law_some" 3 2 zio) (h_m_law_table:Has P w K mg base "_law_table" 2 1 ziq) (h_m_law_machine:Has P w K mg base "_law_machine" 3 3 zis) (h_m_law_take:Has P w K mg base "_law_take" 1 2 zbn) (h_m_law_pen:Has P w K mg base "_law_pen" 1 1 zkb):FnOk P w K mg base CX0 7 f fd ["_law_script"] (sp3 K 1 ze7):=by
 have sc:=yfo
 refine zo8 (k:=6) F sc rfl λcdv hcd A outer s H E hr=>?_
 refine zan (zay 1 sc.nd (za1 h_m_law_pen hr (by decide) rfl (zad (zab 0) (zag)) (zak za0))) ?_
 refine zan (zeu PassesOwn.never rfl rfl z_range (zad (zaj) (zag)) (za4 2 sc.nd) ?_) ?_
 ·refine zan (zay 3 sc.nd (zb3 (zaj) (za1 h_m_law_take hr (by decide) rfl (zad (zab 1) (zad (zaj) (zag))) (zak (zak za0))))) ?_
  refine zan (zay 4 sc.nd (zb3 (zaj) (za1 h_m_law_take hr (by decide) rfl (zad (zab 1) (zad (zas (zeq (zad (zaj) (zad (zaj) (zad (zaj) (zad (zaj) (zag)))))) (za1 h_m_law_take hr (by decide) rfl (zad (zab 1) (zad (zaj) (zag))) (zak (zak za0)))) (zag))) (zak (zak za0))))) ?_
  refine zan (zay 5 sc.nd (za1 h_m_law_machine hr (by decide) rfl (zad (zab 1) (zad (zab 3) (zad (zab 4) (zag)))) (zak (zak (zak za0))))) ?_
  refine zan (zay 6 sc.nd (za1 h_m_law_table hr (by decide) rfl (zad (zab 5) (zag)) (zak za0))) ?_
  refine zan (zay 7 sc.nd (zpj hr rfl z_repr (zad (zab 5) (zag)))) ?_
  refine zan (zeu PassesOwn.never rfl rfl z_range (zad (zaj) (zag)) (za4 8 sc.nd) ?_) ?_
  ·exact zar (zbz (zfg (zc1 (za1 h_m_law_right hr (by decide) rfl (zad (zab 5) (zad (zab 6) (zad (za1 h_m_law_some hr (by decide) rfl (zad (zab 1) (zad (zab 6) (zag))) (zak (zak za0))) (zag)))) (zak (zak (zak za0)))))) (zar (zbb (zb4))) (zb2))
  exact zar (zbz (zdo (zgt (zfg (zc1 (za1 h_m_law_right hr (by decide) rfl (zad (zab 5) (zad (zab 6) (zad (zci (zag)) (zag)))) (zak (zak (zak za0)))))) (zhr (zo3 (zpj hr rfl z_repr (zad (zab 5) (zag))) (zab 7))))) (zar (zbb (zb4))) (zb2))
 exact zar (zbb (zb4))
end
theorem all_mk {l:PySem.W.OpenLaw}{w:World}{K:QFg}{h:Heap}{mg:Str->Option Value}{fa:Addr}(X:K.In h) (G:h.Ns mainGlobals mg) (hfa:mg "law" = some (.ref fa))
  (a0:FI K "followers" (top bd 10))
  (a1:FI K "_law_wholes" (top bd 21))
  (a2:FI K "_law_followers" (top bd 18))
  (a3:FI K "first_parted" (top bd 8))
  (a4:FI K "all_pairs" (top bd 4))
  (a5:FI K "pairs_ahead" (top bd 6))
  (a6:FI K "answers_unlike" (top bd 1))
  (a7:FI K "say_unlike" (top bd 2))
  (a8:FI K "pairs_at_once" (top bd 5))
  (a9:FI K "parted_pairs" (top bd 3))
  (a10:FI K "fits" (top bd 9))
  (a11:FI K "_law_right" (top bd 22))
  (a12:FI K "_law_take" (top bd 13))
  (a13:FI K "_law_order" (top bd 19))
  (a14:FI K "_law_some" (top bd 20))
  (a15:FI K "_law_parts" (top bd 16))
  (a16:FI K "_law_table" (top bd 17))
  (a17:FI K "_law_cell" (top bd 15))
  (a18:FI K "_law_machine" (top bd 14))
  (a19:FI K "_law_pen" (top bd 12))
  (a20:FI K "law" (top bd 23))
  (z_tuple:PySem.W.nsIn K mainGlobals "tuple" = some none)
  (z_sorted:PySem.W.nsIn K mainGlobals "sorted" = some none)
  (z_isinstance:PySem.W.nsIn K mainGlobals "isinstance" = some none)
  (z_int:PySem.W.nsIn K mainGlobals "int" = some none)
  (z_bool:PySem.W.nsIn K mainGlobals "bool" = some none)
  (z_range:PySem.W.nsIn K mainGlobals "range" = some none)
  (z_len:PySem.W.nsIn K mainGlobals "len" = some none)
  (z_enumerate:PySem.W.nsIn K mainGlobals "enumerate" = some none)
  (z_max:PySem.W.nsIn K mainGlobals "max" = some none)
  (z_min:PySem.W.nsIn K mainGlobals "min" = some none)
  (z_any:PySem.W.nsIn K mainGlobals "any" = some none)
  (z_set:PySem.W.nsIn K mainGlobals "set" = some none)
  (z_abs:PySem.W.nsIn K mainGlobals "abs" = some none)
  (z_list:PySem.W.nsIn K mainGlobals "list" = some none)
  (z_zip:PySem.W.nsIn K mainGlobals "zip" = some none)
  (z_repr:PySem.W.nsIn K mainGlobals "repr" = some none) :
  ∃fd:FuncData,(∀(s:Shared) (v:Value),BindsTo s fd ⟨[v],[]⟩ [("_law_script",v)])/\∀base:Heap,K.In base->base.Ns mainGlobals mg->FnOk l.prog w K mg base CX0 7 fa fd ["_law_script"] (sp3 K 1 ze7):=by
 have y_tuple:=PySem.W.mg_none_of X G z_tuple
 have y_sorted:=PySem.W.mg_none_of X G z_sorted
 have y_isinstance:=PySem.W.mg_none_of X G z_isinstance
 have y_int:=PySem.W.mg_none_of X G z_int
 have y_bool:=PySem.W.mg_none_of X G z_bool
 have y_range:=PySem.W.mg_none_of X G z_range
 have y_len:=PySem.W.mg_none_of X G z_len
 have y_enumerate:=PySem.W.mg_none_of X G z_enumerate
 have y_max:=PySem.W.mg_none_of X G z_max
 have y_min:=PySem.W.mg_none_of X G z_min
 have y_any:=PySem.W.mg_none_of X G z_any
 have y_set:=PySem.W.mg_none_of X G z_set
 have y_abs:=PySem.W.mg_none_of X G z_abs
 have y_list:=PySem.W.mg_none_of X G z_list
 have y_zip:=PySem.W.mg_none_of X G z_zip
 have y_repr:=PySem.W.mg_none_of X G z_repr
 have F0:=a0.ok X G
 have F1:=a1.ok X G
 have F2:=a2.ok X G
 have F3:=a3.ok X G
 have F4:=a4.ok X G
 have F5:=a5.ok X G
 have F6:=a6.ok X G
 have F7:=a7.ok X G
 have F8:=a8.ok X G
 have F9:=a9.ok X G
 have F10:=a10.ok X G
 have F11:=a11.ok X G
 have F12:=a12.ok X G
 have F13:=a13.ok X G
 have F14:=a14.ok X G
 have F15:=a15.ok X G
 have F16:=a16.ok X G
 have F17:=a17.ok X G
 have F18:=a18.ok X G
 have F19:=a19.ok X G
 have F20:=a20.ok X G
 obtain @⟨fL,fdL,FL,mL,_⟩:=F20
 have e:=hfa.symm.trans mL
 cases e
 refine ⟨fdL,λs v=>by obtain ⟨_,_,_,_,_,_,_,_,_,rfl,_⟩:=FL.ex;exact .of_eq rfl,λbase _ _=>?_⟩
 have t:∀{x k n m},Has l.prog w K mg base x k n m->Has l.prog w K mg base x k n m:=id
 have g0:=t (h_m_followers F0 y_tuple y_sorted)
 have g1:=t (h_m_law_wholes F1 y_isinstance y_tuple y_int y_bool)
 have g2:=t (h_m_law_followers F2 y_tuple y_range y_len)
 have g3:=t (h_m_first_parted F3 y_enumerate)
 have g4:=t (h_m_all_pairs F4 y_range y_len)
 have g5:=t (h_m_pairs_ahead F5 y_max y_min y_range g4)
 have g6:=t (h_m_answers_unlike F6 )
 have g7:=t (h_m_say_unlike F7 g6)
 have g8:=t (h_m_pairs_at_once F8 y_any y_range g4 g7)
 have g9:=t (h_m_parted_pairs F9 g5 g8)
 have g10:=t (h_m_fits F10 y_sorted y_set g3 g9)
 have g11:=t (h_m_law_right F11 y_range y_tuple y_sorted y_isinstance y_bool g0 g1 g2 g10)
 have g12:=t (h_m_law_take F12 y_len y_abs)
 have g13:=t (h_m_law_order F13 y_range y_len y_list g12)
 have g14:=t (h_m_law_some F14 y_tuple y_len y_any g12 g13)
 have g15:=t (h_m_law_parts F15 y_zip)
 have g16:=t (h_m_law_table F16 y_range y_len g15)
 have g17:=t (h_m_law_cell F17 g12)
 have g18:=t (h_m_law_machine F18 y_tuple y_range g12 g17)
 have g19:=t (h_m_law_pen F19 )
 exact yfp FL y_repr y_range g11 g14 g16 g18 g12 g19
theorem walk {l:PySem.W.OpenLaw}{q:Program}{loose:List Str}{XP:(Str->Option Value)->Heap->Prop}{YP:World->Heap->Prop}{d:DefRec}{K:Params->QFg}(hn:l.most=some 63) (hdf:d.params.defaults=[])
  (hY:∀(w:World) (h:Heap),YP w h->(K w.params).In h)
  (F:∀(w:World) (mg:Str->Option Value) (fa:Addr) (h:Heap),(K w.params).In h->h.Ns mainGlobals mg->mg d.name=some (.ref fa) ->
   ∃fd:FuncData,(∀(s:Shared) (u:Value),BindsTo s fd ⟨[u],[]⟩ [("_law_script",u)])/\∀base:Heap,(K w.params).In base->base.Ns mainGlobals mg->FnOk l.prog w (K w.params) mg base CX0 7 fa fd ["_law_script"] (sp3 (K w.params) 1 ze7))
  (hlaw:∀ns:List Int,ns.length<=63->∃S',ze7 [.ref 0] [.flst (ns.map D.int)]=some (.bl true,S')) :
  PySem.W.WalkO q loose XP YP l.row.toRowW d [] (λf vs=>PySem.call f vs) :=
 L2.walk_of (n:=63) (k:=7) (x:="_law_script") (CX:=λ_=>CX0) (sp:=λw=>sp3 (K w.params) 1 ze7) hn (by decide) hdf ⟨rfl,by decide,by decide,rfl⟩ hY F (λ_ _ a ns hl hO hS=>zzk hO hS (hlaw ns hl)) λ_ _ _ _ _ z=>z
end G
end
theorem qg0 {α:Type}{a:α}{l:List α}:(a :: l)[0]? = some a:=rfl
theorem qg1 {α:Type}{a:α}{i:Nat}{l:List α}:(a :: l)[i+1]? = l[i]?:=rfl
theorem qs0 {α:Type}{a b:α}{l:List α}:(a :: l).set 0 b=b :: l:=rfl
theorem qs1 {α:Type}{a b:α}{n:Nat}{l:List α}:(a :: l).set (n+1) b=a :: l.set n b:=rfl
theorem qlt {α:Type}{l:List α}{i:Nat}{a:α}(h:l[i]? = some a):i<l.length:=(List.getElem?_eq_some_iff.mp h).1
namespace M
open PySem L3 G
local macro_rules
 | `(term| nofun)=>`(by first|rfl|trivial)
local macro_rules
 | `(term| ‹$x›)=>`(some (.int ($x : Int)))
local macro_rules
 | `(term| ~~~$x)=>`(some (.ref $x))
local macro_rules
 | `(tactic| dsimp! only [$xs,*])=>`(tactic| simp only [$xs,*,List.map_cons,List.map_nil,List.length_cons,List.length_nil,Nat.reduceAdd,Nat.reduceSub,List.replicate,List.cons_append,List.nil_append])
theorem zbg (h:S[n]? = some (.lst xs)):lstOf S n=some xs:=by unfold lstOf;rw [h]
inductive PQ (ns:List Int) (c:Nat) (S:Sto):Prop
 | mk (at' r:Int) (e:S[2]? = some (.lst [.ref 1,.int at',.int r])) (s:lstOf S 1=some (ns.map D.int)) (a0:0<=at') (a1:at'<=c) (r0:0<=r)
def Fn (S S':Sto):Prop:=∀(j:Nat) (o:Ob),j≠2->S[j]? = some o->S'[j]? = some o
theorem Fn.trans (h:Fn A B) (g:Fn B C):Fn A C:=λj o hj e=>g j o hj (h j o hj e)
theorem Fn.gr (h:Gr A B):Fn A B:=λ_ _ _ e=>h.get e
theorem Fn.set:Fn A (A.set 2 o):=λj o' hj e=>by rw [List.getElem?_set_ne (Ne.symm hj)];exact e
theorem Fn.lst (h:Fn A B) (hm:m≠2) (e:lstOf A m=some xs):lstOf B m=some xs:=by
 unfold lstOf at e ⊢
 cases q:A[m]? with
 | none=>rw [q] at e;cases e
 | some o=>rw [h m o hm q];rw [q] at e;exact e
theorem PQ.gr (h:PQ ns c A) (g:Gr A B):PQ ns c B:=by
 obtain ⟨x,y,e,f,r1,r2,r3⟩:=h
 exact ⟨x,y,g.get e,g.lst f,r1,r2,r3⟩
theorem PQ.mono (h:PQ ns c A) (g:c<=d):PQ ns d A:=by
 obtain ⟨x,y,e,f,r1,r2,r3⟩:=h
 exact ⟨x,y,e,f,r1,by lia,r3⟩
theorem PQ.lt (h:PQ ns c A):3<=A.length:=by
 obtain ⟨x,y,e,_⟩:=h
 have:=(qme e).1
 lia
theorem PQ.setN (h:PQ ns c A) (hn:3<=n):PQ ns c (A.set n o):=by
 obtain ⟨x,y,e,f,r1,r2,r3⟩:=h
 refine ⟨x,y,by rw [List.getElem?_set_ne (by lia)];exact e,?_,r1,r2,r3⟩
 unfold lstOf at f ⊢
 rw [List.getElem?_set_ne (by lia)];exact f
theorem Fn.setN (h:Fn A B) (hn:A.length<=n):Fn A (B.set n o):=λj o' hj e=>by
 have:j<A.length:=(qme e).1
 rw [List.getElem?_set_ne (by lia)];exact h j o' hj e
theorem Fn.len (h:Fn A B) (hB:3<=B.length):A.length<=B.length:=by
 rcases Nat.lt_or_ge B.length A.length with z|z
 ·have hj:A.length-1<A.length:=by lia
  have e:=qge hj
  have:=(qme (h (A.length-1) _ (by lia) e)).1
  lia
 ·exact z
theorem set_1 (h:S[2]? = some (.lst [a,b,c])):zc3 (.ref 2) (.int 1) v S=some (S.set 2 (.lst [a,v,c])):=by
 unfold zc3;simp only [h];rfl
theorem zsm (h:S[2]? = some (.lst [a,b,c])):zc3 (.ref 2) (.int 2) v S=some (S.set 2 (.lst [a,b,v])):=by
 unfold zc3;simp only [h];rfl
theorem zel {S:Sto}{n:Nat}{o o':Ob}(h:S[n]? = some o'):(S.set n o)[n]? = some o:=List.getElem?_set_self (qme h).1
theorem yfq (i:Int) (h0:0<=i) (h1:i<5):∃p,L2.atI [D.int 2147483647,.int 2147483629,.int 2147483587,.int 2147483579,.int 2147483563] i=some (.int p)/\0<p/\p<2147483648:=by
 have:i=0\/i=1\/i=2\/i=3\/i=4:=by lia
 rcases this with rfl|rfl|rfl|rfl|rfl <;> exact ⟨_,rfl,by decide,by decide⟩
inductive TkP (ns:List Int) (c:Nat) (m:Int) (S:Sto) (v:D) (S':Sto):Prop
 | mk (d:Nat) (e:v=.int (d:Int)) (h:(d:Int)<m) (p:PQ ns (c+1) S') (f:Fn S S')
local macro_rules
 | `(tactic| simp! only [$xs,*])=>`(tactic| simp only [zb1,zjf,zpd,zb0,za9,zhw,zam,za6,zbj,zcg,zev,zcj,zat,zjg,zfv,zfw,zfx,zaz,zdu,zaw,zav,zft,zfu,zef,zje,zlp,zpe,zpf,ze6,zif,zge,zgb,zgc,zgd,zj6,zrg,zlq,zlr,zcr,zf9,zls,zlt,zj3,zga,zpg,zdg,zjh,zey,zji,zlu,zms,zjj,zlv,zmt,zmu,zmv,zib,List.map_cons,List.map_nil,List.length_cons,List.length_nil,Nat.reduceAdd,Nat.reduceSub,List.replicate,List.cons_append,List.nil_append,qg0,qg1,qs0,qs1,zaq,zbu,zch,zrd,zre,zrf,zj2,zmr,zdj,decide_eq_true_eq,zrt,zmy,$xs,*])
theorem zca {ns:List Int}{c:Nat}{m:Int}{S:Sto}(h:PQ ns c S) (hc:c<100000000) (h1:0<m) (h2:m<1073741824):Wo (zbn [.ref 2,.int m] S) (TkP ns c m S):=by
 obtain ⟨a,r,hS,hs,a0,a1,r0⟩:=h
 have sz5:5<=sizeLine:=by decide
 unfold zbn zr9
 by_cases hr:0<r
 ·dsimp! only [zb1]
  refine zgf (λ_ _=>False) (TkP ns c m S) ?_ (λ_ _ z=>z.elim) (λd _ _ o=>o)
  simp! only [zbg hS,zsm hS,decide_eq_true_eq,hr,h1,h2,if_true,true_and,and_self]
  have d0:=Int.emod_nonneg r (show m≠0 by lia)
  have d1:=Int.emod_lt_of_pos r h1
  refine .inr ⟨_,rfl,(r % m).toNat,by rw [Int.toNat_of_nonneg d0],by rw [Int.toNat_of_nonneg d0];exact d1,⟨a,r / m,zel hS,Fn.set.lst (by decide) hs,a0,by lia,Int.ediv_nonneg r0 (by lia)⟩,Fn.set⟩
 dsimp! only [zb1]
 refine zbm (l':=[~~~2,some (.int m),none,none,none,none,none]) (S':=S) (by simp! only [zbg hS,decide_eq_true_eq,hr,if_false,and_self]) ?_
 refine zbm (l':=[~~~2,some (.int m),none,some (.int a),none,none,none]) (S':=S) (by simp! only [zbg hS];exact ⟨nofun,nofun,nofun⟩) ?_
 refine zbm (l':=[~~~2,some (.int m),none,some (.int a),none,none,none]) (S':=S.set 2 (.lst [.ref 1,.int (a+1),.int r])) (by simp! only [set_1 hS,and_self]) ?_
 have hS2:(S.set 2 (.lst [.ref 1,.int (a+1),.int r]))[2]? = some (.lst [.ref 1,.int (a+1),.int r]):=zel hS
 have hs2:lstOf (S.set 2 (.lst [.ref 1,.int (a+1),.int r])) 1=some (ns.map D.int):=Fn.set.lst (by decide) hs
 have f02:Fn S (S.set 2 (.lst [.ref 1,.int (a+1),.int r])):=Fn.set
 generalize S.set 2 (.lst [.ref 1,.int (a+1),.int r])=S2 at hS2 hs2 f02
 have f1:(-(2 ^ 64):Int)<7919/\(7919:Int)<2 ^ 64:=by decide
 have f5:(0:Int)<=18/\(18:Int)<=1000000/\Int.natAbs 10<2 ^ 64:=by decide
 have f7:(0:Int)<5:=by decide
 refine zbm (l':=[~~~2,some (.int m),none,some (.int a),some (.int (7919*a+11)),none,none]) (S':=S2) (by simp! only [f1,true_or,and_self,true_and]) ?_
 refine za3 (λl S'=>∃k:Int,l=[~~~2,some (.int m),none,some (.int a),some (.int k),none,none]/\S' = S2) ?_ ?_
 ·by_cases hl:0<(ns.length:Int)
  ·obtain ⟨x,e1,e2⟩:=yd8 (ns.map D.int) (a % (ns.length:Int)) (Int.emod_nonneg _ (by lia)) (by rw [qlm];exact Int.emod_lt_of_pos _ hl)
   obtain ⟨k,_,rfl⟩:=List.mem_map.mp e2
   simp! only [zbg hS2,hs2,e1,hl,qlm,decide_true,if_true,true_and,and_self]
   exact ⟨k,rfl,nofun⟩
  ·simp! only [zbg hS2,hs2,hl,qlm,if_false,decide_false,qbf]
   exact ⟨nofun,_,rfl,nofun⟩
 rintro l S3 ⟨k,rfl,rfl⟩
 by_cases hb:a<(ns.length:Int)/\10 ^ Int.toNat 18<=(if k<0 then -k else k)
 ·obtain ⟨hb1,hb2⟩:=hb
  refine zgf (λ_ _=>False) (TkP ns c m S) ?_ (λ_ _ z=>z.elim) (λd _ _ o=>o)
  simp! only [zbg hS2,hs2,hb1,hb2,qlm,zsm hS2,h1,h2,f5,if_true,true_and,and_self,decide_true]
  have d0:=Int.emod_nonneg (if k<0 then -k else k) (show m≠0 by lia)
  have d1:=Int.emod_lt_of_pos (if k<0 then -k else k) h1
  exact .inr ⟨_,rfl,((if k<0 then -k else k) % m).toNat,by rw [Int.toNat_of_nonneg d0],by rw [Int.toNat_of_nonneg d0];exact d1,⟨a+1,(if k<0 then -k else k) / m,zel hS2,Fn.set.lst (by decide) hs2,by lia,by lia,Int.ediv_nonneg (by split <;> lia) (by lia)⟩,f02.trans Fn.set⟩
 refine zbm (l':=[~~~2,some (.int m),none,some (.int a),some (.int k),none,none]) (S':=S3) ?_ ?_
 ·by_cases hb1:a<(ns.length:Int)
  ·have hb2:¬10 ^ Int.toNat 18<=(if k<0 then -k else k):=λz=>hb ⟨hb1,z⟩
   simp! only [zbg hS2,hs2,hb1,hb2,qlm,f5,if_true,if_false,true_and,and_self,decide_true,decide_false,qbf]
  ·simp! only [zbg hS2,hs2,hb1,qlm,if_false,decide_false,qbf,true_and,and_self]
 obtain ⟨p1,hp1,p1a,p1b⟩:=yfq (a % 5) (by lia) (by lia)
 refine zbm (l':=[~~~2,some (.int m),none,some (.int a),some (.int k),some (.int p1),none]) (S':=S3) (by simp! only [hp1,f7,sz5,decide_true,true_and,and_self]) ?_
 have q1:0<=k % 2147483549:=Int.emod_nonneg _ (by lia)
 have q2:k % 2147483549<2147483549:=Int.emod_lt_of_pos _ (by lia)
 refine za3 (λl S'=>∃n1:Int,0<=n1/\n1<2147483648/\l=[~~~2,some (.int m),none,some (.int a),some (.int k),some (.int p1),some (.int n1)]/\S' = S3) ?_ ?_
 ·have g1:(-(2 ^ 64):Int)<a/\a<2 ^ 64:=by lia
  have g2:(-(2 ^ 64):Int)<k % 2147483549+1/\k % 2147483549+1<2 ^ 64:=by lia
  have g3:(0:Int)<2147483549:=by decide
  simp! only [g1,g2,g3,p1a,decide_true,true_or,true_and,and_true,and_self]
  exact ⟨_,Int.emod_nonneg _ (by lia),by have:=Int.emod_lt_of_pos ((k % 2147483549+1)*(a*a+48271)) p1a;lia,rfl⟩
 rintro l S4 ⟨n1,n0,n2,rfl,rfl⟩
 refine za3 (λl S'=>∃n1:Int,0<=n1/\n1<2147483648/\l=[~~~2,some (.int m),none,some (.int a),some (.int k),some (.int p1),some (.int n1)]/\S' = S4) ?_ ?_
 ·have q8:(0:Int)<=3/\(3:Int)<=1000000/\n1.natAbs<2 ^ 64:=⟨by decide,by decide,by lia⟩
  have f3:(-(2 ^ 64):Int)<69621/\(69621:Int)<2 ^ 64:=by decide
  have f8:(0:Int)<2147483543:=by decide
  simp! only [q8,f3,f8,decide_true,true_or,true_and,and_true,and_self]
  have z1:=Int.emod_nonneg (n1 ^ Int.toNat 3+69621*a+3) (b:=2147483543) (by lia)
  have z2:=Int.emod_lt_of_pos (n1 ^ Int.toNat 3+69621*a+3) f8
  exact ⟨_,z1,by lia,rfl⟩
 rintro l S5 ⟨n3,n4,n5,rfl,rfl⟩
 have g4:(-(2 ^ 64):Int)<n3/\n3<2 ^ 64:=by lia
 have g5:(0:Int)<65521:=by decide
 have g6:(0:Int)<2147483497:=by decide
 have f6:(0:Int)<64/\(64:Int)<1073741824:=by decide
 simp! only [g4,g5,g6,f6,h1,h2,decide_true,true_or,true_and,and_self]
 generalize n3*(n3 % 65521+a+5) % 2147483497 / 64=q
 have d0:=Int.emod_nonneg q (show m≠0 by lia)
 have d1:=Int.emod_lt_of_pos q h1
 exact ⟨(q % m).toNat,by rw [Int.toNat_of_nonneg d0],by rw [Int.toNat_of_nonneg d0];exact d1,⟨a+1,r,hS2,hs2,by lia,by lia,r0⟩,f02⟩
theorem zm1 {α:Type}{x:α}:(∃y,some x=some y)=True:=by simp
theorem zcb:1000000<=sizeLine:=by decide
theorem zck (R:Bool->Sto->Prop) (h:Wt t l S R) (h1:∀S1,R true S1->Ws m l S1 Q) (h2:∀S1,R false S1->Ws n l S1 Q):Ws (sIf t m n) l S Q:=by
 rw [zpd]
 obtain ⟨k,S1,e,r⟩:=h
 refine ⟨k,S1,e,?_⟩
 cases k with
 | true=>exact h1 S1 r
 | false=>exact h2 S1 r
abbrev Cl:=Option Nat × Option Nat
noncomputable def oD:Option Nat->D
 | none=>.non
 | some n=>.int n
noncomputable def cD (c:Cl):D:=.tup [oD c.1,oD c.2]
noncomputable def rD (cs:List Cl):D:=.tup (cs.map cD)
noncomputable def mD (asks:Nat) (rs:List (List Cl)):D:=.tup [.int (asks:Int),.tup (rs.map rD)]
structure OkM (asks:Nat) (rs:List (List Cl)):Prop where
 a1:1<=asks
 a4:asks<=4
 r1:1<=rs.length
 r24:rs.length<=24
 len:∀cs∈rs,cs.length=asks
 go:∀cs∈rs,∀c∈cs,∀g,c.1=some g->g<rs.length
 an:∀cs∈rs,∀c∈cs,∀v,c.2=some v->v<8
noncomputable def cell (rs:List (List Cl)) (r a:Nat):Cl:=((rs[r]?).bind λcs=>cs[a]?).getD (none,none)
noncomputable def both (x y:Option Nat):Option BF.P:=x.bind λi=>y.bind λj=>some (i,j)
noncomputable def unl (x y:Option Nat):Bool:=match x,y with
 | some i,some j=>decide (i≠j)
 | _,_=>false
noncomputable def nxt (rs:List (List Cl)) (p:BF.P) (a:Nat):Option BF.P:=both (cell rs p.1 a).1 (cell rs p.2 a).1
noncomputable def fl (rs:List (List Cl)) (p:BF.P) (a:Nat):Bool:=unl (cell rs p.1 a).2 (cell rs p.2 a).2
section
variable {asks:Nat}{rs:List (List Cl)}{r a:Nat}
theorem zm2 (h:OkM asks rs) (hr:r<rs.length) (ha:a<asks):∃cs,rs[r]? = some cs/\cs[a]? = some (cell rs r a)/\cs∈rs/\cell rs r a∈cs:=by
 have h1:rs[r]? = some rs[r]:=qge hr
 have h2:rs[r]∈rs:=List.getElem_mem hr
 have h3:a<rs[r].length:=by rw [h.len _ h2];exact ha
 have h4:rs[r][a]? = some rs[r][a]:=qge h3
 have h5:cell rs r a=rs[r][a]:=by unfold cell;rw [h1];show (rs[r][a]?).getD _=_;rw [h4];rfl
 exact ⟨_,h1,by rw [h5];exact h4,h2,by rw [h5];exact List.getElem_mem h3⟩
theorem zit (h:OkM asks rs) (hr:r<rs.length) (ha:a<asks) (hg:(cell rs r a).1=some g):g<rs.length:=by
 obtain ⟨cs,_,_,h1,h2⟩:=zm2 h hr ha
 exact h.go cs h1 _ h2 g hg
theorem yfr (h:OkM asks rs) (hp:p.1<rs.length/\p.2<rs.length) (ha:a<asks) (e:nxt rs p a=some q):q.1<rs.length/\q.2<rs.length:=by
 unfold nxt both at e
 obtain ⟨i,h1,e⟩:=bnd e
 obtain ⟨j,h2,e⟩:=bnd e
 cases e
 exact ⟨zit h hp.1 ha h1,zit h hp.2 ha h2⟩
theorem zsn (hr:r<rs.length):∃cs,rs[r]? = some cs/\L2.atI (rs.map rD) (r:Int)=some (rD cs):=by
 have h1:rs[r]? = some rs[r]:=qge hr
 exact ⟨_,h1,atI_get (by rw [qgm,h1];rfl)⟩
theorem yfs {cs:List Cl}{c:Cl}(h:cs[a]? = some c):L2.atI (cs.map cD) (a:Int)=some (cD c):=atI_get (by rw [qgm,h];rfl)
theorem zkc (h:OkM asks rs) (hr:r<rs.length) (ha:a<asks):Wo (zai (.tup (rs.map rD)) (.int (r:Int)) S) (λx S1=>Wo (zai x (.int (a:Int)) S1) Q)=Q (cD (cell rs r a)) S:=by
 obtain ⟨cs,h1,h2,_⟩:=zm2 h hr ha
 have e1:L2.atI (rs.map rD) (r:Int)=some (rD cs):=atI_get (by rw [qgm,h1];rfl)
 have e2:=yfs h2
 rw [zcr,e1]
 simp only [zbu]
 unfold rD
 rw [zcr,e2]
 simp only [zbu]
end
theorem zkd (o:Option Nat):zer (oD o)=o.isNone:=by cases o <;> rfl
theorem yft {asks:Nat}{rs:List (List Cl)}:L2.atI [D.int (asks:Int),.tup (rs.map rD)] 0=some (.int (asks:Int)):=rfl
theorem zke {asks:Nat}{rs:List (List Cl)}:L2.atI [D.int (asks:Int),.tup (rs.map rD)] 1=some (.tup (rs.map rD)):=rfl
theorem yfu (x y:Option Nat) (S:Sto):zhb [oD x,oD y] S=some (.bl (unl x y),S):=by
 have:Wo (zhb [oD x,oD y] S) λv S'=>v=.bl (unl x y)/\S' = S:=by
  unfold zhb zr3
  dsimp! only [zb1]
  cases x with
  | none =>
   simp! only [zkd,Option.isNone_none,Bool.not_true,qbf,if_false]
   exact ⟨nofun,nofun⟩
  | some i =>
   cases y with
   | none =>
    simp! only [zkd,Option.isNone_none,Option.isNone_some,Bool.not_true,Bool.not_false,qbf,if_false,if_true]
    exact ⟨nofun,nofun⟩
   | some j =>
    simp! only [zkd,Option.isNone_some,Bool.not_false,if_true,oD]
    refine ⟨?_,nofun⟩
    unfold unl
    by_cases e:i=j
    ·subst e;simp
    ·simp [e];lia
 obtain ⟨v,S',e,rfl,rfl⟩:=this
 exact e
theorem yfv (c d:Cl) (S:Sto):zgg [cD c,cD d] S=some (.bl (unl c.2 d.2),S):=by
 have:Wo (zgg [cD c,cD d] S) λv S'=>v=.bl (unl c.2 d.2)/\S' = S:=by
  unfold zgg zr4
  dsimp! only [zb1]
  simp! only [cD]
  refine ⟨_,_,yfu _ _ _,?_⟩
  exact ⟨nofun,nofun⟩
 obtain ⟨v,S',e,rfl,rfl⟩:=this
 exact e
noncomputable def pD (p:BF.P):D:=.tup [.int (p.1:Int),.int (p.2:Int)]
theorem zso (h:OkM asks rs) (hr:r<rs.length) (ha:a<asks):∃cs:List Cl,L2.atI (rs.map rD) (r:Int)=some (.tup (cs.map cD))/\L2.atI (cs.map cD) (a:Int)=some (.tup [oD (cell rs r a).1,oD (cell rs r a).2]):=by
 obtain ⟨cs,h1,h2,_⟩:=zm2 h hr ha
 exact ⟨cs,atI_get (by rw [qgm,h1];rfl),atI_get (by rw [qgm,h2];rfl)⟩
theorem zm3:Wo (dIn neg .non (.tup [oD x,oD y]) S) Q=Q (.bl (if neg then (both x y).isSome else !(both x y).isSome)) S:=by
 have:dIn neg .non (.tup [oD x,oD y]) S=some (.bl (if neg then (both x y).isSome else !(both x y).isSome),S):=by
  cases x <;> cases y <;> cases neg <;> rfl
 rw [this];exact zbl
theorem yfw (h:both x y=some p):D.tup [oD x,oD y]=pD p:=by
 unfold both at h
 obtain ⟨i,h1,h⟩:=bnd h
 obtain ⟨j,h2,h⟩:=bnd h
 cases h;subst h1 h2;rfl
abbrev Tb:=List (List L2.Key × D)
noncomputable def pK (p:BF.P):List L2.Key:=[Sum.inl (p.1:Int),Sum.inl (p.2:Int)]
theorem zkf (h:pK p=pK q):p=q:=by
 unfold pK at h
 simp at h
 exact Prod.ext (by lia) (by lia)
theorem zgi (p:BF.P):zc5 (pD p)=some (pK p):=rfl
theorem zm4 (kvs:Tb) (k j:List L2.Key) (v:D):za8 (zcd kvs k v) j=if j=k then some v else za8 kvs j:=by
 unfold zcd
 by_cases e:(kvs.any λkv=>decide (kv.1=k))=true
 ·rw [if_pos e]
  by_cases hj:j=k
  ·subst hj
   rw [if_pos rfl]
   obtain ⟨kv,h1,h2⟩:=List.any_eq_true.mp e
   clear e
   induction kvs with
   | nil=>cases h1
   | cons x kvs ih =>
    obtain ⟨xk,xv⟩:=x
    by_cases hx:xk=j
    ·subst hx;simp [za8]
    ·rcases List.mem_cons.mp h1 with rfl|h1
     ·exact absurd (of_decide_eq_true h2) hx
     ·have:=ih h1
      simp only [za8,List.map_cons,if_neg hx,List.find?_cons,decide_eq_false hx] at this ⊢
      exact this
  ·rw [if_neg hj]
   clear e
   induction kvs with
   | nil=>rfl
   | cons x kvs ih =>
    obtain ⟨xk,xv⟩:=x
    by_cases hx:xk=k
    ·subst hx
     have hx':¬xk=j:=λz=>hj z.symm
     simp only [za8,List.map_cons,if_true,List.find?_cons,decide_eq_false hx'] at ih ⊢
     exact ih
    ·by_cases hxj:xk=j
     ·subst hxj
      simp [za8,hx]
     ·simp only [za8,List.map_cons,if_neg hx,List.find?_cons,decide_eq_false hxj] at ih ⊢
      exact ih
 ·rw [if_neg e]
  have none:za8 kvs k=none:=by
   unfold za8
   rw [Option.map_eq_none_iff,List.find?_eq_none]
   intro x hx hk
   exact e (List.any_eq_true.mpr ⟨x,hx,hk⟩)
  by_cases hj:j=k
  ·subst hj
   rw [if_pos rfl]
   unfold za8 at none ⊢
   rw [List.find?_append,Option.map_eq_none_iff.mp none]
   simp
  ·rw [if_neg hj]
   unfold za8
   rw [List.find?_append]
   cases kvs.find? (λkv=>decide (kv.1=j)) with
   | some x=>rfl
   | none =>
    have hk:¬k=j:=λz=>hj z.symm
    simp [hk]
abbrev Di (asks:Nat) (rs:List (List Cl)) (p:BF.P) (n:Nat):Prop:=BF.Ds asks (nxt rs) (fl rs) p n
theorem zsp (F:D->D):(zau 0 n).map F=(List.range n).map λ(a:Nat)=>F (.int (a:Int)):=by
 unfold zau
 rw [List.map_map]
 apply List.map_congr_left
 intro a _
 show F (.int (0+(a:Int)))=_
 rw [Int.zero_add]
theorem yfx (h:x∈zau 0 n):∃a:Nat,a<n/\x=.int (a:Int):=by
 unfold zau at h
 obtain ⟨a,ha,rfl⟩:=List.mem_map.mp h
 exact ⟨a,List.mem_range.mp ha,by rw [Int.zero_add]⟩
noncomputable def flF (rs:List (List Cl)) (p:BF.P):D->D
 | .int a=>.bl (fl rs p a.toNat)
 | _=>.non
noncomputable def f1 (asks:Nat) (rs:List (List Cl)) (p:BF.P):Bool:=(List.range asks).any λa=>fl rs p a
theorem f1_iff:f1 asks rs p=true↔Di asks rs p 1:=by
 unfold f1 Di
 rw [List.any_eq_true,BF.Ds.one]
 constructor
 ·rintro ⟨a,h1,h2⟩;exact ⟨a,List.mem_range.mp h1,h2⟩
 ·rintro ⟨a,h1,h2⟩;exact ⟨a,List.mem_range.mpr h1,h2⟩
theorem yfy (p:BF.P):zer (pD p)=false:=rfl
def Pt (asks:Nat) (rs:List (List Cl)) (p:BF.P):Prop:=∃w,BF.Fails asks (nxt rs) (fl rs) p w
theorem pt_iff:Pt asks rs p↔∃n,Di asks rs p n:=by
 constructor
 ·rintro ⟨w,h⟩
  obtain ⟨m,_,d⟩:=BF.Ds.of ⟨w,h,rfl⟩
  exact ⟨m,d⟩
 ·rintro ⟨n,⟨w,h,_⟩,_⟩
  exact ⟨w,h⟩
noncomputable def swp (p:BF.P):BF.P:=(p.2,p.1)
theorem yfz (x y:Option Nat):unl x y=unl y x:=by
 cases x <;> cases y <;> simp [unl]
 rename_i a b
 by_cases e:a=b
 ·subst e;simp
 ·have:¬b=a:=λz=>e z.symm
  simp [e,this]
theorem zsq (rs:List (List Cl)) (p:BF.P) (a:Nat):fl rs (swp p) a=fl rs p a:=yfz _ _
theorem zsr (rs:List (List Cl)) (p:BF.P) (a:Nat):nxt rs (swp p) a=(nxt rs p a).map swp:=by
 unfold nxt both swp
 cases (cell rs p.1 a).1 <;> cases (cell rs p.2 a).1 <;> rfl
theorem zhd:∀{w:List Nat}{p:BF.P},BF.Fails asks (nxt rs) (fl rs) p w->BF.Fails asks (nxt rs) (fl rs) (swp p) w
 | [],p,h=>absurd h BF.fails_ne
 | a :: w,p,h=>by
  rcases BF.fails_inv h with ⟨e,ha,hf⟩|⟨q,ha,hs,hq⟩
  ·subst e
   exact ⟨[],a,swp p,rfl,ha,(λb hb=>by cases hb),rfl,by rw [zsq];exact hf⟩
  ·exact BF.fails_cons ha (by rw [zsr,hs];rfl) (zhd hq)
theorem zkg:∀{w:List Nat}{i:Nat},¬BF.Fails asks (nxt rs) (fl rs) (i,i) w
 | [],i,h=>BF.fails_ne h
 | a :: w,i,h=>by
  rcases BF.fails_inv h with ⟨e,ha,hf⟩|⟨q,ha,hs,hq⟩
  ·have:fl rs (i,i) a=false:=by
    unfold fl unl
    cases (cell rs (i,i).1 a).2 <;> simp
   rw [this] at hf;cases hf
  ·unfold nxt both at hs
   cases e:(cell rs i a).1 with
   | none=>simp only [e] at hs;cases hs
   | some g=>simp only [e] at hs;cases hs;exact zkg hq
noncomputable def srt (p:BF.P):BF.P:=if p.2<p.1 then (p.2,p.1) else p
def InP (rs:List (List Cl)) (p:BF.P):Prop:=p.1<p.2/\p.2<rs.length
theorem InP.both (h:InP rs p):p.1<rs.length/\p.2<rs.length:=⟨Nat.lt_trans h.1 h.2,h.2⟩
theorem yf0 (h:BF.Fails asks (nxt rs) (fl rs) p w):BF.Fails asks (nxt rs) (fl rs) (srt p) w:=by
 unfold srt;split
 ·exact zhd h
 ·exact h
theorem yf1 (h:BF.Fails asks (nxt rs) (fl rs) (srt p) w):BF.Fails asks (nxt rs) (fl rs) p w:=by
 unfold srt at h;split at h
 ·exact zhd h
 ·exact h
theorem yf2 (h:BF.Fails asks (nxt rs) (fl rs) p w) (hp:p.1<rs.length/\p.2<rs.length):InP rs (srt p):=by
 have hne:p.1≠p.2:=λe=>by
  have:p=(p.1,p.1):=Prod.ext rfl e.symm
  rw [this] at h
  exact zkg h
 unfold srt InP;split
 ·exact ⟨by assumption,hp.1⟩
 ·exact ⟨by lia,hp.2⟩
theorem zm5 (ok:OkM asks rs) (F:BF.P->Prop) (h1:∀p,InP rs p->f1 asks rs p=true->F p) (h2:∀p q a,InP rs p->a<asks->nxt rs p a=some q->F (srt q)->F p) :
  ∀(w:List Nat) (p:BF.P),InP rs p->BF.Fails asks (nxt rs) (fl rs) p w->F p
 | [],p,_,h=>absurd h BF.fails_ne
 | a :: w,p,hp,h=>by
  rcases BF.fails_inv h with ⟨e,ha,hf⟩|⟨q,ha,hs,hq⟩
  ·exact h1 p hp (f1_iff.mpr (BF.Ds.one.mpr ⟨a,ha,hf⟩))
  ·have hin:=yfr ok hp.both ha hs
   exact h2 p q a hp ha hs (zm5 ok F h1 h2 w (srt q) (yf2 hq hin) (yf0 hq))
theorem zss (h:f1 asks rs p=true):Pt asks rs p:=pt_iff.mpr ⟨1,f1_iff.mp h⟩
theorem yf3 (ha:a<asks) (hs:nxt rs p a=some q) (h:Pt asks rs (srt q)):Pt asks rs p:=by
 obtain ⟨w,h⟩:=h
 exact ⟨a :: w,BF.fails_cons ha hs (yf1 h)⟩
theorem zst (F:D->D) (L:Lo->Prop) (S:Sto) (step:∀x l,x∈xs->L l->Wg (g x l S) λl1 S2=>S2=S/\L l1/\We e l1 S λv S3=>v=F x/\S3=S) :
  ∀(n i:Nat) (l:Lo),n+i=xs.length->L l->∃l',zcy xs g zba e (n+1) i l S=some ((xs.drop i).map F,l',S)/\L l'
 | 0,i,l,hn,h=>by
  refine ⟨l,?_,h⟩
  unfold zcy
  rw [List.getElem?_eq_none_iff.mpr (by lia),List.drop_of_length_le (by lia)];rfl
 | n+1,i,l,hn,h=>by
  have hi:i<xs.length:=by lia
  obtain ⟨l1,S2,e1,rfl,h1,v,S3,e2,rfl,rfl⟩:=step xs[i] l (List.getElem_mem hi) h
  obtain ⟨l',e3,h3⟩:=zst F L S3 step n (i+1) l1 (by lia) h1
  refine ⟨l',?_,h3⟩
  unfold zcy
  rw [qge hi]
  show (g xs[i] l S3).bind _=_
  rw [e1]
  show (e l1 S3).bind _=_
  rw [e2]
  show (zcy xs g zba e (n+1) (i+1) l1 S3).bind _=_
  rw [e3,List.drop_eq_getElem_cons hi];rfl
noncomputable def apR (N i:Nat):List BF.P:=(List.range (N-(i+1))).map λk=>(i,i+1+k)
noncomputable def apL (N:Nat):List BF.P:=(List.range N).flatMap (apR N)
theorem mem_ap:p∈apL N↔p.1<p.2/\p.2<N:=by
 unfold apL apR
 rw [List.mem_flatMap]
 constructor
 ·rintro ⟨i,hi,h⟩
  obtain ⟨k,hk,rfl⟩:=List.mem_map.mp h
  have:=List.mem_range.mp hi
  have:=List.mem_range.mp hk
  exact ⟨by show i<i+1+k;lia,by show i+1+k<N;lia⟩
 ·rintro ⟨h1,h2⟩
  exact ⟨p.1,List.mem_range.mpr (by lia),List.mem_map.mpr ⟨p.2-(p.1+1),List.mem_range.mpr (by lia),Prod.ext rfl (by show p.1+1+(p.2-(p.1+1))=p.2;lia)⟩⟩
theorem ziu (N:Nat):(apL N).length<=N*N:=by
 unfold apL
 rw [List.length_flatMap]
 have:∀l:List Nat,(l.map λi=>(apR N i).length).sum<=l.length*N:=by
  intro l
  induction l with
  | nil=>simp
  | cons i l ih =>
   rw [List.map_cons,List.sum_cons,List.length_cons,Nat.succ_mul]
   have:(apR N i).length<=N:=by unfold apR;simp
   lia
 have:=this (List.range N)
 rwa [List.length_range] at this
noncomputable def yf4 (i:Nat):D->D
 | .int k=>.tup [.int (i:Int),.int k]
 | _=>.non
theorem yf5 (h:as l S=some ([.int a,.int b],S1)) (ha:0<=a/\a<1000) (hb:0<=b/\b<1000):zgw as l S=some ((a,(b-a).toNat),S1):=by
 unfold zgw;rw [h];show (if _ then _ else _)=_;rw [if_pos (by lia)]
theorem yf6 {N i:Nat}(hi:i<N) (hN:N<=24) (x0 x1:Option D):∃l',zcy (zau ((i:Int)+1) (((N:Int)-((i:Int)+1)).toNat)) (zah 1) zba (zaf zbo (zac (zaa 0) (zac (zaa 1) (zae)))) (((N:Int)-((i:Int)+1)).toNat+1) 0 [‹i›,x1,‹N›] S=some ((apR N i).map pD,l',S)/\∃x1,l' = [‹i›,x1,‹N›]:=by
 have sz:=zcb
 have hn:((N:Int)-((i:Int)+1)).toNat=N-(i+1):=by lia
 rw [hn]
 have hl:(zau ((i:Int)+1) (N-(i+1))).length=N-(i+1):=zeg ..
 obtain ⟨l',e,h⟩:=zst (xs:=zau ((i:Int)+1) (N-(i+1))) (g:=zah 1) (e:=zaf zbo (zac (zaa 0) (zac (zaa 1) (zae)))) (yf4 i) (λl=>∃x1,l=[‹i›,x1,‹N›]) S (by
  rintro x l hx ⟨x1,rfl⟩
  obtain ⟨j,hj⟩:=List.mem_iff_getElem?.mp hx
  obtain ⟨hj2,rfl⟩:=zjk hj
  simp only [zat,qs0,qs1]
  refine ⟨by first|rfl|trivial,⟨_,rfl⟩,?_⟩
  simp only [zaz,zaw,zav,zam,qg0,qg1,zaq,zdg,List.length_cons,List.length_nil]
  exact ⟨by lia,by first|rfl|trivial,by first|rfl|trivial⟩) (N-(i+1)) 0 [‹i›,x1,‹N›] (by rw [hl];rfl) ⟨_,rfl⟩
 refine ⟨l',?_,h⟩
 rw [e,List.drop_zero]
 congr 2
 unfold zau apR
 rw [List.map_map,List.map_map]
 refine List.map_congr_left λk _=>?_
 show D.tup [.int (i:Int),.int ((i:Int)+1+(k:Int))]=pD (i,i+1+k)
 unfold pD
 congr 4
theorem step2 {it:ItM}{g:GM}{r:RM}{g2:GM}{e:EM}{n i:Nat}{l l1 l2:Lo}{S S1 S2 S3 S4:Sto}{x:D}{lo:Int}{m:Nat}{us zs:List D}(h1:it i S=some (some x)) (h2:g x l S=some (l1,S1)) (h3:r l1 S1=some ((lo,m),S2)) (h4:zcy (zau lo m) g2 zba e (m+1) 0 l1 S2=some (us,l2,S3)) (h5:zc6 it g zba r g2 zba e n (i+1) l2 S3=some (zs,S4)):zc6 it g zba r g2 zba e (n+1) i l S=some (us++zs,S4):=by
 rw [zc6,h1]
 show (g x l S).bind _=_
 rw [h2]
 show (r l1 S1).bind _=_
 rw [h3]
 show (zcy (zau lo m) g2 zba e (m+1) 0 l1 S2).bind _=_
 rw [h4]
 show (zc6 it g zba r g2 zba e n (i+1) l2 S3).bind _=_
 rw [h5];rfl
theorem zsu {N:Nat}(hN:N<=24):∀(n i:Nat) (l:Lo),n+i=N->(∃x0 x1,l=[x0,x1,‹N›]) ->
  zc6 (itX (zau 0 N)) (zah 0) zba (zgw (zac (eOp zbf (zaa 0) (eC (.int 1))) (zac (zaa 2) (zae)))) (zah 1) zba (zaf zbo (zac (zaa 0) (zac (zaa 1) (zae)))) (n+1) i l S=some ((((List.range N).drop i).flatMap (apR N)).map pD,S)
 | 0,i,l,hn,h=>by
  unfold zc6
  have:(zau 0 N)[i]? = none:=List.getElem?_eq_none_iff.mpr (by rw [zeg];lia)
  show (some ((zau 0 N)[i]?)).bind _=_
  rw [this,List.drop_of_length_le (by rw [List.length_range];lia)];rfl
 | n+1,i,l,hn,h=>by
  obtain ⟨x0,x1,rfl⟩:=h
  have hi:i<N:=by lia
  have e0:(zau 0 N)[i]? = some (.int (i:Int)):=by
   unfold zau;rw [qgm,List.getElem?_range hi];show some (D.int (0+(i:Int)))=_;rw [Int.zero_add]
  obtain ⟨l',e1,y1,rfl⟩:=yf6 (S:=S) hi hN x0 x1
  have ih:=zsu hN (S:=S) n (i+1) [‹i›,y1,‹N›] (by lia) ⟨_,_,rfl⟩
  have er:zgw (zac (eOp zbf (zaa 0) (eC (.int 1))) (zac (zaa 2) (zae))) [‹i›,x1,‹N›] S=some (((i:Int)+1,((N:Int)-((i:Int)+1)).toNat),S):=yf5 (S1:=S) (a:=(i:Int)+1) (b:=(N:Int)) rfl (by lia) (by lia)
  have hd:(List.range N).drop i=i :: (List.range N).drop (i+1):=by
   rw [List.drop_eq_getElem_cons (by rw [List.length_range];exact hi)];simp
  rw [hd,List.flatMap_cons,List.map_append]
  exact step2 (x:=.int (i:Int)) (by show some ((zau 0 N)[i]?)=_;rw [e0]) rfl er e1 ih
theorem zsv (h:OkM asks rs):zdx [mD asks rs] S=some (.ref S.length,S++[.lst ((apL rs.length).map pD)]):=by
 have sz:=zcb
 have r24:=h.r24
 suffices Wo (zdx [mD asks rs] S) λv S'=>v=.ref S.length/\S' = S++[.lst ((apL rs.length).map pD)] by
  obtain ⟨v,S',e,rfl,rfl⟩:=this
  exact e
 unfold zdx zr1
 dsimp! only [zb1]
 refine zbm (l':=[some (mD asks rs),some (.int (rs.length:Int))]) (S':=S) ?_ ?_
 ·unfold mD
  simp! only [qlm,and_self]
 rw [zcg]
 refine ⟨_,_,?_,rfl,rfl⟩
 have him:zed (zbi (zac (zaa 1) (zae))) [some (mD asks rs),some (.int (rs.length:Int))] S=some (itX (zau 0 rs.length),(zau 0 rs.length).length+1,S):=zj4 rfl (by lia)
 unfold zjy
 rw [him,zeg]
 show (zc6 _ _ _ _ _ _ _ (rs.length+1) 0 [none,none,some (.int (rs.length:Int))] S).bind _=_
 rw [zsu r24 rs.length 0 [none,none,some (.int (rs.length:Int))] rfl ⟨_,_,rfl⟩,List.drop_zero]
 show (if ((apL rs.length).map pD).length<=sizeLine then _ else _)=_
 have:=ziu rs.length
 have h2:rs.length*rs.length<=24*24:=Nat.mul_le_mul r24 r24
 rw [if_pos (by rw [qlm];lia)]
 rfl
noncomputable def onF (asks:Nat) (rs:List (List Cl)):D->Option D
 | .tup [.int a,.int b]=>if f1 asks rs (a.toNat,b.toNat)=true then some (.tup [.int a,.int b]) else none
 | _=>none
theorem zkh (p:BF.P):onF asks rs (pD p)=if f1 asks rs p=true then some (pD p) else none:=rfl
theorem yf7 (ps:List BF.P):(ps.map pD).filterMap (onF asks rs)=(ps.filter (f1 asks rs)).map pD:=by
 induction ps with
 | nil=>rfl
 | cons p ps ih =>
  rw [List.map_cons]
  by_cases c:f1 asks rs p=true
  ·rw [List.filterMap_cons_some (by rw [zkh,if_pos c]),List.filter_cons_of_pos c,List.map_cons,ih]
  ·rw [List.filterMap_cons_none (by rw [zkh,if_neg c]),List.filter_cons_of_neg c,ih]
theorem yf8 (h:OkM asks rs) (hp:p.1<rs.length/\p.2<rs.length) (q:∀S2,Gr S S2->QB (f1 asks rs p) S2) :
  Wt (tE (zaf zf1 (zac (zb6 (zed (zbi (zac (zaa 2) (zae)))) [none,some 3,some 0,some 1] (zah 0) (zba) (zaf zgg (zac (eOp zai (eOp zai (zaa 1) (zaa 2)) (zaa 0)) (zac (eOp zai (eOp zai (zaa 1) (zaa 3)) (zaa 0)) (zae))))) (zae)))) [some (.int (p.1:Int)),some (.int (p.2:Int)),‹asks›,some (.tup (rs.map rD))] S QB:=by
 have sz:=zcb
 have ha4:=h.a4
 simp only [zb0,zaz,zaw,zav]
 refine yea (zau 0 asks) (flF rs p) (λT=>Gr S T) (λl=>∃x0,l=[x0,some (.tup (rs.map rD)),some (.int (p.1:Int)),some (.int (p.2:Int))]) (zj4 (n:=asks) rfl (by lia)) (Gr.refl S) ⟨none,rfl⟩ (λi T _=>rfl) (by rw [zeg];lia) ?_ ?_
 ·rintro x l T hx ⟨x0,rfl⟩ hT
  obtain ⟨a,ha,rfl⟩:=yfx hx
  simp only [zat,qs0]
  refine ⟨hT,⟨_,rfl⟩,?_⟩
  simp only [zaz,zaw,zav,za9,zam,qg0,qg1,zaq]
  rw [zkc h hp.1 ha,zkc h hp.2 ha]
  exact ⟨_,_,yfv _ _ _,rfl,hT⟩
 ·intro T hT
  rw [zrh]
  refine ⟨_,zdj,?_,?_⟩
  ·rw [zsp,List.all_map,List.all_eq_true]
   intro a _;rfl
  ·refine ⟨f1 asks rs p,?_,q _ (hT.push _)⟩
   rw [zsp,List.any_map]
   rfl
theorem zsw (h:l[i]? = some (some x)) (hf:f [x] S=some r):zaf f (zac (zaa i) (zae)) l S=some r:=by
 unfold zaf zac zaa;rw [h];exact hf
theorem yf9 (h:OkM asks rs):Wo (zil [mD asks rs] S) λv S'=>∃m,v=.ref m/\S'[m]? = some (.lst (((apL rs.length).filter (f1 asks rs)).map pD))/\Gr S S'/\S.length<=m:=by
 have sz:=zcb
 have r24:=h.r24
 unfold zil zr5
 dsimp! only [zb1]
 refine zbm (l':=[some (mD asks rs),‹asks›,some (.tup (rs.map rD))]) (S':=S) ?_ ?_
 ·unfold mD
  simp! only [and_self]
 rw [zcg]
 have him:zcp (zaf zdx (zac (zaa 0) (zae))) [some (mD asks rs),‹asks›,some (.tup (rs.map rD))] S=some (itL S.length,((apL rs.length).map pD).length+1,S++[.lst ((apL rs.length).map pD)]):=zj5 (zsw rfl (zsv h)) zdj
 have hlen:=ziu rs.length
 have h2:rs.length*rs.length<=24*24:=Nat.mul_le_mul r24 r24
 refine zri ((apL rs.length).map pD) (onF asks rs) (λT=>Gr (S++[.lst ((apL rs.length).map pD)]) T) (λl=>∃x0 x1,l=[x0,x1,‹asks›,some (.tup (rs.map rD))]) him (Gr.refl _) ⟨none,none,rfl⟩ (λi T g=>zie (g.lst zdj)) (by rw [qlm];lia) ?_ ?_
 ·rintro x l T hx ⟨x0,x1,rfl⟩ hT
  obtain ⟨p,hp,rfl⟩:=List.mem_map.mp hx
  have hp':=mem_ap.mp hp
  unfold pD
  simp only [zfv,zfx,zfw,zat,List.length_cons,List.length_nil,qs0,qs1]
  refine ⟨by first|rfl|trivial,⟨_,_,rfl⟩,?_⟩
  refine yf8 h ⟨by lia,hp'.2⟩ λS2 g2=>⟨hT.trans g2,λhb=>?_,λhb=>?_⟩
  ·rw [show D.tup [.int (p.1:Int),.int (p.2:Int)]=pD p from rfl,zkh,hb];rfl
  ·simp only [zaz,zaw,zav,zam,qg0,qg1,zaq,zdg,List.length_cons,List.length_nil]
   refine ⟨by lia,?_,hT.trans g2⟩
   rw [show D.tup [.int (p.1:Int),.int (p.2:Int)]=pD p from rfl,zkh,hb];rfl
 ·intro T hT
  rw [yf7]
  have:=hT.len
  exact ⟨_,rfl,zce,Gr.trans (B:=S++[.lst ((apL rs.length).map pD)]) ⟨_,rfl⟩ (hT.trans ⟨_,rfl⟩),by simp at this;lia⟩
theorem yga:Wo (zh8 [.tup [.int i,.int j]] S) Q=Q (.int (if j<i then j else i)) S:=zbl
theorem ygb:Wo (zh9 [.tup [.int i,.int j]] S) Q=Q (.int (if j > i then j else i)) S:=zbl
theorem ygc (q:BF.P):D.tup [.int (if (q.2:Int)<(q.1:Int) then (q.2:Int) else (q.1:Int)),.int (if (q.2:Int) > (q.1:Int) then (q.2:Int) else (q.1:Int))]=pD (srt q):=by
 unfold srt
 by_cases c:q.2<q.1
 ·rw [if_pos (by lia),if_neg (by lia),if_pos c];rfl
 ·rw [if_neg (by lia),if_neg c]
  by_cases c2:q.2 > q.1
  ·rw [if_pos (by lia)];rfl
  ·rw [if_neg (by lia)]
   have:q.1=q.2:=by lia
   unfold pD;rw [<-this]
theorem ygd (h1:o l S=some (.ref n,S1)) (hd:isDc S1 (.ref n)=some ()) (h2:e l S1=some (y,S2)) (h3:f l S2=some (z,S3)) (hn:S3[n]? = some (.tdct kvs)) (hk:zc5 y=some k) (hz:kvs.length<sizeLine) (hg:za8 kvs k=some v) (q:Q v S3):We (zf7 o e f) l S Q:=by
 refine ⟨_,_,?_,q⟩
 unfold zf7
 rw [h1]
 show (isDc S1 (.ref n)).bind _=_
 rw [hd]
 show (e l S1).bind _=_
 rw [h2]
 show (f l S2).bind _=_
 rw [h3]
 dsimp only [Option.bind_some]
 rw [hn]
 dsimp only
 rw [hk]
 show (if _ then _ else _)=_
 rw [if_pos hz,hg]
theorem yge (h1:o l S=some (.ref n,S1)) (hd:isDc S1 (.ref n)=some ()) (h2:e l S1=some (y,S2)) (h3:f l S2=some (z,S3)) (hn:S3[n]? = some (.tdct kvs)) (hk:zc5 y=some k) (hz:kvs.length<sizeLine) (hg:za8 kvs k=none) (q:Q z (S3.set n (.tdct (zcd kvs k z)))):We (zf7 o e f) l S Q:=by
 refine ⟨_,_,?_,q⟩
 unfold zf7
 rw [h1]
 show (isDc S1 (.ref n)).bind _=_
 rw [hd]
 show (e l S1).bind _=_
 rw [h2]
 show (f l S2).bind _=_
 rw [h3]
 dsimp only [Option.bind_some]
 rw [hn]
 dsimp only
 rw [hk]
 show (if _ then _ else _)=_
 rw [if_pos hz,hg]
structure Sr (Q:BF.P->BF.P->Prop) (nd np b c:Nat) (kvs:Tb) (S:Sto):Prop where
 no:∀k,za8 kvs (pK k)=none->∀p,¬Q p k
 yes:∀k v,za8 kvs (pK k)=some v->∃(m:Nat) (ps:List BF.P),v=.ref m/\S[m]? = some (.lst (ps.map pD))/\(∀p,p∈ps↔Q p k)/\ps.length<=c/\m≠nd/\m≠np/\b<=m
 inj:∀k k' m,za8 kvs (pK k)=some (.ref m)->za8 kvs (pK k')=some (.ref m)->k=k'
theorem Sr.congr (h:Sr Q nd np b c kvs S) (e:∀p k,Q p k↔Q' p k):Sr Q' nd np b c kvs S :=
 ⟨λk hk p hq=>h.no k hk p ((e p k).mpr hq),λk v hk=>by
  obtain ⟨m,ps,h1,h2,h3,h4⟩:=h.yes k v hk
  exact ⟨m,ps,h1,h2,λp=>(h3 p).trans (e p k),h4⟩,h.inj⟩
theorem Sr.mono (h:Sr Q nd np b c kvs S) (e:c<=d):Sr Q nd np b d kvs S :=
 ⟨h.no,λk v hk=>by
  obtain ⟨m,ps,h1,h2,h3,h4,h5⟩:=h.yes k v hk
  exact ⟨m,ps,h1,h2,h3,by lia,h5⟩,h.inj⟩
theorem ygf (h:Sr Q nd np b c kvs S) (h3:l[3]? = some (some (.ref nd))) (h8:l[8]? = some (some (pD k))) (h4:l[4]? = some (some (.int (p.1:Int)))) (h5:l[5]? = some (some (.int (p.2:Int)))) (hnd:S[nd]? = some (.tdct kvs)) (hkl:kvs.length<100000) (hc:c<100000) (g:Gr S0 S) (hb:b=S0.length) (hbd:b<=nd) (hnp:np<S.length) (hnn:nd≠np)
  (q:∀v kvs' S',S'[nd]? = some (.tdct kvs')->kvs'.length<=kvs.length+1->(∀o,S[np]? = some o->S'[np]? = some o)->Gr S0 S'->Sr (λp' k'=>Q p' k'\/(p' = p/\k' = k)) nd np b (c+1) kvs' S'->QS v S') :
  We (zb5 zct (zf7 (zaa 3) (zaa 8) (zaf zcn (zae))) (zac (zaf zbo (zac (zaa 4) (zac (zaa 5) (zae)))) zae)) l S QS:=by
 have sz:=zcb
 have v3:zaa 3 l S=some (.ref nd,S):=by unfold zaa;rw [h3]
 have v8:zaa 8 l S=some (pD k,S):=by unfold zaa;rw [h8]
 have vl:zaf zcn zae l S=some (.ref S.length,S++[.lst []]):=rfl
 have hdl:nd<S.length:=(qme hnd).1
 have hnd2:(S++[.lst []])[nd]? = some (.tdct kvs):=zb8 hnd
 have tup:∀(T:Sto) (R:List D->Sto->Prop),R [pD p] T->Wa (zac (zaf zbo (zac (zaa 4) (zac (zaa 5) (zae)))) zae) l T R:=λT R hR=>by
  simp only [zaw,zav,zaz,zam,h4,h5,zaq,zdg,List.length_cons,List.length_nil]
  exact ⟨by lia,hR⟩
 rw [zdu]
 cases hg:za8 kvs (pK k) with
 | some v =>
  obtain ⟨m,ps,rfl,hm,hps,hpl,m1,m2,m3⟩:=h.yes k v hg
  have hml:m<S.length:=(qme hm).1
  have hm2:(S++[.lst []])[m]? = some (.lst (ps.map pD)):=zb8 hm
  refine ygd v3 (zm0 hnd) v8 vl hnd2 (zgi k) (by lia) hg ⟨⟨_,zd4 hm2⟩,tup _ _ ?_⟩
  rw [zg9 hm2 (by rw [qlm];lia)]
  refine q _ kvs _ (zcf hnd2 m1) (by lia) (λo ho=>zcf (zb8 ho) m2) ((g.trans ⟨_,rfl⟩).set (by lia) _) ⟨λk' hk' p'=>?_,λk' v hk'=>?_,h.inj⟩
  ·rintro (z|⟨_,z⟩)
   ·exact h.no k' hk' p' z
   ·rw [z,hg] at hk';cases hk'
  ·by_cases e:k' = k
   ·subst e
    rw [hg] at hk';cases hk'
    refine ⟨m,ps++[p],rfl,by rw [zg8 hm2];simp,λp'=>?_,by simp;lia,m1,m2,m3⟩
    rw [List.mem_append,hps]
    simp
   ·obtain ⟨m',ps',e1,e2,e3,e4,e5⟩:=h.yes k' v hk'
    subst e1
    have:m≠m':=λz=>e (h.inj k' k m' hk' (by rw [hg,z]))
    refine ⟨m',ps',rfl,zcf (zb8 e2) this,λp'=>?_,by lia,e5⟩
    rw [e3]
    exact ⟨.inl,λz=>z.elim id λz=>absurd z.2 e⟩
 | none =>
  have hpl:=zqi kvs (pK k) (.ref S.length)
  have hnS:S.length≠nd:=by lia
  have hS:((S++[Ob.lst []]).set nd (.tdct (zcd kvs (pK k) (.ref S.length))))[S.length]? = some (.lst []):=zcf zce (Ne.symm hnS)
  refine yge v3 (zm0 hnd) v8 vl hnd2 (zgi k) (by lia) hg ⟨⟨_,zd4 hS⟩,tup _ _ ?_⟩
  rw [zg9 hS (by simp;lia)]
  have gl:=g.len
  refine q _ (zcd kvs (pK k) (.ref S.length)) _ (zcf (zg8 hnd2) hnS) hpl (λo ho=>zcf (zcf (zb8 ho) hnn) (by lia)) (((g.trans ⟨_,rfl⟩).set (by lia) _).set (by lia) _) ⟨λk' hk' p'=>?_,λk' v hk'=>?_,λk1 k2 m e1 e2=>?_⟩
  ·rw [zm4] at hk'
   by_cases e:pK k' = pK k
   ·rw [if_pos e] at hk';cases hk'
   ·rw [if_neg e] at hk'
    rintro (z|⟨_,z⟩)
    ·exact h.no k' hk' p' z
    ·exact e (by rw [z])
  ·rw [zm4] at hk'
   by_cases e:pK k' = pK k
   ·rw [if_pos e] at hk';cases hk'
    have ek:=zkf e
    subst ek
    refine ⟨S.length,[p],rfl,by rw [zg8 hS];rfl,λp'=>?_,by simp,hnS,by lia,by lia⟩
    have:=h.no k' hg p'
    simp [this]
   ·rw [if_neg e] at hk'
    obtain ⟨m',ps',e1,e2,e3,e4,e5,e6,e7⟩:=h.yes k' v hk'
    have hml:m' < S.length:=(qme e2).1
    refine ⟨m',ps',e1,zcf (zcf (zb8 e2) (Ne.symm e5)) (by lia),λp'=>?_,by lia,e5,e6,e7⟩
    rw [e3]
    exact ⟨.inl,λz=>z.elim id λz=>absurd (by rw [z.2]) e⟩
  ·have fresh:∀k',za8 kvs (pK k')≠some (.ref S.length):=λk' z=>by
    obtain ⟨m',ps',e1,e2,_⟩:=h.yes k' _ z
    cases e1
    have:=(qme e2).1
    lia
   rw [zm4] at e1 e2
   by_cases c1:pK k1=pK k
   ·by_cases c2:pK k2=pK k
    ·rw [zkf c1,zkf c2]
    ·rw [if_pos c1] at e1;cases e1
     rw [if_neg c2] at e2
     exact absurd e2 (fresh k2)
   ·rw [if_neg c1] at e1
    by_cases c2:pK k2=pK k
    ·rw [if_pos c2] at e2;cases e2
     exact absurd e1 (fresh k1)
    ·rw [if_neg c2] at e2
     exact h.inj k1 k2 m e1 e2
def Ld (rs:List (List Cl)) (j:Nat) (p k:BF.P):Prop:=∃a q,a<j/\nxt rs p a=some q/\srt q=k
theorem Ld.succ_some (h:nxt rs p j=some q):Ld rs (j+1) p k↔(Ld rs j p k\/srt q=k):=by
 constructor
 ·rintro ⟨a,q',h1,h2,h3⟩
  by_cases e:a=j
  ·subst e;rw [h] at h2;cases h2;exact .inr h3
  ·exact .inl ⟨a,q',by lia,h2,h3⟩
 ·rintro (⟨a,q',h1,h2,h3⟩|h3)
  ·exact ⟨a,q',by lia,h2,h3⟩
  ·exact ⟨j,q,by lia,h,h3⟩
theorem Ld.succ_none (h:nxt rs p j=none):Ld rs (j+1) p k↔Ld rs j p k:=by
 constructor
 ·rintro ⟨a,q',h1,h2,h3⟩
  by_cases e:a=j
  ·subst e;rw [h] at h2;cases h2
  ·exact ⟨a,q',by lia,h2,h3⟩
 ·rintro ⟨a,q',h1,h2,h3⟩
  exact ⟨a,q',by lia,h2,h3⟩
theorem ygg (h:OkM asks rs):Wo (zik [mD asks rs] S) λv S'=>∃nd np c kvs,v=.ref nd/\S'[nd]? = some (.tdct kvs)/\Gr S S'/\S.length<=nd/\Sr (λp k=>InP rs p/\Ld rs asks p k) nd np S.length c kvs S':=by
 have sz:=zcb
 have r24:=h.r24
 have a4:=h.a4
 have hlen:=ziu rs.length
 have h2:rs.length*rs.length<=24*24:=Nat.mul_le_mul r24 r24
 unfold zik zr2
 dsimp! only [zb1]
 refine zbm (l':=[some (mD asks rs),‹asks›,some (.tup (rs.map rD)),none,none,none,none,none,none]) (S':=S) ?_ ?_
 ·unfold mD
  simp! only [and_self]
 refine zbm (l':=[some (mD asks rs),‹asks›,some (.tup (rs.map rD)),some (.ref S.length),none,none,none,none,none]) (S':=S++[.tdct []]) (by simp! only [and_self]) ?_
 obtain ⟨nd,hnd⟩:∃nd,nd=S.length:=⟨_,rfl⟩
 obtain ⟨np,hnp⟩:∃np,np=S.length+1:=⟨_,rfl⟩
 have hcall:zaf zdx (zac (zaa 0) (zae)) [some (mD asks rs),‹asks›,some (.tup (rs.map rD)),some (.ref S.length),none,none,none,none,none] (S++[.tdct []])=some (.ref np,S++[.tdct []]++[.lst ((apL rs.length).map pD)]):=by
  have:=zsw (f:=zdx) (i:=0) (l:=[some (mD asks rs),‹asks›,some (.tup (rs.map rD)),some (.ref S.length),none,none,none,none,none]) rfl (zsv (S:=S++[.tdct []]) h)
  rw [this];simp [hnp]
 have e0:(S++[.tdct []]++[.lst ((apL rs.length).map pD)])[nd]? = some (.tdct []):=by rw [hnd];exact zb8 zce
 have e1:(S++[.tdct []]++[.lst ((apL rs.length).map pD)])[np]? = some (.lst ((apL rs.length).map pD)):=by
  have:(S++[Ob.tdct []]).length=np:=by simp [hnp]
  rw [<-this];exact zce
 rw [<-hnd] at hcall ⊢
 refine za3 (λl S'=>∃x4 x5 x6 x7 x8 kvs c,l=[some (mD asks rs),‹asks›,some (.tup (rs.map rD)),~~~nd,x4,x5,x6,x7,x8]/\S'[nd]? = some (.tdct kvs)/\Gr S S'/\Sr (λp k=>InP rs p/\Ld rs asks p k) nd np S.length c kvs S') ?_ ?_
 ·refine zj8 (n:=np) ((apL rs.length).map pD) (λi l S'=>∃x4 x5 x6 x7 x8 kvs,l=[some (mD asks rs),‹asks›,some (.tup (rs.map rD)),~~~nd,x4,x5,x6,x7,x8]/\S'[nd]? = some (.tdct kvs)/\S'[np]? = some (.lst ((apL rs.length).map pD))/\Gr S S'/\kvs.length<=4*i/\Sr (λp k=>p∈(apL rs.length).take i/\Ld rs asks p k) nd np S.length (4*i) kvs S') (λ_ _=>False) hcall
   ⟨_,_,_,_,_,[],rfl,e0,e1,⟨[.tdct [],.lst ((apL rs.length).map pD)],by simp⟩,Nat.zero_le _,⟨λk _ p hq=>(by simp at hq),λk v hk=>(by cases hk),λk k' m hk=>(by cases hk)⟩⟩ (λi l S' ⟨_,_,_,_,_,_,_,_,hp,_⟩=>zig hp) ?_ ?_ (λd l' S' z=>z.elim)
  ·rintro i x l S3 hx ⟨x4,x5,x6,x7,x8,kvs,rfl,hd3,hp3,g3,hk3,sr⟩
   rw [qgm] at hx
   obtain ⟨p,hp,rfl⟩:=Option.map_eq_some_iff.mp hx
   have hpm:=mem_ap.mp (qmg hp)
   have hpi:p.1<rs.length/\p.2<rs.length:=⟨by lia,hpm.2⟩
   have hi:i<(apL rs.length).length:=(qme hp).1
   unfold pD
   simp only [zfv,zfx,zfw,zat,List.length_cons,List.length_nil,qs0,qs1]
   refine ⟨by first|rfl|trivial,?_⟩
   refine ze5 (λj l S'=>∃x6 x7 x8 kvs,l=[some (mD asks rs),‹asks›,some (.tup (rs.map rD)),~~~nd,some (.int (p.1:Int)),some (.int (p.2:Int)),x6,x7,x8]/\S'[nd]? = some (.tdct kvs)/\S'[np]? = some (.lst ((apL rs.length).map pD))/\Gr S S'/\kvs.length<=4*i+j/\Sr (λp' k=>(p'∈(apL rs.length).take i/\Ld rs asks p' k)\/(p' = p/\Ld rs j p' k)) nd np S.length (4*i+j) kvs S') (λ_ _=>False) (n:=asks) rfl (by lia)
    ⟨_,_,_,kvs,rfl,hd3,hp3,g3,by lia,sr.congr λp' k=>⟨.inl,λz=>z.elim id λz=>(by obtain ⟨_,a,q,h1,_⟩:=z;lia)⟩⟩ ?_ ?_ (λd l' S' z=>z.elim)
   ·rintro j l S4 hj ⟨x6,x7,x8,kvs,rfl,hd4,hp4,g4,hk4,sr⟩
    simp only [zat,qs0,qs1]
    obtain ⟨cs1,c1,c2⟩:=zso h hpi.1 hj
    obtain ⟨cs2,c3,c4⟩:=zso h hpi.2 hj
    refine zbm (l':=[some (mD asks rs),‹asks›,some (.tup (rs.map rD)),~~~nd,some (.int (p.1:Int)),some (.int (p.2:Int)),‹j›,some (.tup [oD (cell rs p.1 j).1,oD (cell rs p.2 j).1]),x8]) (S':=S4) ?_ ?_
    ·simp! only [c1,c2,c3,c4]
     exact ⟨by lia,nofun,nofun⟩
    refine zck (λb S'=>b=(both (cell rs p.1 j).1 (cell rs p.2 j).1).isSome/\S' = S4) ?_ ?_ ?_
    ·simp only [zb0,za9,za6,zam,qg0,qg1,zaq,zm3,if_true,zch]
     exact ⟨nofun,nofun⟩
    ·rintro S' ⟨hb,rfl⟩
     obtain ⟨q,hq⟩:=Option.isSome_iff_exists.mp hb.symm
     have hn:nxt rs p j=some q:=hq
     rw [yfw hq]
     refine zbm (l':=[some (mD asks rs),‹asks›,some (.tup (rs.map rD)),~~~nd,some (.int (p.1:Int)),some (.int (p.2:Int)),‹j›,some (pD q),some (pD (srt q))]) (S':=S') ?_ ?_
     ·simp only [zbj,zaz,zaw,zav,zam,qg0,qg1,zaq]
      unfold pD
      simp only [yga,ygb,zdg,List.length_cons,List.length_nil,zat,qs0,qs1]
      refine ⟨by lia,nofun,?_,nofun⟩
      rw [ygc];rfl
     rw [zev]
     refine ygf (p:=p) (k:=srt q) (S0:=S) sr rfl rfl rfl rfl hd4 (by lia) (by lia) g4 rfl (by lia) (qme hp4).1 (by lia) λv kvs' S7 h7 hk7 hp7 g7 sr7=>?_
     refine .inl ⟨(by first|exact .inl rfl|exact .inl trivial|trivial),_,_,_,kvs',rfl,h7,hp7 _ hp4,g7,by lia,(sr7.congr λp' k=>?_).mono (by lia)⟩
     constructor
     ·rintro ((z|⟨z1,z2⟩)|⟨z1,z2⟩)
      ·exact .inl z
      ·exact .inr ⟨z1,by rw [z1] at z2 ⊢;exact (Ld.succ_some hn).mpr (.inl z2)⟩
      ·exact .inr ⟨z1,by rw [z1];exact (Ld.succ_some hn).mpr (.inr z2.symm)⟩
     ·rintro (z|⟨z1,z2⟩)
      ·exact .inl (.inl z)
      ·rw [z1] at z2
       rcases (Ld.succ_some hn).mp z2 with z|z
       ·exact .inl (.inr ⟨z1,by rw [z1];exact z⟩)
       ·exact .inr ⟨z1,z.symm⟩
    ·rintro S' ⟨hb,rfl⟩
     have hn:nxt rs p j=none:=by
      cases e:both (cell rs p.1 j).1 (cell rs p.2 j).1 with
      | none=>exact e
      | some q=>rw [e] at hb;cases hb
     rw [zcj]
     refine .inl ⟨.inl rfl,_,_,_,kvs,rfl,hd4,hp4,g4,by lia,(sr.congr λp' k=>?_).mono (by lia)⟩
     constructor
     ·rintro (z|⟨z1,z2⟩)
      ·exact .inl z
      ·exact .inr ⟨z1,by rw [z1] at z2 ⊢;exact (Ld.succ_none hn).mpr z2⟩
     ·rintro (z|⟨z1,z2⟩)
      ·exact .inl z
      ·exact .inr ⟨z1,by rw [z1] at z2 ⊢;exact (Ld.succ_none hn).mp z2⟩
   ·rintro l' S' ⟨x6,x7,x8,kvs,rfl,hd4,hp4,g4,hk4,sr⟩
    refine .inl ⟨.inl rfl,_,_,_,_,_,kvs,rfl,hd4,hp4,g4,by lia,(sr.congr λp' k=>?_).mono (by lia)⟩
    rw [List.take_add_one,hp,List.mem_append]
    constructor
    ·rintro (⟨z1,z2⟩|⟨z1,z2⟩)
     ·exact ⟨.inl z1,z2⟩
     ·exact ⟨.inr (by simp [z1]),z2⟩
    ·rintro ⟨z1|z1,z2⟩
     ·exact .inl ⟨z1,z2⟩
     ·exact .inr ⟨by simpa using z1,z2⟩
  ·rintro l' S' ⟨x4,x5,x6,x7,x8,kvs,rfl,hd4,hp4,g4,hk4,sr⟩
   refine ⟨rfl,_,_,_,_,_,kvs,_,rfl,hd4,g4,sr.congr λp k=>?_⟩
   rw [qlm,List.take_length]
   exact ⟨λz=>⟨mem_ap.mp z.1,z.2⟩,λz=>⟨mem_ap.mpr z.1,z.2⟩⟩
 rintro l S3 ⟨x4,x5,x6,x7,x8,kvs,c,rfl,hd3,g3,sr⟩
 simp! only [zam]
 subst hnd
 exact ⟨_,_,c,kvs,rfl,hd3,g3,qlr _,sr⟩
noncomputable def fT (F:List BF.P):Tb:=F.map λp=>(pK p,D.bl true)
theorem zsx (F:List BF.P) (p:BF.P):((fT F).any λkv=>decide (kv.1=pK p))=decide (p∈F):=by
 rw [Bool.eq_iff_iff,List.any_eq_true,decide_eq_true_eq]
 constructor
 ·rintro ⟨kv,h1,h2⟩
  obtain ⟨q,hq,rfl⟩:=List.mem_map.mp h1
  rw [<-zkf (of_decide_eq_true h2)];exact hq
 ·exact λh=>⟨_,List.mem_map.mpr ⟨p,h,rfl⟩,decide_eq_true rfl⟩
theorem zsy (F:List BF.P) (p:BF.P):(za8 (fT F) (pK p)).isSome=decide (p∈F):=by
 rw [<-zsx]
 unfold za8
 rw [Option.isSome_map,Bool.eq_iff_iff,List.find?_isSome,List.any_eq_true]
theorem zsz (h:p ∉ F):zcd (fT F) (pK p) (.bl true)=fT (F++[p]):=by
 unfold zcd
 rw [zsx,if_neg (by simpa using h)]
 unfold fT;rw [List.map_append];rfl
theorem ygh (F:List BF.P):(fT F).length=F.length:=qlm _
noncomputable def prT (p:BF.P):D:=.tup [pD p,.bl true]
theorem zs0:∀(W F:List BF.P),(F++W).Nodup->zg3 (W.map prT) (fT F)=some (fT (F++W))
 | [],F,_=>by rw [List.append_nil];rfl
 | p :: W,F,nd=>by
  have hn:p ∉ F:=λh=>by
   have:=(List.nodup_append.mp nd).2.2 p h p (List.mem_cons_self ..)
   exact this rfl
  show (zc5 (pD p)).bind _=_
  rw [zgi]
  show zg3 (W.map prT) (zcd (fT F) (pK p) (.bl true))=_
  rw [zsz hn,zs0 W (F++[p]) (by simpa using nd)]
  simp
theorem ygi (h:l[1]? = some (some (.ref n))) (hn:S[n]? = some (.lst (W.map pD))) (nd:W.Nodup) (hl:W.length<=1000) (q:Q (.ref S.length) (S++[.tdct (fT W)])) :
  We (zh7 (zcp (zaa 1)) [none] (zah 0) (zba) (zaa 0) (eC (.bl true))) l S Q:=by
 have sz:=zcb
 have hv:zaa 1 l S=some (.ref n,S):=by unfold zaa;rw [h]
 have hls:=zig hn
 obtain ⟨ys,S',e,q1,q2⟩:∃ys S',zbx (itL n) (zah 0) zba (zf4 (zaa 0) (eC (.bl true))) ((W.map pD).length+1) 0 [none] S=some (ys,S')/\ys=W.map prT/\S' = S:=by
  obtain ⟨ys,S',l',e,h1,h2,_⟩:=zic (it:=itL n) (g:=zah 0) (t:=zba) (e:=zf4 (zaa 0) (eC (.bl true))) (W.map pD) (λi acc l S'=>acc=(W.map prT).take i/\S' = S/\∃x,l=[x]) (λi acc l S' hx1_=>by obtain ⟨_,h,_⟩:=hx1_;subst h;exact zie hls) (by
   rintro i x acc l S' hx ⟨rfl,rfl,u,rfl⟩
   rw [qgm] at hx
   obtain ⟨p,hp,rfl⟩:=Option.map_eq_some_iff.mp hx
   simp only [zat,qs0]
   rw [zhx,if_pos rfl]
   refine ⟨prT p,S',rfl,?_,rfl,_,rfl⟩
   rw [List.take_add_one,qgm,hp];rfl) (W.map pD).length 0 [] [none] S rfl ⟨rfl,rfl,_,rfl⟩
  rw [List.nil_append] at h1
  have:(W.map prT).take (W.map pD).length=W.map prT:=List.take_of_length_le (by simp)
  rw [this] at h1
  exact ⟨ys,S',e,h1,h2⟩
 subst q1 q2
 refine ⟨_,_,?_,q⟩
 unfold zh7
 rw [zj5 hv hls]
 show (zbx (itL n) _ zba (zf4 (zaa 0) (eC (.bl true))) ((W.map pD).length+1) 0 [none] S').bind _=_
 rw [e]
 show (if (W.map prT).length<=sizeLine then _ else _)=_
 have hf:=zs0 W [] (by simpa using nd)
 rw [List.nil_append] at hf
 rw [if_pos (by rw [qlm];lia),show ([]:Tb)=fT [] from rfl,hf]
 rfl
theorem ygj (h:l[i]? = some (some (.ref n))) (hn:S[n]? = some (.lst xs)) (q:QB (!xs.isEmpty) S):Wt (tL (zaa i)) l S QB:=by
 refine ⟨_,_,?_,q⟩
 unfold tL zaa
 rw [h]
 show (lstOf S n).bind _=_
 rw [zig hn];rfl
theorem ygk (hn:S[n]? = some (.lst (xs++[x]))) (q:Q x (S.set n (.lst xs))):Wo (zfm (.ref n) [] S) Q:=by
 refine ⟨_,_,?_,q⟩
 unfold zfm
 dsimp only
 rw [hn]
 simp
theorem zs1 (N:Nat):(apL N).Nodup:=by
 unfold apL
 have:∀(l:List Nat),l.Nodup->(l.flatMap (apR N)).Nodup:=by
  intro l
  induction l with
  | nil=>intro _;exact List.nodup_nil
  | cons i l ih =>
   intro nd
   have nd':=List.nodup_cons.mp nd
   rw [List.flatMap_cons,List.nodup_append]
   refine ⟨?_,ih nd'.2,?_⟩
   ·unfold apR
    refine List.Pairwise.map _ ?_ (List.nodup_range (n:=N-(i+1)))
    intro a b hab e
    exact hab (by have:=congrArg Prod.snd e;simp at this;lia)
   ·intro a ha b hb e
    subst e
    obtain ⟨j,hj,h2⟩:=List.mem_flatMap.mp hb
    have e1:a.1=i:=by obtain ⟨k,_,rfl⟩:=List.mem_map.mp ha;rfl
    have e2:a.1=j:=by obtain ⟨k,_,rfl⟩:=List.mem_map.mp h2;rfl
    exact nd'.1 (by rw [<-e1,e2];exact hj)
 exact this _ List.nodup_range
structure Pd (asks:Nat) (rs:List (List Cl)) (E:BF.P->Prop) (W F:List BF.P):Prop where
 nd:F.Nodup
 pt:∀p∈F,InP rs p/\Pt asks rs p
 once:∀p,InP rs p->f1 asks rs p=true->p∈F
 w:∀p∈W,p∈F
 cl:∀k∈F,k ∉ W->E k\/∀p,InP rs p->Ld rs asks p k->p∈F
theorem Pd.add (h:Pd asks rs E W F) (hn:p ∉ F) (h1:InP rs p) (h2:Pt asks rs p):Pd asks rs E (W++[p]) (F++[p]):=by
 refine ⟨?_,?_,λq a b=>List.mem_append_left _ (h.once q a b),?_,?_⟩
 ·rw [List.nodup_append]
  refine ⟨h.nd,by simp,λa ha b hb e=>?_⟩
  rw [List.mem_singleton] at hb
  subst hb;subst e;exact hn ha
 ·intro q hq
  rcases List.mem_append.mp hq with z|z
  ·exact h.pt q z
  ·rw [List.mem_singleton.mp z];exact ⟨h1,h2⟩
 ·intro q hq
  rcases List.mem_append.mp hq with z|z
  ·exact List.mem_append_left _ (h.w q z)
  ·exact List.mem_append_right _ z
 ·intro k hk hw
  rcases List.mem_append.mp hk with z|z
  ·rcases h.cl k z (λz=>hw (List.mem_append_left _ z)) with e|e
   ·exact .inl e
   ·exact .inr λp a b=>List.mem_append_left _ (e p a b)
  ·exact absurd (List.mem_append_right _ z) hw
theorem Pd.pop (h:Pd asks rs (λ_=>False) (W++[k]) F):Pd asks rs (λj=>j=k) W F :=
 ⟨h.nd,h.pt,h.once,λp hp=>h.w p (List.mem_append_left _ hp),λj hj hw=>by
  by_cases e:j=k
  ·exact .inl e
  ·rcases h.cl j hj (λz=>by
    rcases List.mem_append.mp z with z|z
    ·exact hw z
    ·exact e (List.mem_singleton.mp z)) with z|z
   ·exact z.elim
   ·exact .inr z⟩
theorem Pd.done (h:Pd asks rs (λj=>j=k) W F) (hk:∀p,InP rs p->Ld rs asks p k->p∈F):Pd asks rs (λ_=>False) W F :=
 ⟨h.nd,h.pt,h.once,h.w,λj hj hw=>.inr (by
  rcases h.cl j hj hw with z|z
  ·rw [z];exact hk
  ·exact z)⟩
theorem Pd.len (h:Pd asks rs E W F) (ok:OkM asks rs):F.length<=576 :=
 Nat.le_trans (BF.few2 F h.nd λp hp=>(h.pt p hp).1.both) (Nat.mul_le_mul ok.r24 ok.r24)
theorem Pd.all (h:Pd asks rs (λ_=>False) [] F) (ok:OkM asks rs) (p:BF.P):p∈F↔InP rs p/\Pt asks rs p:=by
 refine ⟨h.pt p,λ⟨h1,w,h2⟩=>zm5 ok (λp=>p∈F) h.once (λp q a hp ha hs hq=>?_) w p h1 h2⟩
 rcases h.cl (srt q) hq (by simp) with z|z
 ·exact z.elim
 ·exact z p hp ⟨a,q,ha,hs,rfl⟩
def Kp (m1 m3:Nat) (A T:Sto):Prop:=∀n o,n≠m1->n≠m3->A[n]? = some o->T[n]? = some o
theorem Kp.push (h:Kp m1 m3 A T) (o:Ob):Kp m1 m3 A (T++[o]):=λn x h1 h3 hx=>zb8 (h n x h1 h3 hx)
theorem Kp.set1 (h:Kp m1 m3 A T) (o:Ob):Kp m1 m3 A (T.set m1 o):=λn x h1 h3 hx=>zcf (h n x h1 h3 hx) (Ne.symm h1)
theorem Kp.set3 (h:Kp m1 m3 A T) (o:Ob):Kp m1 m3 A (T.set m3 o):=λn x h1 h3 hx=>zcf (h n x h1 h3 hx) (Ne.symm h3)
theorem ygl (sr:Sr (λp k=>InP rs p/\Ld rs asks p k) nd np b c kvs A) (hnd:A[nd]? = some (.tdct kvs)) (hb:m1<b) (d1:nd≠m1) (hA:A.length=m3) (h1:m1<T.length) (h3:m3<T.length) (kp:Kp m1 m3 A T) (l2:l[2]? = some (some (.ref nd))) (l4:l[4]? = some (some (pD k))) :
  ∃(m:Nat) (ps:List BF.P),zg2 (zaa 2) (zaa 4) (zaf zcn (zae)) l T=some (.ref m,T++[.lst []])/\(T++[.lst []])[m]? = some (.lst (ps.map pD))/\(∀p,p∈ps↔InP rs p/\Ld rs asks p k)/\m≠m1/\m≠m3:=by
 have ndl:nd<A.length:=(qme hnd).1
 have hT:T[nd]? = some (.tdct kvs):=kp nd _ d1 (by lia) hnd
 have v2:zaa 2 l T=some (.ref nd,T):=by unfold zaa;rw [l2]
 have v4:zaa 4 l T=some (pD k,T):=by unfold zaa;rw [l4]
 have vl:zaf zcn zae l T=some (.ref T.length,T++[.lst []]):=rfl
 have e:zg2 (zaa 2) (zaa 4) (zaf zcn (zae)) l T=some ((za8 kvs (pK k)).getD (.ref T.length),T++[.lst []]):=by
  unfold zg2
  rw [v2]
  dsimp only [Option.bind_some]
  rw [zm0 hT]
  dsimp only [Option.bind_some]
  rw [v4]
  dsimp only [Option.bind_some]
  rw [vl]
  dsimp only [Option.bind_some]
  rw [zmz (zb8 hT) (zgi k)];rfl
 cases hg:za8 kvs (pK k) with
 | none =>
  rw [hg] at e
  exact ⟨_,[],e,zce,λp=>⟨λz=>(by cases z),λz=>absurd z (sr.no k hg p)⟩,by lia,by lia⟩
 | some v =>
  rw [hg] at e
  obtain ⟨m,ps,rfl,s1,s2,_,s4,s5,s6⟩:=sr.yes k v hg
  have ml:m<A.length:=(qme s1).1
  exact ⟨m,ps,e,zb8 (kp m _ (by lia) (by lia) s1),s2,by lia,by lia⟩
theorem ygm (ok:OkM asks rs) (sr:Sr (λp k=>InP rs p/\Ld rs asks p k) nd np b c kvs A) (hnd:A[nd]? = some (.tdct kvs)) (hb:m1<b) (d1:nd≠m1) (hA:A.length=m3) (d13:m1<m3) (hS:S.length<=m1)
  (h1:T[m1]? = some (.lst (W.map pD))) (h3:T[m3]? = some (.tdct (fT F))) (kp:Kp m1 m3 A T) (g:Gr S T) (pd:Pd asks rs (λ_=>False) W F) (hW:W.length<=1000)
  (q:∀x4 x5 F T',T'[m3]? = some (.tdct (fT F))->Gr S T'->Pd asks rs (λ_=>False) [] F->QS .nx [some (mD asks rs),~~~m1,~~~nd,~~~m3,x4,x5] T') :
  Ws (whl (tL (zaa 1)) (zal (zao (zb5 zfm (zaa 1) zae) (zah 4)) (zcv (zg2 (zaa 2) (zaa 4) (zaf zcn (zae))) (zah 5) (sIf (tE (eOp (ze0 true) (zaa 5) (zaa 3))) (zal (zao (eC (.bl true)) (zh6 (zaa 3) (zaa 5))) (zdr (zb5 zct (zaa 1) (zac (zaa 5) zae)))) (zbr)))) zfz) [some (mD asks rs),~~~m1,~~~nd,~~~m3,x4,x5] T QS:=by
 have sz:=zcb
 refine zrw (λn l T=>∃x4 x5 W F,l=[some (mD asks rs),~~~m1,~~~nd,~~~m3,x4,x5]/\T[m1]? = some (.lst (W.map pD))/\T[m3]? = some (.tdct (fT F))/\Kp m1 m3 A T/\Gr S T/\Pd asks rs (λ_=>False) W F/\2*(1000-F.length)+W.length<=n/\n<=3000) (λ_ _=>False) (λl T=>∃x4 x5 F,l=[some (mD asks rs),~~~m1,~~~nd,~~~m3,x4,x5]/\T[m3]? = some (.tdct (fT F))/\Gr S T/\Pd asks rs (λ_=>False) [] F) 3000 (by lia)
  ⟨x4,x5,W,F,rfl,h1,h3,kp,g,pd,by lia,by lia⟩ ?_ ?_ (λd l' S' z=>z.elim)
 ·rintro n l T ⟨x4,x5,W,F,rfl,h1,h3,kp,g,pd,hm,hn⟩
  refine ygj rfl h1 ?_
  have hWc:=List.eq_nil_or_concat W
  simp only [List.concat_eq_append] at hWc
  rcases hWc with rfl|⟨W',k,rfl⟩
  ·exact ⟨_,_,F,rfl,h3,g,pd⟩
  ·have hlen:=pd.len ok
   rw [qla] at hm
   have hm':2*(1000-F.length)+(W'.length+1)<=n:=hm
   rw [if_pos (by simp)]
   have h1l:m1<T.length:=(qme h1).1
   have h3l:m3<T.length:=(qme h3).1
   refine zbm (l':=[some (mD asks rs),~~~m1,~~~nd,~~~m3,some (pD k),x5]) (S':=T.set m1 (.lst (W'.map pD))) ?_ ?_
   ·simp only [zbj,zdu,zav,zam,qg0,qg1,zaq]
    refine ⟨⟨_,zd4 h1⟩,ygk (x:=pD k) (by rw [h1,List.map_append];rfl) ?_⟩
    simp only [zat,qs0,qs1]
    exact ⟨nofun,nofun,nofun⟩
   obtain ⟨m,ps,he,hms,hps,hm1,hm3⟩:=ygl (l:=[some (mD asks rs),~~~m1,~~~nd,~~~m3,some (pD k),x5]) (T:=T.set m1 (.lst (W'.map pD))) sr hnd hb d1 hA (by rw [List.length_set];exact h1l) (by rw [List.length_set];exact h3l) (kp.set1 _) rfl rfl
   refine zj8 (n:=m) (ps.map pD) (λi l T'=>∃x5 W2 F2,l=[some (mD asks rs),~~~m1,~~~nd,~~~m3,some (pD k),x5]/\T'[m1]? = some (.lst (W2.map pD))/\T'[m3]? = some (.tdct (fT F2))/\T'[m]? = some (.lst (ps.map pD))/\Kp m1 m3 A T'/\Gr S T'/\Pd asks rs (λj=>j=k) W2 F2/\(∀p∈ps.take i,p∈F2)/\(∀p∈F,p∈F2)/\2*(1000-F2.length)+W2.length<=2*(1000-F.length)+W'.length) (λ_ _=>False) he
    ⟨_,W',F,rfl,zb8 (zg8 h1),zb8 (zcf h3 (by lia)),hms,(kp.set1 _).push _,(g.set hS _).trans ⟨_,rfl⟩,pd.pop,(λp hp=>by simp at hp),(λp hp=>hp),qlr _⟩ (λi l S' ⟨_,_,_,_,_,_,hp,_⟩=>zig hp) ?_ ?_ (λd l' S' z=>z.elim)
   ·rintro i x l T2 hx ⟨x5,W2,F2,rfl,g1,g3,gm,kp2,gr2,pd2,ht,hF,hm2⟩
    rw [qgm] at hx
    obtain ⟨p,hp,rfl⟩:=Option.map_eq_some_iff.mp hx
    obtain ⟨hpi,hld⟩:=(hps p).mp (qmg hp)
    have hkF:k∈F:=pd.w k (by simp)
    have hptp:Pt asks rs p:=by
     obtain ⟨a,r,ha,hs,hr⟩:=hld
     exact yf3 ha hs (by rw [hr];exact (pd.pt k hkF).2)
    have hlen2:=pd2.len ok
    simp only [zat,qs0,qs1]
    try refine ⟨by first|rfl|trivial,?_⟩
    refine zck (λb S'=>b = !decide (p∈F2)/\S' = T2) ?_ ?_ ?_
    ·simp only [zb0,za9,zam,qg0,qg1,zaq,zru]
     exact ⟨_,zmz g3 (zgi p),_,rfl,by rw [zsy];rfl,nofun⟩
    ·rintro S' ⟨hc,rfl⟩
     have hpF:p ∉ F2:=λz=>by rw [decide_eq_true z] at hc;cases hc
     refine zbm (l':=[some (mD asks rs),~~~m1,~~~nd,~~~m3,some (pD k),some (pD p)]) (S':=S'.set m3 (.tdct (fT (F2++[p])))) ?_ ?_
     ·simp only [zbj,za6,zmy,zam,qg0,qg1,zaq]
      exact ⟨_,yej g3 (zgi p) (by rw [ygh];lia),nofun,nofun,by rw [zsz hpF]⟩
     have g1':(S'.set m3 (.tdct (fT (F2++[p]))))[m1]? = some (.lst (W2.map pD)):=zcf g1 (by lia)
     simp only [zev,zdu,zaw,zav,zam,qg0,qg1,zaq]
     refine ⟨⟨_,zd4 g1'⟩,?_⟩
     rw [zg9 g1' (by rw [qlm];lia)]
     refine .inl ⟨(by first|exact .inl rfl|exact .inl trivial|trivial),_,W2++[p],F2++[p],rfl,?_,zcf (zg8 g3) (by lia),zcf (zcf gm (Ne.symm hm3)) (Ne.symm hm1),(kp2.set3 _).set1 _,(gr2.set (by lia) _).set hS _,pd2.add hpF hpi hptp,?_,λp hp=>List.mem_append_left _ (hF p hp),?_⟩
     ·rw [zg8 g1',List.map_append];rfl
     ·intro r hr
      rw [List.take_add_one,hp] at hr
      rcases List.mem_append.mp hr with z|z
      ·exact List.mem_append_left _ (ht r z)
      ·exact List.mem_append_right _ (by simpa using z)
     ·rw [qla,qla]
      show 2*(1000-(F2.length+1))+(W2.length+1)<=_
      lia
    ·rintro S' ⟨hc,rfl⟩
     have hpF:p∈F2:=by
      by_cases z:p∈F2
      ·exact z
      ·rw [decide_eq_false z] at hc;cases hc
     rw [zcj]
     refine .inl ⟨.inl rfl,_,W2,F2,rfl,g1,g3,gm,kp2,gr2,pd2,?_,hF,hm2⟩
     intro r hr
     rw [List.take_add_one,hp] at hr
     rcases List.mem_append.mp hr with z|z
     ·exact ht r z
     ·have:r=p:=by simpa using z
      rw [this];exact hpF
   ·rintro l' T2 ⟨x5,W2,F2,rfl,g1,g3,gm,kp2,gr2,pd2,ht,hF,hm2⟩
    refine .inl ⟨.inl rfl,_,by lia,_,_,W2,F2,rfl,g1,g3,kp2,gr2,pd2.done λp a b=>ht p ?_,qlr _,by lia⟩
    rw [qlm,List.take_length]
    exact (hps p).mpr ⟨a,b⟩
 ·rintro l' T' ⟨x4,x5,F,rfl,a,b,d⟩
  exact q x4 x5 F T' a b d
theorem ygn (h:OkM asks rs):Wo (zim [mD asks rs] S) λv S'=>∃m F,v=.ref m/\S'[m]? = some (.tdct (fT F))/\Gr S S'/\S.length<=m/\F.Nodup/\∀p,p∈F↔InP rs p/\Pt asks rs p:=by
 have sz:=zcb
 have hlen:=ziu rs.length
 have h2:rs.length*rs.length<=24*24:=Nat.mul_le_mul h.r24 h.r24
 have hfl:((apL rs.length).filter (f1 asks rs)).length<=(apL rs.length).length:=List.length_filter_le _ _
 unfold zim zr6
 dsimp! only [zb1]
 refine za3 (λl S'=>∃m1,l=[some (mD asks rs),~~~m1,none,none,none,none]/\S'[m1]? = some (.lst (((apL rs.length).filter (f1 asks rs)).map pD))/\Gr S S'/\S.length<=m1) ?_ ?_
 ·simp only [zbj,zaz,zaw,zav,zam,qg0,qg1,zaq]
  refine Wo.mono (yf9 h) ?_
  rintro v S' ⟨m,rfl,a,b,c⟩
  simp only [zat,qs0,qs1]
  exact ⟨nofun,m,rfl,a,b,c⟩
 rintro l S1 ⟨m1,rfl,s1,g1,b1⟩
 have m1l:m1<S1.length:=(qme s1).1
 refine za3 (λl S'=>∃nd np c kvs,l=[some (mD asks rs),~~~m1,~~~nd,none,none,none]/\S'[nd]? = some (.tdct kvs)/\Gr S1 S'/\S1.length<=nd/\Sr (λp k=>InP rs p/\Ld rs asks p k) nd np S1.length c kvs S') ?_ ?_
 ·simp only [zbj,zaz,zaw,zav,zam,qg0,qg1,zaq]
  refine Wo.mono (ygg h) ?_
  rintro v S' ⟨nd,np,c,kvs,rfl,a,b,d,e⟩
  simp only [zat,qs0,qs1]
  exact ⟨nofun,nd,np,c,kvs,rfl,a,b,d,e⟩
 rintro l S2 ⟨nd,np,c,kvs,rfl,s2,g2,b2,sr⟩
 have s1':=g2.get s1
 have m1l2:m1<S2.length:=(qme s1').1
 refine zbm (l':=[some (mD asks rs),~~~m1,~~~nd,some (.ref S2.length),none,none]) (S':=S2++[.tdct (fT ((apL rs.length).filter (f1 asks rs)))]) ?_ ?_
 ·rw [zbj]
  refine ygi rfl s1' ((zs1 _).filter _) (by lia) ?_
  simp only [zat,qs0,qs1]
  exact ⟨nofun,nofun,nofun⟩
 refine za3 (λl S'=>∃x4 x5 F,l=[some (mD asks rs),~~~m1,~~~nd,some (.ref S2.length),x4,x5]/\S'[S2.length]? = some (.tdct (fT F))/\Gr S S'/\Pd asks rs (λ_=>False) [] F) ?_ ?_
 ·refine ygm (S:=S) (W:=(apL rs.length).filter (f1 asks rs)) (F:=(apL rs.length).filter (f1 asks rs)) h sr s2 m1l (by lia) rfl m1l2 b1 (zb8 s1') zce (λn o _ _ z=>zb8 z) ((g1.trans g2).trans ⟨_,rfl⟩) ⟨(zs1 _).filter _,?_,?_,λp hp=>hp,λk hk hw=>absurd hk hw⟩ (by lia) λx4 x5 F T' a b d=>⟨rfl,x4,x5,F,rfl,a,b,d⟩
  ·intro p hp
   have:=List.mem_filter.mp hp
   exact ⟨mem_ap.mp this.1,zss this.2⟩
  ·exact λp hp hf=>List.mem_filter.mpr ⟨mem_ap.mpr hp,hf⟩
 rintro l S4 ⟨x4,x5,F,rfl,a,b,d⟩
 simp! only [zam]
 have:=g2.len
 have:=g1.len
 exact ⟨S2.length,F,rfl,a,b,by lia,d.nd,d.all h⟩
theorem ygo (k:Nat):oD (some k)=.int (k:Int):=rfl
theorem ygp (xs:List D) (c:Nat) (h:c<=xs.length):zbt xs none (some (c:Int))=xs.take c:=by
 unfold zbt
 rw [HT.sIx_none,HT.sIx_nat]
 simp
 try lia
theorem ygq (xs:List D) (c:Nat) (h:c<=xs.length):zbt xs (some (c:Int)) none=xs.drop c:=by
 unfold zbt
 rw [HT.sIx_none,HT.sIx_nat]
 have:min c xs.length=c:=by lia
 simp only [this]
 rw [List.take_of_length_le (by rw [List.length_drop];lia)]
theorem ygr {i:Nat}(ha:∀Q',We ea l S Q' = Q' (.tup xs) S) (hk:∀Q',We ek l S Q' = Q' (.int (i:Int)) S) (hn:∀Q',We ey l S Q' = Q' y S) (hi:i<xs.length) (hx:xs.length<=100) (q:Q (.tup (xs.set i y)) S) :
  We (eOp zbf (eOp zbf (zcx ea (zc2) (zcs ek)) (zaf zbo (zac ey (zae)))) (zcx ea (zcs (eOp zbf ek (eC (.int 1)))) (zc2))) l S Q:=by
 have big:=zcb
 have e:(i:Int)+1=((i+1:Nat):Int):=by push_cast;rfl
 simp only [za9,zge,zam,ha,hk,hn,zaq,zgb,zgc,zgd,zj6,zaz,zaw,zav,zdg,zif,za6,ze6,e,ygp xs i (by lia),ygq xs (i+1) (by lia),List.length_cons,List.length_nil,qla,List.length_take,List.length_drop]
 have e2:xs.take i++[y]++xs.drop (i+1)=xs.set i y:=by
  rw [List.set_eq_take_append_cons_drop,if_pos hi,List.append_assoc];rfl
 rw [e2]
 exact ⟨by lia,by lia,by lia,q⟩
theorem zs2 {n i:Nat}(h:S[n]? = some (.lst xs)) (hi:i<xs.length):zc3 (.ref n) (.int (i:Int)) v S=some (S.set n (.lst (xs.set i v))):=by
 unfold zc3
 simp only [h]
 unfold L2.ixN
 rw [if_pos (by lia),if_pos (by lia)]
 rfl
theorem zm6 (i:Nat) (h1:(i:Int)<4):∃x,L2.atI [D.int a,D.int b,D.int c,D.int d] (i:Int)=some (.int x)/\(x=a\/x=b\/x=c\/x=d):=by
 have:i=0\/i=1\/i=2\/i=3:=by lia
 rcases this with rfl|rfl|rfl|rfl
 ·exact ⟨a,rfl,by simp⟩
 ·exact ⟨b,rfl,by simp⟩
 ·exact ⟨c,rfl,by simp⟩
 ·exact ⟨d,rfl,by simp⟩
structure Ck (many:Nat) (q:Cl):Prop where
 go:∀x,q.1=some x->x<many
 an:∀v,q.2=some v->v<8
inductive CeP (ns:List Int) (c many:Nat) (S:Sto) (v:D) (S':Sto):Prop
 | mk (q:Cl) (e:v=cD q) (h:Ck many q) (p:PQ ns (c+4) S') (f:Fn S S')
theorem ygs {ns:List Int}{c many wd:Nat}{sh sf:Int}(h:PQ ns c S) (hc:c<90000000) (hm:1<=many) (hm2:many<=100) (hw:1<=wd) (hw2:wd<=8):Wo (zir [.ref 2,.int sh,.int (wd:Int),.int sf,.int (many:Int)] S) (CeP ns c many S):=by
 have sz:=zcb
 unfold zir zse
 dsimp! only [zb1]
 refine zbm (l':=[~~~2,some (.int sh),‹wd›,some (.int sf),‹many›,some .non,none]) (S':=S) ⟨_,_,_,rfl,rfl,rfl,rfl⟩ ?_
 refine zbm (l':=[~~~2,some (.int sh),‹wd›,some (.int sf),‹many›,some .non,some .non]) (S':=S) ⟨_,_,_,rfl,rfl,rfl,rfl⟩ ?_
 refine za3 (λl S'=>∃o:Option Nat,(∀x,o=some x->x<many)/\PQ ns (c+2) S'/\Fn S S'/\l=[~~~2,some (.int sh),‹wd›,some (.int sf),‹many›,some (oD o),some .non]) ?_ ?_
 ·simp! only [zam]
  refine (zca h (by lia) (by decide) (by decide)).mono ?_
  rintro v S1 ⟨d,rfl,hd,p1,f1⟩
  simp! only [zam]
  split
  ·refine (zca p1 (by lia) (by lia) (by lia)).mono ?_
   rintro v S2 ⟨e,rfl,he,p2,f2⟩
   exact ⟨nofun,some e,λx hx=>by cases hx;lia,p2,f1.trans f2,rfl⟩
  ·exact ⟨nofun,none,λx hx=>(by cases hx),p1.mono (by lia),f1,rfl⟩
 rintro l S1 ⟨o,ho,p1,f1,rfl⟩
 refine za3 (λl S'=>∃q:Option Nat,(∀v,q=some v->v<8)/\PQ ns (c+4) S'/\Fn S S'/\l=[~~~2,some (.int sh),‹wd›,some (.int sf),‹many›,some (oD o),some (oD q)]) ?_ ?_
 ·simp! only [zam]
  refine (zca p1 (by lia) (by decide) (by decide)).mono ?_
  rintro v S2 ⟨d,rfl,hd,p2,f2⟩
  simp! only [zam]
  split
  ·refine (zca p2 (by lia) (by lia) (by lia)).mono ?_
   rintro v S3 ⟨e,rfl,he,p3,f3⟩
   have f8:(0:Int)<8:=by decide
   simp! only [f8,decide_true,true_and]
   have d0:=Int.emod_nonneg ((e:Int)+sf) (b:=8) (by lia)
   have d1:=Int.emod_lt_of_pos ((e:Int)+sf) f8
   exact ⟨some (((e:Int)+sf) % 8).toNat,λv hv=>(by cases hv;lia),p3,f1.trans (f2.trans f3),by rw [ygo,Int.toNat_of_nonneg d0]⟩
  ·exact ⟨nofun,none,λv hv=>(by cases hv),p2.mono (by lia),f1.trans f2,rfl⟩
 rintro l S2 ⟨q,hq8,p2,f2,rfl⟩
 simp! only [zam]
 exact ⟨by lia,(o,q),rfl,⟨ho,hq8⟩,p2,f2⟩
def OkR (A many:Nat) (cs:List Cl):Prop:=cs.length=A/\∀c∈cs,Ck many c
theorem ygt (a1:1<=A) (a4:A<=4) (h:∀cs∈g,OkR A many cs) (hl:g.length=many) (m1:1<=many) (m24:many<=24):OkM A g:=⟨a1,a4,by lia,by lia,λcs hcs=>(h cs hcs).1,λcs hcs c hc x hx=>(by rw [hl];exact ((h cs hcs).2 c hc).go x hx),λcs hcs c hc=>((h cs hcs).2 c hc).an⟩
theorem zs3:∀{vs:List D},(∀v∈vs,∃q:Cl,v=cD q/\Ck many q)->∃cs:List Cl,vs=cs.map cD/\∀c∈cs,Ck many c
 | [],_=>⟨[],rfl,λc hc=>by cases hc⟩
 | v :: vs,h=>by
  obtain ⟨c,e,hc⟩:=h v List.mem_cons_self
  obtain ⟨r,e2,hr⟩:=zs3 (vs:=vs) λw hw=>h w (List.mem_cons_of_mem _ hw)
  refine ⟨c :: r,by rw [e,e2];rfl,λd hd=>?_⟩
  rcases List.mem_cons.mp hd with rfl|hd
  ·exact hc
  ·exact hr d hd
inductive MaP (ns:List Int) (c A many:Nat) (S:Sto) (v:D) (S':Sto):Prop
 | mk (g:List (List Cl)) (e:v=mD A g) (ok:OkM A g) (l:g.length=many) (p:PQ ns (c+600) S') (f:Fn S S')
local macro_rules
 | `(tactic| simp_all! only [$xs,*])=>`(tactic| simp only [zb0,za9,zhw,zam,za6,zat,zjg,zfv,zfw,zfx,zaz,zdu,zaw,zav,zft,zfu,zef,zje,zlp,zpe,zpf,ze6,zif,zge,zgb,zgc,zgd,zj6,zrg,zlq,zlr,zcr,zf9,zls,zlt,zj3,zga,zpg,zdg,zjh,zey,zji,zlu,zms,zjj,zlv,zmt,zmu,zmv,zib,List.map_cons,List.map_nil,List.length_cons,List.length_nil,Nat.reduceAdd,Nat.reduceSub,List.replicate,List.cons_append,List.nil_append,qg0,qg1,qs0,qs1,zaq,zbu,zch,zrd,zre,zrf,zj2,zmr,zdj,decide_eq_true_eq,zrt,zmy,$xs,*])
theorem ygu {ns:List Int}{c A many:Nat}(h:PQ ns c S) (hc:c<80000000) (hm:1<=many) (hm2:many<=24) (a1:1<=A) (a4:A<=4):Wo (zis [.ref 2,.int (A:Int),.int (many:Int)] S) (MaP ns c A many S):=by
 have sz:=zcb
 have l3:=h.lt
 unfold zis zsf
 dsimp! only [zb1]
 refine za3 (λl S'=>∃sh:Int,PQ ns (c+1) S'/\Fn S S'/\l=[~~~2,‹A›,‹many›,some (.int sh),none,none,none,none,none,none,none]) ?_ ?_
 ·simp! only [zam]
  refine ⟨by lia,?_⟩
  refine (zca h (by lia) (by decide) (by decide)).mono ?_
  rintro v S1 ⟨d,rfl,hd,p1,f1⟩
  obtain ⟨x,hx,_⟩:=zm6 (a:=0) (b:=1) (c:=3) (d:=6) d hd
  simp! only [hx]
  exact ⟨nofun,x,p1,f1,rfl⟩
 rintro l S1 ⟨sh,p1,f1,rfl⟩
 refine za3 (λl S'=>∃wd:Nat,1<=wd/\wd<=8/\PQ ns (c+2) S'/\Fn S S'/\l=[~~~2,‹A›,‹many›,some (.int sh),‹wd›,none,none,none,none,none,none]) ?_ ?_
 ·simp! only [zam]
  refine ⟨by lia,?_⟩
  refine (zca p1 (by lia) (by decide) (by decide)).mono ?_
  rintro v S2 ⟨d,rfl,hd,p2,f2⟩
  obtain ⟨x,hx,hx2⟩:=zm6 (a:=1) (b:=2) (c:=2) (d:=8) d hd
  simp! only [hx]
  exact ⟨nofun,x.toNat,by lia,by lia,p2,f1.trans f2,by rw [Int.toNat_of_nonneg (by lia)]⟩
 rintro l S2 ⟨wd,w1,w8,p2,f2,rfl⟩
 refine za3 (λl S'=>∃al:Bool,PQ ns (c+3) S'/\Fn S S'/\l=[~~~2,‹A›,‹many›,some (.int sh),‹wd›,some (.bl al),none,none,none,none,none]) ?_ ?_
 ·simp! only [zam]
  refine (zca p2 (by lia) (by decide) (by decide)).mono ?_
  rintro v S3 ⟨d,rfl,hd,p3,f3⟩
  simp! only [zam]
  exact ⟨nofun,_,p3,f2.trans f3,rfl⟩
 rintro l S3 ⟨al,p3,f3,rfl⟩
 refine za3 (λl S'=>∃sf:Int,PQ ns (c+4) S'/\Fn S S'/\l=[~~~2,‹A›,‹many›,some (.int sh),‹wd›,some (.bl al),some (.int sf),none,none,none,none]) ?_ ?_
 ·simp! only [zam]
  refine (zca p3 (by lia) (by decide) (by decide)).mono ?_
  rintro v S4 ⟨d,rfl,hd,p4,f4⟩
  exact ⟨nofun,_,p4,f3.trans f4,rfl⟩
 rintro l S4 ⟨sf,p4,f4,rfl⟩
 have l4:=p4.lt
 have fl4:=f4.len l4
 refine zbm (l':=[~~~2,‹A›,‹many›,some (.int sh),‹wd›,some (.bl al),some (.int sf),some (.ref S4.length),none,none,none]) (S':=S4++[.lst []]) (by simp! only [zam];exact ⟨by lia,nofun,nofun,nofun⟩) ?_
 refine za3 (λl S'=>PQ ns (c+4+20*many) S'/\Fn S S'/\∃(g:List (List Cl)) (x8 x9 x10:Option D),(∀cs∈g,OkR A many cs)/\g.length=many/\S'[S4.length]? = some (.lst (g.map rD))/\l=[~~~2,‹A›,‹many›,some (.int sh),‹wd›,some (.bl al),some (.int sf),some (.ref S4.length),x8,x9,x10]) ?_ ?_
 ·refine ze5 (λi l S'=>PQ ns (c+4+20*i) S'/\Fn S S'/\∃(g:List (List Cl)) (x8 x9 x10:Option D),(∀cs∈g,OkR A many cs)/\g.length=i/\S'[S4.length]? = some (.lst (g.map rD))/\l=[~~~2,‹A›,‹many›,some (.int sh),‹wd›,some (.bl al),some (.int sf),some (.ref S4.length),x8,x9,x10]) (λ_ _=>False) (n:=many) rfl (by lia) ⟨p4.gr ⟨_,rfl⟩,f4.trans (Fn.gr ⟨_,rfl⟩),[],_,_,_,λcs hcs=>(by cases hcs),rfl,zce,rfl⟩ ?_ ?_ (λd l' S' z=>z.elim)
  ·rintro i l S5 hi ⟨p5,f5,g,x8,x9,x10,okg,hl,hs5,rfl⟩
   simp only [zat,qs0,qs1]
   have app:∀(S9:Sto) (cs:List Cl) (x9 x10:Option D),PQ ns (c+4+20*i+20) S9->Fn S S9->S9[S4.length]? = some (.lst (g.map rD))->OkR A many cs->Wo (zct (.ref S4.length) [rD cs] S9) λ_ S'=>PQ ns (c+4+20*(i+1)) S'/\Fn S S'/\∃(g:List (List Cl)) (x8' x9' x10':Option D),(∀cs∈g,OkR A many cs)/\g.length=i+1/\S'[S4.length]? = some (.lst (g.map rD))/\([~~~2,‹A›,‹many›,some (.int sh),‹wd›,some (.bl al),some (.int sf),some (.ref S4.length),‹i›,x9,x10]:Lo)=[~~~2,‹A›,‹many›,some (.int sh),‹wd›,some (.bl al),some (.int sf),some (.ref S4.length),x8',x9',x10']:=by
    intro S9 cs y9 y10 p9 f9 hs9 okc
    rw [zg9 hs9 (by rw [qlm];lia)]
    refine ⟨(p9.setN l4).mono (by lia),f9.setN fl4,g++[cs],_,_,_,λds hd=>?_,by simp [hl],by rw [zel hs9];simp,rfl⟩
    rcases List.mem_append.mp hd with z|z
    ·exact okg ds z
    ·have:ds=cs:=by simpa using z
     subst this;exact okc
   refine zck (λb S'=>PQ ns (c+4+20*i+1) S'/\Fn S S'/\S'[S4.length]? = some (.lst (g.map rD))/\(b=true->0<i)) ?_ ?_ ?_
   ·simp! only [zft]
    cases al with
    | false=>simp only [qbf,if_false];exact ⟨p5.mono (by lia),f5,hs5,λz=>by cases z⟩
    | true =>
     simp only [if_true]
     by_cases hi0:(0:Int)<(i:Int)
     ·simp only [hi0,decide_true,if_true]
      refine (zca p5 (by lia) (by decide) (by decide)).mono ?_
      rintro v S6 ⟨d,rfl,hd,p6,f6⟩
      simp! only [zam]
      exact ⟨p6,f5.trans f6,f6 _ _ (by lia) hs5,λ_=>by lia⟩
     ·simp only [hi0,decide_false,qbf,if_false]
      exact ⟨p5.mono (by lia),f5,hs5,λz=>by cases z⟩
   ·rintro S6 ⟨p6,f6,hs6,hi0⟩
    have hi0:=hi0 rfl
    refine za3 (λl S'=>PQ ns (c+4+20*i+2) S'/\Fn S S'/\S'[S4.length]? = some (.lst (g.map rD))/\∃cs,cs∈g/\l=[~~~2,‹A›,‹many›,some (.int sh),‹wd›,some (.bl al),some (.int sf),some (.ref S4.length),‹i›,some (rD cs),x10]) ?_ ?_
    ·simp! only [zam]
     refine (zca p6 (by lia) (by lia) (by lia)).mono ?_
     rintro v S7 ⟨d,rfl,hd,p7,f7⟩
     have hs7:=f7 _ _ (by lia) hs6
     obtain ⟨cs,hcs⟩:∃cs,g[d]? = some cs:=⟨_,qge (by lia)⟩
     have e1:L2.atI (g.map rD) (d:Int)=some (rD cs):=atI_get (by rw [qgm,hcs];rfl)
     simp! only [zbg hs7,e1]
     exact ⟨nofun,p7,f6.trans f7,hs7,cs,qmg hcs,rfl⟩
    rintro l S7 ⟨p7,f7,hs7,cs,hcs,rfl⟩
    have okc:=okg cs hcs
    refine za3 (λl S'=>PQ ns (c+4+20*i+3) S'/\Fn S S'/\S'[S4.length]? = some (.lst (g.map rD))/\∃a:Nat,a<A/\l=[~~~2,‹A›,‹many›,some (.int sh),‹wd›,some (.bl al),some (.int sf),some (.ref S4.length),‹i›,some (rD cs),‹a›]) ?_ ?_
    ·simp! only [zam]
     refine (zca p7 (by lia) (by lia) (by lia)).mono ?_
     rintro v S8 ⟨d,rfl,hd,p8,f8⟩
     exact ⟨nofun,p8,f7.trans f8,f8 _ _ (by lia) hs7,d,by lia,rfl⟩
    rintro l S8 ⟨p8,f8,hs8,a,ha,rfl⟩
    obtain ⟨d,hd⟩:∃d,cs[a]? = some d:=⟨_,qge (by rw [okc.1];exact ha)⟩
    have e2:L2.atI (cs.map cD) (a:Int)=some (.tup [oD d.1,oD d.2]):=atI_get (by rw [qgm,hd];rfl)
    rw [zev,zdu]
    simp only [zam,qg0,qg1,zaq,zd4 hs8,zm1,true_and]
    rw [zaw]
    refine ygr (xs:=cs.map cD) (i:=a) (y:=cD (d.1,none)) (λQ'=>by unfold rD;simp_all! only [zam]) (λQ'=>by simp_all! only [zam]) (λQ'=>?_) (by rw [qlm,okc.1];exact ha) (by rw [qlm,okc.1];lia) ?_
    ·have s2:2<=sizeLine:=by lia
     unfold rD
     simp_all! only [e2,s2,true_and]
     rfl
    rw [zav]
    have:=app S8 (cs.set a (d.1,none)) (some (rD cs)) (some (.int (a:Int))) (p8.mono (by lia)) f8 hs8 ⟨by rw [List.length_set];exact okc.1,λq hq=>by
     rcases List.mem_or_eq_of_mem_set hq with z|rfl
     ·exact okc.2 q z
     ·exact ⟨(okc.2 d (qmg hd)).go,λv hv=>by cases hv⟩⟩
    unfold rD at this ⊢
    rw [List.map_set] at this
    refine this.mono ?_
    rintro _ S9 q
    exact .inl ⟨(by first|exact .inl rfl|exact .inl trivial|trivial),q⟩
   ·rintro S6 ⟨p6,f6,hs6,_⟩
    rw [zev,zdu]
    simp only [zam,qg0,qg1,zaq,zd4 hs6,zm1,true_and]
    rw [zaw,zaz,zaw]
    refine yeb (zau 0 A) (λv=>∃q:Cl,v=cD q/\Ck many q) (λj S'=>PQ ns (c+4+20*i+1+4*j) S'/\Fn S S'/\S'[S4.length]? = some (.lst (g.map rD))) (λl=>∃x0,l=[x0,~~~2,some (.int sh),‹wd›,some (.int sf),‹many›]) (zj4 (n:=A) rfl (by lia)) ⟨p6,f6,hs6⟩ ⟨_,rfl⟩ (λj S' _=>rfl) (by rw [zeg];lia) ?_ ?_
    ·rintro j x l S7 hx ⟨x0,rfl⟩ ⟨p7,f7,hs7⟩
     have hj:=(zjk hx).1
     simp only [zat,qs0]
     refine ⟨⟨_,rfl⟩,?_⟩
     simp only [zaz,zaw,zav,zam,qg0,qg1,zaq]
     refine (ygs p7 (by lia) hm (by lia) w1 w8).mono ?_
     rintro v S8 ⟨q,rfl,hq,p8,f8⟩
     exact ⟨⟨q,rfl,hq⟩,p8.mono (by lia),f7.trans f8,f8 _ _ (by lia) hs7⟩
    ·rintro vs S7 hvl hv ⟨p7,f7,hs7⟩
     obtain ⟨cs,rfl,hcs⟩:=zs3 hv
     rw [zeg] at hvl p7
     rw [qlm] at hvl
     simp only [zav,zey,zdj,zbu]
     have:=app (S7++[.lst (cs.map cD)]) cs x9 x10 ((p7.gr ⟨_,rfl⟩).mono (by lia)) (f7.trans (Fn.gr ⟨_,rfl⟩)) (zb8 hs7) ⟨hvl,hcs⟩
     unfold rD at this ⊢
     refine this.mono ?_
     rintro _ S9 q
     exact .inl ⟨(by first|exact .inl rfl|exact .inl trivial|trivial),q⟩
  ·rintro l' S' ⟨p5,f5,rest⟩
   exact ⟨rfl,p5,f5,rest⟩
 rintro l S5 ⟨p5,f5,g,x8,x9,x10,okg,hl,hs5,rfl⟩
 simp! only [zbg hs5]
 exact ⟨by lia,g,rfl,ygt a1 a4 okg hl hm hm2,hl,p5.mono (by lia),f5⟩
theorem ygv (h:S[n]? = some (.lst xs)) (h0:0<=i) (h1:i<xs.length) (h2:xs.length<1000000):∃y,xs[i.toNat]? = some y/\∀Q:D->Sto->Prop,Wo (zf0 (.ref n) [.int i] S) Q=Q y (S.set n (.lst (xs.eraseIdx i.toNat))):=by
 have hl:i.toNat<xs.length:=by lia
 refine ⟨xs[i.toNat],qge hl,λQ=>?_⟩
 have e:PySem.seqIndex? i xs.length=some i.toNat:=by
  unfold PySem.seqIndex?
  first
   | (simp;lia)
   | (rw [if_pos (by lia)];try rw [if_pos (by lia)])
 have:zf0 (.ref n) [.int i] S=some (xs[i.toNat],S.set n (.lst (xs.eraseIdx i.toNat))):=by
  unfold zf0
  dsimp only
  rw [h]
  dsimp only
  rw [e]
  show ((xs[i.toNat]?).bind _)=_
  rw [qge hl]
  show (if _ then _ else _)=_
  rw [if_pos (by lia)]
 rw [this];exact zbl
noncomputable def nD (a:Nat):D:=.int (a:Int)
theorem ygw (n:Nat):zau 0 n=(List.range n).map nD:=by
 unfold zau nD
 apply List.map_congr_left
 intro i _
 show D.int (0+(i:Int))=D.int (i:Int)
 rw [Int.zero_add]
theorem erase_perm:∀(l:List Nat) (i:Nat) (h:i<l.length),(l[i] :: l.eraseIdx i).Perm l
 | [],i,h=>absurd h (Nat.not_lt_zero _)
 | x :: l,0,_=>.refl _
 | x :: l,i+1,h=>by
  have ih:=erase_perm l i (by simpa using h)
  show (l[i]'(by simpa using h) :: x :: l.eraseIdx i).Perm (x :: l)
  exact (List.Perm.swap ..).trans (ih.cons x)
theorem zs4 {α β:Type}(f:α->β):∀(l:List α) (i:Nat),(l.map f).eraseIdx i=(l.eraseIdx i).map f
 | [],_=>rfl
 | x :: l,0=>rfl
 | x :: l,i+1=>by
  show f x :: (l.map f).eraseIdx i=f x :: (l.eraseIdx i).map f
  rw [zs4 f l i]
inductive OrP (ns:List Int) (c many:Nat) (S:Sto) (v:D) (S':Sto):Prop
 | mk (n:Nat) (os:List Nat) (e:v=.ref n) (hn:S.length<=n) (hs:S'[n]? = some (.lst (os.map nD))) (pm:os.Perm (List.range many)) (p:PQ ns (c+many) S') (f:Fn S S')
theorem ygx {ns:List Int}{c many:Nat}(h:PQ ns c S) (hc:c<80000000) (hm:many<=600):Wo (zin [.ref 2,.int (many:Int)] S) (OrP ns c many S):=by
 have sz:=zcb
 have l3:=h.lt
 unfold zin zsa
 dsimp! only [zb1]
 have hr0:∀y:Int,0<=y/\y<1000->zbi (zac (zaa 1) zae) [~~~2,some (.int y),none] S=some ((0,y.toNat),S):=λy hy=>by
  unfold zbi
  show (if _ then _ else _)=_
  rw [if_pos (by lia)]
 have hr:=hr0 (many:Int) (by lia)
 rw [Int.toNat_natCast] at hr
 refine zbm (l':=[~~~2,‹many›,some (.ref S.length)]) (S':=S++[.lst ((List.range many).map nD)]) ?_ ?_
 ·rw [zbj]
  refine ⟨.ref S.length,S++[.lst (zau 0 many)],?_,?_⟩
  ·unfold zly
   rw [hr]
   show (if many<=sizeLine then _ else _)=_
   rw [if_pos (by lia)]
  ·rw [ygw]
   simp only [zat,qs0,qs1]
   exact ⟨nofun,nofun,nofun⟩
 rw [zcg]
 refine zg7 (zau 0 many) (λi acc l S'=>∃(os left:List Nat) (x0:Option D),acc=os.map nD/\os.length=i/\(os++left).Perm (List.range many)/\S'[S.length]? = some (.lst (left.map nD))/\PQ ns (c+i) S'/\Fn S S'/\l=[x0,some (.ref S.length),~~~2]) (zj4 (n:=many) rfl (by lia)) ⟨[],List.range many,none,rfl,rfl,.refl _,zce,h.gr ⟨_,rfl⟩,Fn.gr ⟨_,rfl⟩,rfl⟩ (λ_ _ _ _ _=>rfl) ?_ ?_
 ·rintro i x acc l S1 hx ⟨os,left,x0,rfl,hl,pm,hs1,p1,f1,rfl⟩
  have hi:=(zjk hx).1
  have hll:os.length+left.length=many:=by
   have:=pm.length_eq
   rw [qla,List.length_range] at this;exact this
  simp only [zat,qs0]
  refine ⟨true,S1,rfl,?_⟩
  dsimp only
  rw [if_pos rfl,zdu]
  simp_all! only [zd4 hs1,zbg hs1,zm1,true_and,qlm]
  refine (zca p1 (by lia) (by lia) (by lia)).mono ?_
  rintro v S2 ⟨d,rfl,hd,p2,f2⟩
  have hs2:=f2 _ _ (by lia) hs1
  have hdl:d<left.length:=by lia
  obtain ⟨y,hy,hq⟩:=ygv (i:=(d:Int)) hs2 (by lia) (by rw [qlm];lia) (by rw [qlm];lia)
  rw [hq]
  rw [Int.toNat_natCast,qgm,qge hdl] at hy
  have hy:nD left[d]=y:=qoi hy
  refine ⟨os++[left[d]],left.eraseIdx d,_,by rw [<-hy];simp,by simp [hl],?_,?_,(p2.setN l3).mono (by lia),(f1.trans f2).setN (qlr _),rfl⟩
  ·rw [List.append_assoc]
   refine List.Perm.trans (List.Perm.append_left os ?_) pm
   exact erase_perm left d hdl
  ·rw [zel hs2,Int.toNat_natCast,zs4]
 ·rintro acc l' S1 ⟨os,left,x0,rfl,hl,pm,hs1,p1,f1,rfl⟩
  rw [zeg] at hl p1
  have hll:os.length+left.length=many:=by
   have:=pm.length_eq
   rw [qla,List.length_range] at this;exact this
  have:left=[]:=List.eq_nil_of_length_eq_zero (by lia)
  subst this
  rw [List.append_nil] at pm
  have l1:=f1.len p1.lt
  exact ⟨by rw [qlm];lia,⟨_,os,rfl,l1,zce,pm,p1.gr ⟨_,rfl⟩,f1.trans (Fn.gr ⟨_,rfl⟩)⟩⟩
theorem ygy (h:as l S=some ([.ref n],S1)) (hn:lstOf S1 n=some xs):zjv as l S=some (itN (itL n),(enl xs).length+1,S1):=by
 unfold zjv
 rw [h]
 show (lstOf S1 n).bind _=_
 rw [hn,zrj];rfl
theorem ygz (hn:lstOf S n=some xs):itN (itL n) i S=some (enl xs)[i]?:=by
 unfold itN
 rw [zie hn,zrk];rfl
def Two (F:List BF.P) (xs:List Nat):Prop:=∃i j x y:Nat,i<j/\xs[i]? = some x/\xs[j]? = some y/\(x,y)∈F
theorem zs5 {xs:List Nat}{i k:Nat}:(xs.drop i)[k]? = xs[i+k]?:=List.getElem?_drop
theorem yg0 {m n:Nat}{F:List BF.P}{xs:List Nat}(hm:S[m]? = some (.tdct (fT F))) (hn:S[n]? = some (.lst (xs.map nD))) :
  Wo (zij [.ref m,.ref n] S) λv S'=>Gr S S'/\((v=.non/\¬Two F xs)\/∃p,v=pD p/\Two F xs):=by
 unfold zij zr0
 dsimp! only [zb1]
 refine zgf (λl S'=>Gr S S'/\¬Two F xs) (λd S'=>Gr S S'/\∃p,d=pD p/\Two F xs) ?_ ?_ ?_
 ·refine zrm (enl (xs.map nD)) (λi l S'=>∃x2 x3 x4,l=[~~~m,~~~n,x2,x3,x4]/\Gr S S'/\∀a b x y,a<i->a<b->xs[a]? = some x->xs[b]? = some y->(x,y) ∉ F) (λd S'=>Gr S S'/\∃p,d=pD p/\Two F xs) (ygy (n:=n) rfl (zbg hn)) ⟨_,_,_,rfl,Gr.refl S,λa _ _ _ ha=>absurd ha (Nat.not_lt_zero _)⟩ (λi l S' ⟨_,_,_,_,g,_⟩=>ygz (g.lst (zbg hn))) ?_ ?_ (λd l' S' q=>.inr ⟨d,rfl,q⟩)
  ·rintro i v l S1 hx ⟨x2,x3,x4,rfl,g1,no⟩
   rw [zrk,qgm] at hx
   obtain ⟨w,hw,rfl⟩:=Option.map_eq_some_iff.mp hx
   obtain ⟨x,hxi,rfl⟩:=Option.map_eq_some_iff.mp hw
   simp only [zfv,zfx,zfw,zat,List.length_cons,List.length_nil,qs0,qs1]
   try refine ⟨by first|rfl|trivial,?_⟩
   have hn1:=g1.get hn
   have e1:(i:Int)+1=((i+1:Nat):Int):=by push_cast;rfl
   have he:zcx (zaa 1) (zcs (eOp zbf (zaa 2) (eC (.int 1)))) (zc2) [~~~m,~~~n,‹i›,some (nD x),x4] S1=some (.ref S1.length,S1++[.lst ((xs.drop (i+1)).map nD)]):=by
    have:We (zcx (zaa 1) (zcs (eOp zbf (zaa 2) (eC (.int 1)))) (zc2)) [~~~m,~~~n,‹i›,some (nD x),x4] S1 λv S'=>v=.ref S1.length/\S' = S1++[.lst ((xs.drop (i+1)).map nD)]:=by
     simp only [zge,za9,zam,za6,zgb,zgc,zgd,ze6,qg0,qg1,zaq,zj7 (zbg hn1),e1,yee]
     exact ⟨nofun,by rw [List.map_drop]⟩
    obtain ⟨v,S',e,rfl,rfl⟩:=this
    exact e
   refine zj8 (n:=S1.length) ((xs.drop (i+1)).map nD) (λk l S'=>∃x4,l=[~~~m,~~~n,‹i›,some (nD x),x4]/\Gr (S1++[.lst ((xs.drop (i+1)).map nD)]) S'/\∀b y,b<k->(xs.drop (i+1))[b]? = some y->(x,y) ∉ F) (λd S'=>Gr S S'/\∃p,d=pD p/\Two F xs) he ⟨_,rfl,Gr.refl _,λb _ hb=>absurd hb (Nat.not_lt_zero _)⟩ (λk l S' ⟨_,_,g,_⟩=>g.lst zdj) ?_ ?_ (λd l' S' q=>.inr ⟨d,rfl,q⟩)
   ·rintro k v l S2 hx ⟨x4,rfl,g2,no2⟩
    rw [qgm] at hx
    obtain ⟨y,hy,rfl⟩:=Option.map_eq_some_iff.mp hx
    have g02:Gr S S2:=(g1.trans ⟨_,rfl⟩).trans g2
    simp only [zat,qs0,qs1]
    refine zck (λb S'=>b=decide ((x,y)∈F)/\S' = S2) ?_ ?_ ?_
    ·have s2:2<=sizeLine:=by decide
     simp only [zb0,za9,zaz,zaw,zav,zdg,zam,List.length_cons,List.length_nil,s2,true_and,qg0,qg1,zaq,zru]
     exact ⟨_,zmz (g02.get hm) (zgi (x,y)),_,rfl,by rw [zsy];rfl,nofun⟩
    ·rintro S' ⟨hc,rfl⟩
     have hF:(x,y)∈F:=of_decide_eq_true hc.symm
     have s2:2<=sizeLine:=by decide
     simp only [zcg,zaz,zaw,zav,zdg,zam,List.length_cons,List.length_nil,s2,true_and,qg0,qg1,zaq]
     rw [zs5] at hy
     exact .inr ⟨_,rfl,g02,(x,y),rfl,i,i+1+k,x,y,by lia,hxi,hy,hF⟩
    ·rintro S' ⟨hc,rfl⟩
     have hF:(x,y) ∉ F:=of_decide_eq_false hc.symm
     rw [zcj]
     refine .inl ⟨.inl rfl,_,rfl,g2,λb z hb hz=>?_⟩
     rcases Nat.lt_or_ge b k with c|c
     ·exact no2 b z c hz
     ·have:b=k:=by lia
      subst this
      rw [hy] at hz;cases hz;exact hF
   ·rintro l S2 ⟨x4,rfl,g2,no2⟩
    refine .inl ⟨.inl rfl,_,_,_,rfl,(g1.trans ⟨_,rfl⟩).trans g2,λa b z y ha hab hz hy=>?_⟩
    rcases Nat.lt_or_ge a i with c|c
    ·exact no a b z y c hab hz hy
    ·have:a=i:=by lia
     subst this
     rw [hxi] at hz;cases hz
     have hb:(xs.drop (a+1))[b-(a+1)]? = some y:=by rw [zs5,show a+1+(b-(a+1))=b by lia];exact hy
     refine no2 _ y ?_ hb
     rw [qlm]
     exact (qme hb).1
  ·rintro l S1 ⟨x2,x3,x4,rfl,g1,no⟩
   refine .inl ⟨nofun,g1,?_⟩
   rintro ⟨i,j,x,y,hij,hx,hy,hF⟩
   have hi:=(qme hx).1
   exact no i j x y (by rw [zrj,qlm];exact hi) hij hx hy hF
 ·rintro l S1 ⟨g,no⟩
  simp only [zcg,za6]
  exact ⟨g,.inl ⟨nofun,no⟩⟩
 ·rintro d l S1 ⟨g,p,rfl,h⟩
  exact ⟨g,.inr ⟨p,rfl,h⟩⟩
noncomputable def zem (ns:List Nat):List Nat:=(sortI (zdw (ns.map Int.ofNat))).map Int.toNat
theorem zki (ns:List Nat) (x:Nat):x∈zem ns↔x∈ns:=by
 unfold zem
 rw [List.mem_map]
 constructor
 ·rintro ⟨z,hz,rfl⟩
  rw [(zdi _).mem_iff,zj1] at hz
  obtain ⟨n,hn,rfl⟩:=List.mem_map.mp hz
  exact hn
 ·intro h
  refine ⟨(x:Int),?_,rfl⟩
  rw [(zdi _).mem_iff,zj1]
  exact List.mem_map.mpr ⟨x,h,rfl⟩
theorem yg1 (ns:List Nat):(sortI (zdw (ns.map Int.ofNat))).map D.int=(zem ns).map nD:=by
 unfold zem
 rw [List.map_map]
 apply List.map_congr_left
 intro z hz
 rw [(zdi _).mem_iff,zj1] at hz
 obtain ⟨n,hn,rfl⟩:=List.mem_map.mp hz
 rfl
theorem yg2 {ns:List Nat}{i j x y:Nat}(h:i<j) (hx:(zem ns)[i]? = some x) (hy:(zem ns)[j]? = some y):x<y:=by
 unfold zem at hx hy
 rw [qgm] at hx hy
 obtain ⟨a,ha,rfl⟩:=Option.map_eq_some_iff.mp hx
 obtain ⟨b,hb,rfl⟩:=Option.map_eq_some_iff.mp hy
 have nd:(sortI (zdw (ns.map Int.ofNat))).Nodup:=(zdi _).nodup_iff.mpr (ydh _)
 obtain ⟨hi,ei⟩:=qme ha
 obtain ⟨hj,ej⟩:=qme hb
 have le:=List.pairwise_iff_getElem.mp (zqu (zdw (ns.map Int.ofNat))) i j hi hj h
 have ne:=List.pairwise_iff_getElem.mp nd i j hi hj h
 rw [ei,ej] at le ne
 have ma:=qmg ha
 have mb:=qmg hb
 rw [(zdi _).mem_iff,zj1] at ma mb
 obtain ⟨n,_,rfl⟩:=List.mem_map.mp ma
 obtain ⟨k,_,rfl⟩:=List.mem_map.mp mb
 have le':(n:Int)<=(k:Int):=le
 have ne':¬(n:Int)=(k:Int):=ne
 show n<k
 lia
theorem zkj:∀ns:List Nat,zcq (ns.map nD)=some (ns.map Int.ofNat)
 | []=>rfl
 | n :: ns=>by
  show (zcq (ns.map nD)).bind _=_
  rw [zkj ns];rfl
theorem yg3 (h:ns.length<64):zg5 [.tup (ns.map nD)] S=some (.ref S.length,S++[.lst ((zem ns).map nD)]):=by
 unfold zg5
 show (zcq (ns.map nD)).bind _=_
 rw [zkj]
 show (if (ns.map Int.ofNat).length<64 then _ else _)=_
 rw [if_pos (by rw [qlm];exact h),yg1]
def zgj (A:Nat) (g:List (List Cl)) (ns:List Nat):Prop:=∀x∈ns,∀y∈ns,¬Pt A g (x,y)
theorem zs6 (hF:∀p,p∈F↔InP g p/\Pt A g p) (hr:∀x∈ns,x<g.length):¬Two F (zem ns)↔zgj A g ns:=by
 constructor
 ·intro no x hx y hy hp
  obtain ⟨w,hw⟩:=hp
  have key:∀a b,a∈ns->b∈ns->a<b->¬Pt A g (a,b):=λa b ha hb hab h=>by
   obtain ⟨i,hi⟩:=List.mem_iff_getElem?.mp ((zki ns a).mpr ha)
   obtain ⟨j,hj⟩:=List.mem_iff_getElem?.mp ((zki ns b).mpr hb)
   have hij:i<j:=by
    rcases Nat.lt_trichotomy i j with c|c|c
    ·exact c
    ·subst c;rw [hi] at hj;cases hj;lia
    ·have:=yg2 c hj hi;lia
   exact no ⟨i,j,a,b,hij,hi,hj,(hF (a,b)).mpr ⟨⟨hab,hr b hb⟩,h⟩⟩
  rcases Nat.lt_trichotomy x y with c|c|c
  ·exact key x y hx hy c ⟨w,hw⟩
  ·subst c;exact zkg hw
  ·exact key y x hy hx c ⟨w,zhd hw⟩
 ·rintro fit ⟨i,j,x,y,hij,hx,hy,hm⟩
  exact fit x ((zki ns x).mp (qmg hx)) y ((zki ns y).mp (qmg hy)) ((hF (x,y)).mp hm).2
theorem yg4 (ok:OkM A g) (hr:∀x∈ns,x<g.length) (hl:ns.length<64):Wo (zek [mD A g,.tup (ns.map nD)] S) λv S'=>Gr S S'/\∃b:Bool,v=.bl b/\(b=true↔zgj A g ns):=by
 unfold zek zr7
 dsimp! only [zb1]
 simp only [zcg,za9,zaz,zaw,zav,zam,za6,qg0,qg1,zaq]
 refine (ygn ok).mono ?_
 rintro v S1 ⟨m,F,rfl,hm,g1,hml,nd,hF⟩
 refine ⟨_,_,yg3 hl,?_⟩
 refine (yg0 (n:=S1.length) (zb8 hm) zce).mono ?_
 rintro v S2 ⟨g2,hv⟩
 have g02:Gr S S2:=(g1.trans ⟨_,rfl⟩).trans g2
 rcases hv with ⟨rfl,no⟩|⟨p,rfl,yes⟩
 ·simp only [zjj]
  exact ⟨g02,true,nofun,by simpa using (zs6 hF hr).mp no⟩
 ·simp only [zjj,yfy]
  exact ⟨g02,false,nofun,by simpa using λz=>(zs6 hF hr).mpr z yes⟩
section
theorem yg5 (xs:List D) (R:Nat->List D->Lo->Sto->Prop) (him:im l S=some (it,xs.length+1,S1)) (h0:R 0 [] (za2 ixs l) S1) (hit:∀i acc l S,R i acc l S->it i S=some xs[i]?)
  (step:∀(i:Nat) x acc l S,xs[i]? = some x->R i acc l S->Wg (g x l S) λl1 S1=>Wt t l1 S1 λb S2=>if b=true then We e l1 S2 λv S3=>R (i+1) (acc++[v]) l1 S3 else R (i+1) acc l1 S2)
  (fin:∀acc l' S',R xs.length acc l' S'->∃ns,zcq acc=some ns/\ns.length<64/\Q (.ref S'.length) (S'++[.lst ((sortI (zej ns)).map .int)])):We (zia im ixs g t e) l S Q:=by
 obtain ⟨rest,S',l',h1,h2⟩:=zic (it:=it) (g:=g) (t:=t) (e:=e) xs R hit step xs.length 0 [] (za2 ixs l) S1 rfl h0
 obtain ⟨ns,hn,hz,q⟩:=fin rest l' S' h2
 refine ⟨_,_,?_,q⟩
 unfold zia
 rw [him]
 show (zbx it g t e (xs.length+1) 0 (za2 ixs l) S1).bind _=_
 rw [h1]
 show (zcq rest).bind _=_
 rw [hn]
 show (if _ then _ else _)=_
 rw [if_pos hz]
end
theorem zs7 {n:Nat}{xs:List (Option Nat)}{r:Nat}{neg:Bool}(h:S[n]? = some (.lst (xs.map oD))):Wo (dIn neg (.int (r:Int)) (.ref n) S) Q=Q (.bl (if neg then !decide (some r∈xs) else decide (some r∈xs))) S:=by
 have e1:((xs.map oD).any λy=>zfy y (.int (r:Int)))=decide (some r∈xs):=by
  rw [List.any_map]
  rw [Bool.eq_iff_iff,List.any_eq_true,decide_eq_true_eq]
  constructor
  ·rintro ⟨o,ho,he⟩
   cases o with
   | none=>cases he
   | some k =>
    have:(k:Int)=(r:Int):=by simpa [oD,zfy] using he
    have:k=r:=by lia
    subst this;exact ho
  ·intro ho
   exact ⟨some r,ho,by simp [oD,zfy]⟩
 have e2:(xs.map oD).all zhz=true:=by
  rw [List.all_map,List.all_eq_true]
  intro o _
  cases o <;> rfl
 have:dIn neg (.int (r:Int)) (.ref n) S=some (.bl (if neg then !decide (some r∈xs) else decide (some r∈xs)),S):=by
  unfold dIn zjn zjm
  dsimp only
  rw [h]
  show zjl neg (.int (r:Int)) (.ref n) S=_
  unfold zjl zpn
  dsimp only
  rw [zbg h]
  show (if _ then _ else _)=_
  rw [if_pos ⟨rfl,e2⟩,e1]
 rw [this];exact zbl
noncomputable def fo (g:List (List Cl)) (a:Nat) (xs:List Nat):List (Option Nat):=xs.map λx=>(cell g x a).1
noncomputable def ze8 (g:List (List Cl)) (a:Nat) (xs:List Nat):List Nat:=(List.range g.length).filter λr=>decide (some r∈fo g a xs)
theorem yg6 (ok:OkM A g) (ha:a<A) (hx:∀x∈xs,x<g.length):(sortI (zej (((fo g a xs).filterMap id).map Int.ofNat))).map D.int=(ze8 g a xs).map nD:=by
 have e:(ze8 g a xs).map Int.ofNat=sortI (zej (((fo g a xs).filterMap id).map Int.ofNat)):=by
  apply zmm
  ·rw [List.perm_ext_iff_of_nodup _ (ydw _)]
   ·intro z
    rw [ydv,List.mem_map,List.mem_map]
    constructor
    ·rintro ⟨r,hr,rfl⟩
     have:=of_decide_eq_true (List.mem_filter.mp hr).2
     exact ⟨r,List.mem_filterMap.mpr ⟨some r,this,rfl⟩,rfl⟩
    ·rintro ⟨r,hr,rfl⟩
     obtain ⟨o,ho,e⟩:=List.mem_filterMap.mp hr
     have e:o=some r:=e
     subst e
     refine ⟨r,List.mem_filter.mpr ⟨?_,decide_eq_true ho⟩,rfl⟩
     obtain ⟨x,hx1,hx2⟩:=List.mem_map.mp ho
     exact List.mem_range.mpr (zit ok (hx x hx1) ha hx2)
   ·show List.Pairwise _ _
    rw [List.pairwise_map]
    exact (List.Pairwise.filter _ List.nodup_range).imp λh z=>h (Int.ofNat.inj z)
  ·rw [List.pairwise_map]
   refine List.Pairwise.filter _ ?_
   refine List.Pairwise.imp ?_ List.pairwise_lt_range
   intro a b h
   exact Int.ofNat_le.mpr (Nat.le_of_lt h)
 rw [<-e,List.map_map]
 rfl
theorem yg7 (os:List (Option Nat)):zcq ((os.filterMap id).map nD)=some ((os.filterMap id).map Int.ofNat):=zkj _
theorem zs8 (ok:OkM A g) (ha:a<A) (hx:∀x∈xs,x<g.length) (hl:xs.length<64):Wo (zha [mD A g,.tup (xs.map nD),.int (a:Int)] S) λv S'=>Gr S S'/\v=.tup ((ze8 g a xs).map nD):=by
 have sz:=zcb
 unfold zha zrx
 dsimp! only [zb1]
 refine za3 (λl S'=>Gr S S'/\∃n,S'[n]? = some (.lst (xs.map λx=>cD (cell g x a)))/\l=[some (mD A g),some (.tup (xs.map nD)),‹a›,~~~n]) ?_ ?_
 ·rw [zbj]
  refine zka xs nD (λx=>cD (cell g x a)) (λS'=>S' = S) (λl=>∃x0,l=[x0,some (mD A g),‹a›]) (zid rfl) rfl ⟨_,rfl⟩ (λi S' _=>rfl) (by lia) ?_ ?_
  ·rintro x l S1 hx1 ⟨x0,rfl⟩ rfl
   simp only [zat,qs0]
   refine ⟨⟨_,rfl⟩,?_⟩
   unfold mD nD
   simp only [za9,zam,za6,qg0,qg1,zaq,zcr,zke,zbu]
   have:=(zkc (S:=S1) (Q:=λv S3=>v=cD (cell g x a)/\S3=S1) ok (hx x hx1) ha).mpr ⟨rfl,rfl⟩
   simpa only [zcr] using this
  ·rintro S1 rfl
   simp only [zat,qs0,qs1]
   exact ⟨nofun,⟨_,rfl⟩,_,zce,rfl⟩
 rintro l S1 ⟨g1,n,hn,rfl⟩
 simp only [zcg,zaz,zaw,zav]
 refine yg5 (xs.map λx=>cD (cell g x a)) (λi acc l S'=>S' = S1/\acc=(((fo g a xs).take i).filterMap id).map nD/\∃x0 x1,l=[x0,x1]) (zj5 (n:=n) rfl (zbg hn)) ⟨rfl,rfl,_,_,rfl⟩ (λi acc l S' h=>by rw [h.1];exact zie (zbg hn)) ?_ ?_
 ·rintro i x acc l S' hx ⟨rfl,rfl,x0,x1,rfl⟩
  rw [qgm] at hx
  obtain ⟨y,hy,rfl⟩:=Option.map_eq_some_iff.mp hx
  have hfo:(fo g a xs)[i]? = some (cell g y a).1:=by unfold fo;rw [qgm,hy];rfl
  unfold cD
  simp only [zfv,zfx,zfw,zat,List.length_cons,List.length_nil,qs0,qs1]
  try refine ⟨by first|rfl|trivial,?_⟩
  simp only [zb0,za9,zam,za6,qg0,qg1,zaq,zlv,zch,zkd]
  rw [List.take_add_one,hfo]
  cases hc:(cell g y a).1 with
  | none =>
   simp only [Option.isNone_none,Bool.not_true,qbf,if_false]
   exact ⟨nofun,by simp,_,_,rfl⟩
  | some r =>
   simp only [Option.isNone_some,Bool.not_false,if_true]
   exact ⟨nofun,by simp [oD,nD],_,_,rfl⟩
 ·rintro acc l S' ⟨rfl,rfl,x0,x1,rfl⟩
  have ht:(fo g a xs).take (xs.map λx=>cD (cell g x a)).length=fo g a xs:=List.take_of_length_le (by simp [fo])
  rw [ht]
  have hlen:(((fo g a xs).filterMap id).map Int.ofNat).length<64:=by
   rw [qlm]
   refine Nat.lt_of_le_of_lt (List.length_filterMap_le _ _) ?_
   simpa [fo] using hl
  refine ⟨_,yg7 _,hlen,?_⟩
  rw [yg6 ok ha hx,zey]
  exact ⟨_,zdj,g1.trans ⟨_,rfl⟩,rfl⟩
theorem yg8 (ok:OkM A g) (ha:a<A) (hx:∀x∈xs,x<g.length) (hl:xs.length<64):Wo (zii [mD A g,.tup (xs.map nD),.int (a:Int)] S) λv S'=>Gr S S'/\v=.tup ((ze8 g a xs).map nD):=by
 have sz:=zcb
 have r24:=ok.r24
 unfold zii zrz
 dsimp! only [zb1]
 refine zbm (l':=[some (mD A g),some (.tup (xs.map nD)),‹a›,some (.ref S.length),none]) (S':=S++[.lst []]) (by simp! only [zam];exact ⟨by lia,nofun,nofun,nofun⟩) ?_
 refine za3 (λl S'=>Gr S S'/\S'[S.length]? = some (.lst ((ze8 g a xs).map nD))/\∃x4,l=[some (mD A g),some (.tup (xs.map nD)),‹a›,some (.ref S.length),x4]) ?_ ?_
 ·refine ze5 (λi l S'=>Gr S S'/\S'[S.length]? = some (.lst (((List.range i).filter λr=>decide (some r∈fo g a xs)).map nD))/\∃x4,l=[some (mD A g),some (.tup (xs.map nD)),‹a›,some (.ref S.length),x4]) (λ_ _=>False) (n:=g.length) (S1:=S++[.lst []]) ?_ (by lia) ⟨⟨_,rfl⟩,zce,_,rfl⟩ ?_ ?_ (λd l' S' z=>z.elim)
  ·have:Wa (zac (zaf zb7 (zac (eOp zai (zaa 0) (eC (.int 1))) (zae))) (zae)) [some (mD A g),some (.tup (xs.map nD)),‹a›,some (.ref S.length),none] (S++[.lst []]) λv S'=>v=[.int (g.length:Int)]/\S' = S++[.lst []]:=by
    unfold mD
    simp only [zaw,zav,zaz,za9,zam,za6,qg0,qg1,zaq,zcr,zke,zbu,zj3,qlm]
    exact ⟨nofun,nofun⟩
   obtain ⟨v,S',e,rfl,rfl⟩:=this
   exact e
  ·rintro i l S1 hi ⟨g1,hs1,x4,rfl⟩
   simp only [zat,qs0,qs1]
   refine zck (λb S'=>b=decide (some i∈fo g a xs)/\Gr S1 S') ?_ ?_ ?_
   ·simp only [zb0,za9,zam,qg0,qg1,zaq]
    refine zka xs nD (λx=>oD (cell g x a).1) (λS'=>S' = S1) (λl=>∃x0,l=[x0,some (mD A g),‹a›]) (zid rfl) rfl ⟨_,rfl⟩ (λi S' _=>rfl) (by lia) ?_ ?_
    ·rintro x l S2 hx1 ⟨x0,rfl⟩ rfl
     simp only [zat,qs0]
     refine ⟨⟨_,rfl⟩,?_⟩
     unfold mD nD
     simp only [za9,zam,za6,qg0,qg1,zaq,zcr,zke,zbu]
     have:=(zkc (S:=S2) (Q:=λv S3=>Wo (zai v (.int 0) S3) λv S4=>v=oD (cell g x a).1/\S4=S2) ok (hx x hx1) ha).mpr (by unfold cD;rw [zcr,zj2,zbu];exact ⟨rfl,rfl⟩)
     simpa only [zcr] using this
    ·rintro S2 rfl
     have hfo:(xs.map λx=>oD (cell g x a).1)=(fo g a xs).map oD:=by unfold fo;rw [List.map_map];rfl
     rw [hfo,zs7 zce]
     exact ⟨_,rfl,rfl,⟨_,rfl⟩⟩
   ·rintro S2 ⟨hc,g2⟩
    have hs2:=g2.get hs1
    simp only [zev,zdu,zaw,zav,zam,qg0,qg1,zaq]
    refine ⟨⟨_,zd4 hs2⟩,?_⟩
    rw [zg9 hs2 (by rw [qlm];have:=List.length_filter_le (λr=>decide (some r∈fo g a xs)) (List.range i);rw [List.length_range] at this;lia)]
    refine .inl ⟨(by first|exact .inl rfl|exact .inl trivial|trivial),(g1.trans g2).set (qlr _) _,?_,_,rfl⟩
    rw [zel hs2,List.range_succ,List.filter_append,List.map_append]
    simp [<-hc,nD]
   ·rintro S2 ⟨hc,g2⟩
    rw [zcj]
    refine .inl ⟨.inl rfl,g1.trans g2,?_,_,rfl⟩
    rw [g2.get hs1,List.range_succ,List.filter_append,List.map_append]
    simp [<-hc]
  ·rintro l S1 ⟨g1,hs1,x4,rfl⟩
   exact ⟨rfl,g1,hs1,_,rfl⟩
 rintro l S1 ⟨g1,hs1,x4,rfl⟩
 simp only [zcg,zaz,zaw,zav,zam,qg0,qg1,zaq,zey]
 exact ⟨_,zbg hs1,g1,nofun⟩
noncomputable def zl (xs ys:List D):List D:=List.zipWith (λx y=>D.tup [x,y]) xs ys
theorem zs9 (xs ys:List D):(zl xs ys).length=min xs.length ys.length:=by simp [zl]
theorem zta (xs ys:List D) (i:Nat):(zl xs ys)[i]? = (xs[i]?).bind λx=>(ys[i]?).map λy=>D.tup [x,y]:=by
 unfold zl
 rw [List.getElem?_zipWith]
 cases xs[i]? <;> cases ys[i]? <;> rfl
theorem yg9 (h1:i1 i S=some xs[i]?) (h2:i2 i S=some ys[i]?):itZ i1 i2 i S=some (zl xs ys)[i]?:=by
 unfold itZ
 rw [h1,zta]
 cases hx:xs[i]? with
 | none=>rfl
 | some x =>
  show (i2 i S).bind _=_
  rw [h2]
  cases hy:ys[i]? <;> rfl
theorem yha (h:as l S=some ([.tup xs,.tup ys],S1)):zjz as l S=some (itZ (itX xs) (itX ys),(zl xs ys).length+1,S1):=by
 unfold zjz
 rw [h]
 show some _=_
 rw [zs9]
structure Tab (b N:Nat) (f:Nat->Nat->Bool) (S:Sto):Prop where
 top:S[b+N]? = some (.lst ((List.range N).map λi=>D.ref (b+i)))
 row:∀i,i<N->S[b+i]? = some (.lst ((List.range N).map λj=>D.bl (f i j)))
theorem zkk (F:Nat->D) (h:i<N):L2.atI ((List.range N).map F) (i:Int)=some (F i):=atI_get (by rw [qgm,List.getElem?_range h];rfl)
theorem Tab.gr (h:Tab b N f S) (g:Gr S S'):Tab b N f S':=⟨g.get h.top,λi hi=>g.get (h.row i hi)⟩
theorem Tab.at (h:Tab b N f S) (hx:x<N) (hy:y<N):Wo (zai (.ref (b+N)) (.int (x:Int)) S) (λv S1=>Wo (zai v (.int (y:Int)) S1) Q)=Q (.bl (f x y)) S:=by
 rw [zf9,zbg h.top]
 simp only [zbu,zkk _ hx]
 rw [zf9,zbg (h.row x hx)]
 simp only [zbu,zkk _ hy]
noncomputable def zgk (f:Nat->Nat->Bool) (i j:Nat):Nat->Nat->Bool:=λx y=>f x y || (x == i && y == j)
theorem yhb {N j:Nat}{r:Nat->Bool}:((List.range N).map λy=>D.bl (r y)).set j (.bl true)=(List.range N).map λy=>D.bl (r y || (y == j)):=by
 apply List.ext_getElem?
 intro k
 rw [qgm]
 by_cases e:j=k
 ·subst e
  by_cases hj:j<N
  ·rw [List.getElem?_set_self (by simpa using hj),List.getElem?_range hj];simp
  ·rw [List.getElem?_eq_none (by simpa using hj),List.getElem?_eq_none (by simpa using hj)];rfl
 ·rw [List.getElem?_set_ne e,qgm]
  have:(k == j)=false:=by simpa using λz:k=j=>e z.symm
  cases h:(List.range N)[k]? with
  | none=>rfl
  | some m =>
   have:m=k:=by
    have:=(qme h).2
    simpa using this.symm
   subst this
   simp [*]
theorem Tab.set (h:Tab b N f S) (hi:i<N) (hj:j<N):Tab b N (zgk f i j) (S.set (b+i) (.lst (((List.range N).map λy=>D.bl (f i y)).set j (.bl true)))):=by
 refine ⟨zcf h.top (by lia),λx hx=>?_⟩
 by_cases e:x=i
 ·subst e
  rw [zel (h.row x hx),yhb]
  congr 2
  apply List.map_congr_left
  intro y _
  simp [zgk]
 ·rw [zcf (h.row x hx) (by lia)]
  have:(x == i)=false:=by simpa using e
  simp [zgk,this]
noncomputable def stp (g:List (List Cl)) (f:Nat->Nat->Bool) (p:BF.P) (a:Nat):Bool:=fl g p a || (match nxt g p a with
 | some q=>f q.1 q.2
 | none=>false)
noncomputable def prt (A:Nat) (g:List (List Cl)) (f:Nat->Nat->Bool) (p:BF.P):Bool:=(List.range A).any (stp g f p)
theorem yhc (h3:l[3]? = some (some (cD c))) (h4:l[4]? = some (some (cD d))) (q:QB (unl c.2 d.2) S) :
  Wt (zcm (tE (eOp (dIn true) (eC .non) (zaf zbo (zac (eOp zai (zaa 3) (eC (.int 1))) (zac (eOp zai (zaa 4) (eC (.int 1))) (zae)))))) (tE (eOp dNe (eOp zai (zaa 3) (eC (.int 1))) (eOp zai (zaa 4) (eC (.int 1)))))) l S QB:=by
 have s2:2<=sizeLine:=by decide
 unfold cD at h3 h4
 simp only [zft,zb0,za9,za6,zaz,zaw,zav,zam,h3,h4,zaq,zcr,zmr,zbu,zdg,List.length_cons,List.length_nil,s2,true_and,zm3,zch,if_true]
 obtain ⟨c1,c2⟩:=c
 obtain ⟨d1,d2⟩:=d
 cases c2 with
 | none=>exact q
 | some i =>
  cases d2 with
  | none=>exact q
  | some j =>
   have:both (some i) (some j)=some (i,j):=rfl
   simp only [this,Option.isSome_some,if_true,oD,zms,zch]
   have e:(!decide ((i:Int)=(j:Int)))=unl (some i) (some j):=by
    unfold unl
    by_cases z:i=j
    ·subst z;simp
    ·have:¬(i:Int)=(j:Int):=by lia
     simp [z,this]
   rw [e];exact q
theorem yhd (h2:l[2]? = some (some (.ref (b+N)))) (h3:l[3]? = some (some (cD c))) (h4:l[4]? = some (some (cD d))) (ht:Tab b N f S) (hc:∀x,c.1=some x->x<N) (hd:∀x,d.1=some x->x<N)
  (q:QB (match both c.1 d.1 with|some q=>f q.1 q.2|none=>false) S) :
  Wt (zcm (tE (eOp (dIn true) (eC .non) (zaf zbo (zac (eOp zai (zaa 3) (eC (.int 0))) (zac (eOp zai (zaa 4) (eC (.int 0))) (zae)))))) (tE (eOp zai (eOp zai (zaa 2) (eOp zai (zaa 3) (eC (.int 0)))) (eOp zai (zaa 4) (eC (.int 0)))))) l S QB:=by
 have s2:2<=sizeLine:=by decide
 unfold cD at h3 h4
 simp only [zft,zb0,za9,za6,zaz,zaw,zav,zam,h2,h3,h4,zaq,zcr,zj2,zbu,zdg,List.length_cons,List.length_nil,s2,true_and,zm3,zch,if_true]
 obtain ⟨c1,c2⟩:=c
 obtain ⟨d1,d2⟩:=d
 cases c1 with
 | none=>exact q
 | some i =>
  cases d1 with
  | none=>exact q
  | some j =>
   have e:both (some i) (some j)=some (i,j):=rfl
   rw [e] at q
   simp only [e,Option.isSome_some,if_true,oD]
   rw [ht.at (hc i rfl) (hd j rfl)]
   exact ⟨_,rfl,q⟩
theorem yhe (ok:OkM A g) (hi:i<g.length) (hj:j<g.length) (hc:g[i]? = some cs) (hd:g[j]? = some ds) (ht:Tab b g.length f S):Wo (zgh [rD cs,rD ds,.ref (b+g.length)] S) λv S'=>v=.bl (prt A g f (i,j))/\S' = S:=by
 have lc:=ok.len cs (qmg hc)
 have ld:=ok.len ds (qmg hd)
 unfold zgh zsc
 dsimp! only [zb1]
 refine zgf (λl S'=>S' = S/\prt A g f (i,j)=false) (λd S'=>S' = S/\d=.bl true/\prt A g f (i,j)=true) ?_ ?_ ?_
 ·refine zrm (zl (cs.map cD) (ds.map cD)) (λk l S'=>S' = S/\(∀a,a<k->stp g f (i,j) a=false)/\∃x3 x4,l=[some (rD cs),some (rD ds),~~~(b+g.length),x3,x4]) (λd S'=>S' = S/\d=.bl true/\prt A g f (i,j)=true) (yha rfl) ⟨rfl,λa ha=>absurd ha (Nat.not_lt_zero _),_,_,rfl⟩ (λk l S' h=>yg9 rfl rfl) ?_ ?_ (λd l' S' q=>.inr ⟨d,rfl,q⟩)
  ·rintro k x l S1 hx ⟨rfl,no,x3,x4,rfl⟩
   rw [zta,qgm,qgm] at hx
   obtain ⟨u,hu,hx⟩:=bnd hx
   obtain ⟨w,hw,rfl⟩:=Option.map_eq_some_iff.mp hx
   obtain ⟨c,hcc,rfl⟩:=Option.map_eq_some_iff.mp hu
   obtain ⟨d,hdd,rfl⟩:=Option.map_eq_some_iff.mp hw
   have hk:k<A:=by rw [<-lc];exact (qme hcc).1
   have ec:cell g i k=c:=by unfold cell;rw [hc];show (cs[k]?).getD _=_;rw [hcc];rfl
   have ed:cell g j k=d:=by unfold cell;rw [hd];show (ds[k]?).getD _=_;rw [hdd];rfl
   have es:stp g f (i,j) k=(unl c.2 d.2 || (match both c.1 d.1 with|some q=>f q.1 q.2|none=>false)):=by
    unfold stp fl nxt
    rw [ec,ed]
   simp only [zfv,zfx,zfw,zat,List.length_cons,List.length_nil,qs0,qs1]
   try refine ⟨by first|rfl|trivial,?_⟩
   have yes:stp g f (i,j) k=true->prt A g f (i,j)=true:=λh=>List.any_eq_true.mpr ⟨k,List.mem_range.mpr hk,h⟩
   refine zgf (λl S'=>S' = S1/\unl c.2 d.2=false/\l=[some (rD cs),some (rD ds),~~~(b+g.length),some (cD c),some (cD d)]) (λd S'=>S' = S1/\d=.bl true/\prt A g f (i,j)=true) ?_ ?_ (λd l' S' q=>.inr ⟨d,rfl,q⟩)
   ·refine zck (λk S'=>k=unl c.2 d.2/\S' = S1) (yhc rfl rfl ⟨rfl,rfl⟩) ?_ ?_
    ·rintro S' ⟨hu,rfl⟩
     simp only [zcg,za6]
     exact .inr ⟨_,rfl,nofun,nofun,yes (by rw [es,<-hu];rfl)⟩
    ·rintro S' ⟨hu,rfl⟩
     rw [zcj]
     exact .inl ⟨rfl,rfl,hu.symm,rfl⟩
   rintro l S' ⟨rfl,hn,rfl⟩
   refine zck (λk S2=>k=(match both c.1 d.1 with|some q=>f q.1 q.2|none=>false)/\S2=S') (yhd rfl rfl rfl ht (λx hx=>?_) (λx hx=>?_) ⟨rfl,rfl⟩) ?_ ?_
   ·exact zit ok hi hk (by rw [ec];exact hx)
   ·exact zit ok hj hk (by rw [ed];exact hx)
   ·rintro S2 ⟨hu2,rfl⟩
    simp only [zcg,za6]
    exact .inr ⟨_,rfl,nofun,nofun,yes (by rw [es,<-hu2,Bool.or_true])⟩
   ·rintro S2 ⟨hu2,rfl⟩
    rw [zcj]
    refine .inl ⟨.inl rfl,rfl,λa ha=>?_,_,_,rfl⟩
    rcases Nat.lt_or_ge a k with z|z
    ·exact no a z
    ·have:a=k:=by lia
     subst this
     rw [es,hn,<-hu2];rfl
  ·rintro l S1 ⟨rfl,no,x3,x4,rfl⟩
   refine .inl ⟨rfl,rfl,?_⟩
   rw [zs9,qlm,qlm,lc,ld,Nat.min_self] at no
   unfold prt
   rw [List.any_eq_false]
   intro a ha
   rw [no a (List.mem_range.mp ha)];decide
 ·rintro l S1 ⟨rfl,h⟩
  simp only [zcg,za6]
  exact ⟨by rw [h],nofun⟩
 ·rintro d l S1 ⟨rfl,rfl,h⟩
  exact ⟨by rw [h],rfl⟩
abbrev TF:=Nat->Nat->Bool
noncomputable def up (f:TF) (i j:Nat):TF:=zgk (zgk f i j) j i
theorem up_iff:up f i j x y=true↔f x y=true\/(x=i/\y=j)\/(x=j/\y=i):=by
 unfold up zgk
 simp only [Bool.or_eq_true,Bool.and_eq_true,beq_iff_eq,or_assoc]
noncomputable def ze9 (N:Nat) (f:TF):Nat:=((apL N).filter λp=>!f p.1 p.2).length
theorem ztb {α:Type}{p q:α->Bool}:∀{l:List α}{z:α},(∀x∈l,q x=true->p x=true)->z∈l->p z=true->q z=false->(l.filter q).length<(l.filter p).length
 | [],z,_,hz,_,_=>by cases hz
 | x :: l,z,h,hz,hp,hq=>by
  have le:(l.filter q).length<=(l.filter p).length:=by
   have hl:∀x∈l,q x=true->p x=true:=λx hx=>h x (List.mem_cons_of_mem _ hx)
   clear h hz hp hq
   induction l with
   | nil=>exact qlr _
   | cons y l ih =>
    have:=ih λx hx=>hl x (List.mem_cons_of_mem _ hx)
    have hy:=hl y List.mem_cons_self
    rw [List.filter_cons,List.filter_cons]
    split
    ·rename_i e
     rw [if_pos (hy e)]
     simpa using this
    ·split
     ·rw [List.length_cons];lia
     ·exact this
  rw [List.filter_cons,List.filter_cons]
  rcases List.mem_cons.mp hz with rfl|hz
  ·rw [if_neg (by rw [hq];decide),if_pos hp,List.length_cons]
   lia
  ·have ih:=ztb (λx hx=>h x (List.mem_cons_of_mem _ hx)) hz hp hq
   split
   ·rename_i e
    rw [if_pos (h x List.mem_cons_self e)]
    simpa using ih
   ·split
    ·rw [List.length_cons];lia
    ·exact ih
theorem yhf {N i j:Nat}{f:TF}(hj:j<i) (hi:i<N) (h:f j i=false):ze9 N (up f i j)<ze9 N f:=by
 unfold ze9
 refine ztb (z:=(j,i)) (λp _ hp=>?_) (mem_ap.mpr ⟨hj,hi⟩) (by simp [h]) ?_
 ·cases e:f p.1 p.2 with
  | false=>rfl
  | true =>
   have:up f i j p.1 p.2=true:=up_iff.mpr (.inl e)
   rw [this] at hp;cases hp
 ·have:up f i j j i=true:=up_iff.mpr (.inr (.inr ⟨rfl,rfl⟩))
  rw [this];rfl
theorem yhg (N:Nat) (f:TF):ze9 N f<=N*N:=Nat.le_trans (List.length_filter_le _ _) (ziu N)
structure Snd (A:Nat) (g:List (List Cl)) (f:TF):Prop where
 pt:∀x y,f x y=true->Pt A g (x,y)
 sy:∀x y,f x y=f y x
theorem ztc (h:Snd A g f) (hp:prt A g f p=true):Pt A g p:=by
 obtain ⟨a,ha,hs⟩:=List.any_eq_true.mp hp
 have ha:=List.mem_range.mp ha
 unfold stp at hs
 rcases (Bool.or_eq_true _ _).mp hs with z|z
 ·exact zss (List.any_eq_true.mpr ⟨a,List.mem_range.mpr ha,z⟩)
 ·cases hn:nxt g p a with
  | none=>rw [hn] at z;cases z
  | some q =>
   rw [hn] at z
   obtain ⟨w,hw⟩:=h.pt q.1 q.2 z
   exact ⟨_,BF.fails_cons ha hn hw⟩
theorem Snd.up (h:Snd A g f) (hp:prt A g f (i,j)=true):Snd A g (up f i j):=by
 refine ⟨λx y hxy=>?_,λx y=>?_⟩
 ·rcases up_iff.mp hxy with z|⟨rfl,rfl⟩|⟨rfl,rfl⟩
  ·exact h.pt x y z
  ·exact ztc h hp
  ·obtain ⟨w,hw⟩:=ztc h hp
   exact ⟨w,zhd hw⟩
 ·rw [Bool.eq_iff_iff,up_iff,up_iff,h.sy x y]
  constructor <;> rintro (z|⟨rfl,rfl⟩|⟨rfl,rfl⟩) <;> simp [*]
def Cls (A:Nat) (g:List (List Cl)) (f:TF):Prop:=∀x y,y<x->x<g.length->f x y=false->prt A g f (x,y)=false
theorem yhh (ok:OkM A g) (h:Snd A g f) (hc:Cls A g f) (hx:x<g.length) (hy:y<g.length):f x y=true↔Pt A g (x,y):=by
 refine ⟨h.pt x y,λhp=>?_⟩
 have key:∀(w:List Nat) (p:BF.P),InP g p->BF.Fails A (nxt g) (fl g) p w->f p.2 p.1=true:=by
  refine zm5 ok (λp=>f p.2 p.1=true) (λp hp h1=>?_) (λp q a hp ha hn hq=>?_)
  ·cases e:f p.2 p.1 with
   | true=>rfl
   | false =>
    have:=hc p.2 p.1 hp.1 hp.2 e
    obtain ⟨a,ha,hf⟩:=List.any_eq_true.mp h1
    unfold prt at this
    rw [List.any_eq_false] at this
    refine absurd ?_ (this a ha)
    unfold stp
    have e2:fl g (p.2,p.1) a=fl g p a:=zsq g p a
    rw [e2,hf];rfl
  ·cases e:f p.2 p.1 with
   | true=>rfl
   | false =>
    have:=hc p.2 p.1 hp.1 hp.2 e
    unfold prt at this
    rw [List.any_eq_false] at this
    refine absurd ?_ (this a (List.mem_range.mpr ha))
    unfold stp
    have e2:nxt g (p.2,p.1) a=(nxt g p a).map swp:=zsr g p a
    rw [e2,hn]
    show (_ || f q.2 q.1)=true
    have:f q.2 q.1=true:=by
     unfold srt at hq
     split at hq
     ·rw [h.sy];exact hq
     ·exact hq
    rw [this,Bool.or_true]
 obtain ⟨w,hw⟩:=hp
 rcases Nat.lt_trichotomy x y with c|c|c
 ·rw [h.sy];exact key w (x,y) ⟨c,hy⟩ hw
 ·subst c;exact absurd hw zkg
 ·exact key w (y,x) ⟨c,hx⟩ (zhd hw)
theorem Tab.up (h:Tab b N f S) (hi:i<N) (hj:j<N):∃o1 o2,zc3 (.ref (b+i)) (.int (j:Int)) (.bl true) S=some (S.set (b+i) o1)/\zc3 (.ref (b+j)) (.int (i:Int)) (.bl true) (S.set (b+i) o1)=some ((S.set (b+i) o1).set (b+j) o2)/\Tab b N (zgk f i j) (S.set (b+i) o1)/\Tab b N (up f i j) ((S.set (b+i) o1).set (b+j) o2):=by
 have h1:=h.set hi hj
 exact ⟨_,_,zs2 (h.row i hi) (by simpa using hj),zs2 (h1.row j hj) (by simpa using hi),h1,h1.set hj hi⟩
inductive Rd (A:Nat) (g:List (List Cl)) (f:TF) (S0:Sto) (b:Nat) (P:Nat->Nat->Prop) (mo:Bool) (S:Sto):Prop
 | mk (f':TF) (t:Tab b g.length f' S) (gr:Gr S0 S) (s:Snd A g f') (yes:mo=true->ze9 g.length f' < ze9 g.length f) (no:mo=false->f' = f/\∀x y,P x y->y<x->x<g.length->f x y=false->prt A g f (x,y)=false)
theorem Rd.weak (h:Rd A g f S0 b P mo S) (w:∀x y,P' x y->y<x->P x y):Rd A g f S0 b P' mo S:=by
 obtain ⟨f',t,gr,s,yes,no⟩:=h
 exact ⟨f',t,gr,s,yes,λe=>⟨(no e).1,λx y hp hy=>(no e).2 x y (w x y hp hy) hy⟩⟩
noncomputable abbrev tLo (A:Nat) (g:List (List Cl)) (b:Nat) (mo:Bool) (x4 x5:Option D):Lo:=[some (mD A g),some (.tup (g.map rD)),~~~(b+g.length),some (.bl mo),x4,x5]
theorem yhi (ok:OkM A g) (hb:S0.length<=b) (hk:k<i) (hi:i<g.length) (h:Rd A g f S0 b P mo S) :
  Ws (sIf (zcm (zdb (tE (eOp zai (eOp zai (zaa 2) (zaa 4)) (zaa 5)))) (tE (zaf zgh (zac (eOp zai (zaa 1) (zaa 4)) (zac (eOp zai (zaa 1) (zaa 5)) (zac (zaa 2) (zae))))))) (zal (zao (eC (.bl true)) (zdd (eOp zai (zaa 2) (zaa 4)) (zaa 5))) (zal (zao (eC (.bl true)) (zdd (eOp zai (zaa 2) (zaa 5)) (zaa 4))) (zao (eC (.bl true)) (zah 3)))) (zbr))
   (tLo A g b mo (some (.int (i:Int))) (some (.int (k:Int)))) S λfl l' S'=>fl=.nx/\∃mo',l' = tLo A g b mo' (some (.int (i:Int))) (some (.int (k:Int)))/\Rd A g f S0 b (λx y=>P x y\/(x=i/\y=k)) mo' S':=by
 obtain ⟨f',t,gr,s,yes,no⟩:=h
 have hk2:k<g.length:=by lia
 obtain ⟨cs,hcs,e1⟩:=zsn (rs:=g) hi
 obtain ⟨ds,hds,e2⟩:=zsn (rs:=g) hk2
 refine zck (λc S'=>S' = S/\c=(!f' i k && prt A g f' (i,k))) ?_ ?_ ?_
 ·simp only [zft,zef,zb0,za9,zam,zaz,zaw,zav,qg0,qg1,zaq]
  rw [t.at hi hk2]
  simp only [zch]
  cases hf:f' i k with
  | true=>exact ⟨nofun,rfl⟩
  | false =>
   simp only [Bool.not_false,if_true,zcr,e1,e2,zbu]
   refine (yhe ok hi hk2 hcs hds t).mono ?_
   rintro v S1 ⟨rfl,rfl⟩
   exact ⟨_,rfl,rfl,rfl⟩
 ·rintro S1 ⟨rfl,hc⟩
  obtain ⟨hf,hp⟩:=(Bool.and_eq_true _ _).mp hc.symm
  have hf:f' i k=false:=by simpa using hf
  obtain ⟨o1,o2,q1,q2,t1,t2⟩:=t.up hi hk2
  refine zbm (l':=tLo A g b mo (some (.int (i:Int))) (some (.int (k:Int)))) (S':=S1.set (b+i) o1) ?_ ?_
  ·simp only [zbj,za6,zjg,za9,zam,qg0,qg1,zaq,zf9,zbg t.top,zbu,zkk _ hi]
   exact ⟨_,q1,nofun,nofun,rfl⟩
  refine zbm (l':=tLo A g b mo (some (.int (i:Int))) (some (.int (k:Int)))) (S':=(S1.set (b+i) o1).set (b+k) o2) ?_ ?_
  ·simp only [zbj,za6,zjg,za9,zam,qg0,qg1,zaq,zf9,zbg t1.top,zbu,zkk _ hk2]
   exact ⟨_,q2,nofun,nofun,rfl⟩
  simp only [zbj,za6,zat,qs0,qs1]
  have hm:=yhf (f:=f') hk hi (by rw [s.sy];exact hf)
  refine ⟨nofun,true,rfl,up f' i k,t2,(gr.set (by lia) _).set (by lia) _,s.up hp,λ_=>?_,λz=>by cases z⟩
  cases mo with
  | true=>exact Nat.lt_trans hm (yes rfl)
  | false=>rw [(no rfl).1] at hm ⊢;exact hm
 ·rintro S1 ⟨rfl,hc⟩
  rw [zcj]
  refine ⟨rfl,mo,rfl,f',t,gr,s,yes,λe=>⟨(no e).1,λx y hp hy hx hf=>?_⟩⟩
  obtain ⟨n1,n2⟩:=no e
  rcases hp with hp|⟨rfl,rfl⟩
  ·exact n2 x y hp hy hx hf
  ·subst n1
   rw [hf] at hc
   simpa using hc.symm
theorem yhj (ok:OkM A g) (hb:S0.length<=b) (t:Tab b g.length f S) (gr:Gr S0 S) (s:Snd A g f) :
  Ws (zcw (zbi (zac (zaf zb7 (zac (zaa 1) (zae))) (zae))) (zah 4) (zcw (zbi (zac (zaa 4) (zae))) (zah 5) (sIf (zcm (zdb (tE (eOp zai (eOp zai (zaa 2) (zaa 4)) (zaa 5)))) (tE (zaf zgh (zac (eOp zai (zaa 1) (zaa 4)) (zac (eOp zai (zaa 1) (zaa 5)) (zac (zaa 2) (zae))))))) (zal (zao (eC (.bl true)) (zdd (eOp zai (zaa 2) (zaa 4)) (zaa 5))) (zal (zao (eC (.bl true)) (zdd (eOp zai (zaa 2) (zaa 5)) (zaa 4))) (zao (eC (.bl true)) (zah 3)))) (zbr))))
   (tLo A g b false x4 x5) S λfl l' S'=>fl=.nx/\∃mo x4 x5,l' = tLo A g b mo x4 x5/\Rd A g f S0 b (λx y=>x<g.length) mo S':=by
 have r24:=ok.r24
 refine ze5 (λi l S'=>∃mo x4 x5,l=tLo A g b mo x4 x5/\Rd A g f S0 b (λx y=>x<i) mo S') (λ_ _=>False) (n:=g.length) (S1:=S) ?_ (by lia) ⟨false,_,_,rfl,f,t,gr,s,λz=>(by cases z),λ_=>⟨rfl,λx y h=>absurd h (Nat.not_lt_zero _)⟩⟩ ?_ ?_ (λd l' S' z=>z.elim)
 ·have:Wa (zac (zaf zb7 (zac (zaa 1) (zae))) (zae)) (tLo A g b false x4 x5) S λv S'=>v=[.int (g.length:Int)]/\S' = S:=by
   simp only [zaw,zav,zaz,zam,qg0,qg1,zaq,zj3,qlm]
   exact ⟨nofun,nofun⟩
  obtain ⟨v,S',e,rfl,rfl⟩:=this
  exact e
 ·rintro i l S1 hi ⟨mo,x4,x5,rfl,r1⟩
  simp only [zat,qs0,qs1]
  refine ze5 (λk l S'=>∃mo x5,l=tLo A g b mo (some (.int (i:Int))) x5/\Rd A g f S0 b (λx y=>x<i\/(x=i/\y<k)) mo S') (λ_ _=>False) (n:=i) (S1:=S1) rfl (by lia) ⟨mo,_,rfl,r1.weak λx y h _=>h.elim id λz=>absurd z.2 (Nat.not_lt_zero _)⟩ ?_ ?_ (λd l' S' z=>z.elim)
  ·rintro k l S2 hk ⟨mo,x5,rfl,r2⟩
   simp only [zat,qs0,qs1]
   refine Wr.mono (yhi ok hb hk hi r2) ?_
   rintro fl l' S3 ⟨rfl,mo',rfl,r3⟩
   refine .inl ⟨.inl rfl,mo',_,rfl,r3.weak λx y h hy=>?_⟩
   rcases h with h|⟨h1,h2⟩
   ·exact .inl (.inl h)
   ·rcases Nat.lt_or_ge y k with c|c
    ·exact .inl (.inr ⟨h1,c⟩)
    ·exact .inr ⟨h1,by lia⟩
  ·rintro l S2 ⟨mo,x5,rfl,r2⟩
   refine .inl ⟨.inl rfl,mo,_,_,rfl,r2.weak λx y h hy=>?_⟩
   rcases Nat.lt_or_ge x i with c|c
   ·exact .inl c
   ·exact .inr ⟨by lia,by lia⟩
 ·rintro l S1 ⟨mo,x4,x5,rfl,r1⟩
  exact ⟨rfl,mo,_,_,rfl,r1⟩
theorem yhk (g:List (List Cl)):(g.map λ_=>D.bl false)=(List.range g.length).map λ_=>D.bl false:=by
 apply List.ext_getElem?
 intro i
 rw [qgm,qgm]
 by_cases h:i<g.length
 ·rw [qge h,List.getElem?_range h];rfl
 ·rw [List.getElem?_eq_none (by lia),List.getElem?_eq_none (by simpa using h)];rfl
theorem yhl (ok:OkM A g):Wo (ziq [mD A g] S) λv S'=>∃b f,v=.ref (b+g.length)/\S.length<=b/\Gr S S'/\Tab b g.length f S'/\∀x y,x<g.length->y<g.length->(f x y=true↔Pt A g (x,y)):=by
 have sz:=zcb
 have r24:=ok.r24
 unfold ziq zsd
 dsimp! only [zb1]
 refine zbm (l':=[some (mD A g),some (.tup (g.map rD)),none,none,none,none]) (S':=S) ?_ ?_
 ·unfold mD
  simp only [zbj,za9,zam,za6,qg0,zaq,zcr,zke,zbu,zat,qs0,qs1]
  exact ⟨nofun,nofun,nofun⟩
 refine za3 (λl S'=>Gr S S'/\Tab S.length g.length (λ_ _=>false) S'/\l=[some (mD A g),some (.tup (g.map rD)),~~~(S.length+g.length),none,none,none]) ?_ ?_
 ·rw [zbj]
  refine zg7 (g.map rD) (λi acc l S'=>S'.length=S.length+i/\Gr S S'/\(∀k,k<i->S'[S.length+k]? = some (.lst ((List.range g.length).map λ_=>D.bl false)))/\acc=(List.range i).map (λk=>D.ref (S.length+k))/\∃x0,l=[x0,some (.tup (g.map rD))]) (zid rfl) ⟨rfl,Gr.refl S,λk hk=>absurd hk (Nat.not_lt_zero _),rfl,_,rfl⟩ (λ_ _ _ _ _=>rfl) ?_ ?_
  ·rintro i x acc l S1 hx ⟨hl,g1,hk,rfl,x0,rfl⟩
   simp only [zat,qs0,zhx,if_true]
   refine zka g rD (λ_=>D.bl false) (λS'=>S' = S1) (λl=>∃x0,l=[x0]) (zid rfl) rfl ⟨_,rfl⟩ (λi S' _=>rfl) (by lia) ?_ ?_
   ·rintro y l S2 _ ⟨x0,rfl⟩ rfl
    simp only [zat,qs0,za6]
    exact ⟨⟨_,rfl⟩,nofun,nofun⟩
   ·rintro S2 rfl
    rw [yhk]
    refine ⟨by rw [qla,hl];rfl,g1.trans ⟨_,rfl⟩,λk hk2=>?_,by rw [List.range_succ,List.map_append,hl];rfl,_,rfl⟩
    rcases Nat.lt_or_ge k i with c|c
    ·exact zb8 (hk k c)
    ·have:k=i:=by lia
     subst this
     rw [<-hl];exact zce
  ·rintro acc l S1 ⟨hl,g1,hk,rfl,x0,rfl⟩
   rw [qlm] at hl hk ⊢
   simp only [zat,qs0,qs1]
   refine ⟨by simp;lia,nofun,g1.trans ⟨_,rfl⟩,⟨by rw [<-hl,qlm];exact zce,λi hi=>zb8 (hk i hi)⟩,by rw [hl]⟩
 rintro l S1 ⟨g1,t1,rfl⟩
 refine zbm (l':=tLo A g S.length true none none) (S':=S1) (by simp only [zbj,za6,zat,qs0,qs1];exact ⟨nofun,nofun,nofun⟩) ?_
 have hN:g.length*g.length<=576:=Nat.le_trans (Nat.mul_le_mul r24 r24) (by decide)
 have hm:=yhg g.length λ_ _=>false
 refine za3 (λl S'=>∃f x4 x5,l=tLo A g S.length false x4 x5/\Gr S S'/\Tab S.length g.length f S'/\Snd A g f/\Cls A g f) ?_ ?_
 ·refine zrw (λm l T=>∃mo f x4 x5,l=tLo A g S.length mo x4 x5/\Gr S T/\Tab S.length g.length f T/\Snd A g f/\(mo=false->Cls A g f)/\(if mo=true then ze9 g.length f+1 else 0)<=m) (λ_ _=>False) (λl S'=>∃f x4 x5,l=tLo A g S.length false x4 x5/\Gr S S'/\Tab S.length g.length f S'/\Snd A g f/\Cls A g f) 600 (by decide)
   ⟨true,_,_,_,rfl,g1,t1,⟨λx y h=>(by cases h),λx y=>rfl⟩,λz=>(by cases z),(by rw [if_pos rfl];lia)⟩ ?_ (λl' S' h=>⟨rfl,h⟩) (λd l' S' z=>z.elim)
  rintro m l T ⟨mo,f,x4,x5,rfl,g2,t2,s2,c2,hm2⟩
  simp only [zb0,zam,qg0,qg1,zaq,zch]
  cases mo with
  | false=>exact ⟨f,_,_,rfl,g2,t2,s2,c2 rfl⟩
  | true =>
   rw [if_pos rfl] at hm2 ⊢
   refine zbm (l':=tLo A g S.length false x4 x5) (S':=T) (by simp only [zbj,za6,zat,qs0,qs1];exact ⟨nofun,nofun,nofun⟩) ?_
   refine Wr.mono (yhj ok (qlr _) t2 g2 s2) ?_
   rintro fl l' T2 ⟨rfl,mo,x4,x5,rfl,f3,t3,g3,s3,yes,no⟩
   refine .inl ⟨.inl rfl,if mo=true then ze9 g.length f3+1 else 0,?_,mo,f3,_,_,rfl,g3,t3,s3,λz=>?_,qlr _⟩
   ·cases mo with
    | true=>have:=yes rfl;rw [if_pos rfl];lia
    | false=>rw [if_neg (by decide)];lia
   ·obtain ⟨rfl,h⟩:=no z
    exact λx y hy hx hf=>h x y hx hy hx hf
 rintro l S2 ⟨f,x4,x5,rfl,g2,t2,s2,c2⟩
 simp only [zcg,zam,qg0,qg1,zaq]
 exact ⟨_,f,rfl,qlr _,g2,t2,λx y hx hy=>yhh ok s2 c2 hx hy⟩
theorem yhm (xs:List Nat):xs.map nD=(xs.map some).map oD:=by rw [List.map_map];rfl
theorem yhn {xs:List Nat}(hl:xs.length<=1000):Wo (zih [.tup (xs.map nD)] S) λv S'=>Gr S S'/\v=.bl true:=by
 have sz:=zcb
 unfold zih zry
 dsimp! only [zb1]
 simp only [zcg,zje,zhw,zam,qg0,zaq,zmv,zib,zch,if_true,za9]
 refine zri (xs.map nD) (λ_=>none) (λS'=>S' = S) (λl=>∃x0,l=[x0]) (zid rfl) rfl ⟨_,rfl⟩ (λi S' _=>rfl) (by rw [qlm];lia) ?_ ?_
 ·rintro x l S1 hx ⟨x0,rfl⟩ rfl
  obtain ⟨n,hn,rfl⟩:=List.mem_map.mp hx
  have e1:isI "int" "bool" = false:=by decide
  simp only [zat,qs0]
  refine ⟨⟨_,rfl⟩,?_⟩
  unfold nD
  simp only [zfu,zef,zb0,zhw,zam,qg0,zaq,zmu,zib,zch,Bool.not_true,qbf,if_false,e1]
  exact ⟨nofun,nofun,λz=>by first|exact absurd z (by decide)|cases z⟩
 ·rintro S1 rfl
  have e0:(xs.map nD).filterMap (λ_=>(none:Option D))=[]:=by simp
  rw [e0]
  simp only [zaz,zav,zjh,List.length_nil]
  refine ⟨by lia,?_⟩
  rw [yd9 (xs:=[]) (zb8 zce) zce]
  exact ⟨(Gr.refl _).push _ |>.push _,rfl⟩
theorem Tab.fn (h:Tab b N f S) (g:Fn S S') (hb:3<=b):Tab b N f S':=⟨g _ _ (by lia) h.top,λi hi=>g _ _ (by lia) (h.row i hi)⟩
inductive SoP (ns:List Int) (c N:Nat) (S:Sto) (v:D) (S':Sto):Prop
 | mk (xs:List Nat) (e:v=.tup (xs.map nD)) (h:∀x∈xs,x<N) (l:xs.length<=25) (p:PQ ns (c+60) S') (f:Fn S S')
noncomputable abbrev sLo (t w n:D) (x4 x5 x6:Option D):Lo:=[~~~2,some t,some w,some n,x4,x5,x6]
theorem yho (h:PQ ns c S) (hc:c<70000000) (hN:1<=N) (hN2:N<=24) (hb:3<=b) (ht:Tab b N f S):Wo (zio [.ref 2,.ref (b+N)] S) (SoP ns c N S):=by
 have sz:=zcb
 have l3:=h.lt
 have htl:∀S',Fn S S'->lstOf S' (b+N)=some ((List.range N).map λi=>D.ref (b+i)):=λS' g=>zbg (ht.fn g hb).top
 have lenE:((List.range N).map λi=>D.ref (b+i)).length=N:=by simp
 unfold zio zsb
 dsimp! only [zb1]
 refine za3 (λl S'=>∃d:Nat,PQ ns (c+1) S'/\Fn S S'/\l=[~~~2,~~~(b+N),‹d›,none,none,none,none]) ?_ ?_
 ·simp only [zbj,zaz,zaw,zav,zam,za6,qg0,qg1,zaq]
  refine (zca h (by lia) (by decide) (by decide)).mono ?_
  rintro v S1 ⟨d,rfl,hd,p1,f1⟩
  simp only [zat,qs0,qs1]
  exact ⟨nofun,d,p1,f1,rfl⟩
 rintro l S1 ⟨w,p1,f1,rfl⟩
 have l1:=f1.len p1.lt
 refine za3 (λl S'=>∃(n:Nat) (os:List Nat),PQ ns (c+1+N) S'/\Fn S S'/\S.length<=n/\S'[n]? = some (.lst (os.map nD))/\os.Perm (List.range N)/\l=sLo (.ref (b+N)) (.int (w:Int)) (.ref n) none none none) ?_ ?_
 ·simp only [zbj,zaz,zaw,zav,zam,za6,qg0,qg1,zaq,zga,htl S1 f1,zbu,lenE]
  refine (ygx p1 (by lia) (by lia)).mono ?_
  rintro v S2 ⟨n,os,rfl,hn,hs,pm,p2,f2⟩
  simp only [zat,qs0,qs1]
  exact ⟨nofun,n,os,p2,f1.trans f2,by lia,hs,pm,rfl⟩
 rintro l S2 ⟨n,os,p2,f2,hn,hs2,pm,rfl⟩
 have osl:os.length=N:=by rw [pm.length_eq,List.length_range]
 have osr:∀x∈os,x<N:=λx hx=>List.mem_range.mp (pm.mem_iff.mp hx)
 refine zgf (λl S'=>l=sLo (.ref (b+N)) (.int (w:Int)) (.ref n) none none none/\S' = S2) (SoP ns c N S) ?_ ?_ (λd l' S' q=>q)
 ·refine zck (λk S'=>S' = S2) ?_ ?_ ?_
  ·simp only [zb0,za9,zam,za6,qg0,qg1,zaq,zji,zch]
  ·rintro S' rfl
   simp only [zcg,zaz,zaw,zav,zge,za9,zam,za6,zgb,zgc,qg0,qg1,zaq,zga,htl S' f2,zbu,lenE,ze6]
   refine (zca p2 (by lia) (by lia) (by lia)).mono ?_
   rintro v S3 ⟨d,rfl,hd,p3,f3⟩
   have hs3:=f3 _ _ (by lia) hs2
   simp only [zgd,zj7 (zbg hs3),zmx,zey]
   rw [<-List.map_take]
   refine ⟨_,zdj,.inr ⟨_,rfl,os.take d,rfl,λx hx=>osr x (List.mem_of_mem_take hx),?_,(p3.gr ⟨_,rfl⟩).mono (by lia),(f2.trans f3).trans (Fn.gr ⟨_,rfl⟩)⟩⟩
   have:=List.length_take_le d os
   rw [List.length_take];lia
  ·rintro S' rfl
   rw [zcj]
   exact .inl ⟨rfl,rfl,rfl⟩
 rintro l S' ⟨rfl,rfl⟩
 have l2:=f2.len p2.lt
 refine zbm (l':=sLo (.ref (b+N)) (.int (w:Int)) (.ref n) (some (.ref S'.length)) none none) (S':=S'++[.lst []]) (by simp! only [zam];exact ⟨by lia,nofun,nofun,nofun⟩) ?_
 refine za3 (λl T=>∃(fs:List Nat) (x5:Option D),(∀x∈fs,x<N)/\fs.length<=N/\1<=fs.length/\T[S'.length]? = some (.lst (fs.map nD))/\PQ ns (c+1+N) T/\Fn S T/\l=sLo (.ref (b+N)) (.int (w:Int)) (.ref n) (some (.ref S'.length)) x5 none) ?_ ?_
 ·refine zj8 (n:=n) (os.map nD) (λi l T=>∃(fs:List Nat) (x5:Option D),(∀x∈fs,x<N)/\fs.length<=i/\(1<=i->1<=fs.length)/\T[S'.length]? = some (.lst (fs.map nD))/\PQ ns (c+1+N) T/\Fn S T/\T[n]? = some (.lst (os.map nD))/\l=sLo (.ref (b+N)) (.int (w:Int)) (.ref n) (some (.ref S'.length)) x5 none) (λ_ _=>False) (S1:=S'++[.lst []]) rfl
   ⟨[],_,(λx hx=>by cases hx),qlr _,(λz=>by lia),zce,p2.gr ⟨_,rfl⟩,f2.trans (Fn.gr ⟨_,rfl⟩),zb8 hs2,rfl⟩ (λi l T ⟨_,_,_,_,_,_,_,_,e,_⟩=>zbg e) ?_ ?_ (λd l' S' z=>z.elim)
  ·rintro i x l T hx ⟨fs,x5,hf,hfl,hf1,hfs,pT,fT,hnT,rfl⟩
   rw [qgm] at hx
   obtain ⟨r,hr,rfl⟩:=Option.map_eq_some_iff.mp hx
   have hrN:=osr r (qmg hr)
   have hi:i<N:=by rw [<-osl];exact (qme hr).1
   have hnl:n<S'.length:=(qme hs2).1
   have tT:=ht.fn fT hb
   have hm:S'.length≠n:=by lia
   simp only [zat,qs0,qs1]
   refine zck (λk T'=>Gr T T'/\(k=false->1<=fs.length)) ?_ ?_ ?_
   ·simp only [zef,zb0,zaz,zaw,zav]
    refine zka fs nD (λy=>D.bl (f r y)) (λT'=>T' = T) (λl=>∃x0,l=[x0,~~~(b+N),some (nD r)]) (zj5 (n:=S'.length) rfl (zbg hfs)) rfl ⟨_,rfl⟩ (λi T' e=>by rw [e];exact zie (zbg hfs)) (by lia) ?_ ?_
    ·rintro y l T2 hy ⟨x0,rfl⟩ rfl
     simp only [zat,qs0]
     refine ⟨⟨_,rfl⟩,?_⟩
     unfold nD
     simp only [za9,zam,qg0,qg1,zaq]
     rw [tT.at hrN (hf y hy)]
     exact ⟨rfl,rfl⟩
    ·rintro T2 rfl
     rw [zrh]
     refine ⟨_,zdj,?_,_,rfl,⟨_,rfl⟩,λz=>?_⟩
     ·rw [List.all_map,List.all_eq_true];intro y _;rfl
     ·cases fs with
      | nil=>cases z
      | cons y fs=>simp
   ·rintro T2 ⟨g2,_⟩
    have hf2:=g2.get hfs
    simp only [zev,zdu,zaw,zav,zam,qg0,qg1,zaq]
    refine ⟨⟨_,zd4 hf2⟩,?_⟩
    rw [zg9 hf2 (by rw [qlm];lia)]
    refine .inl ⟨(by first|exact .inl rfl|exact .inl trivial|trivial),fs++[r],_,λx hx=>?_,by rw [qla];show _+1<=_;lia,λ_=>by rw [qla];show 1<=_+1;lia,by rw [zel hf2,List.map_append];rfl,(pT.gr g2).setN (by lia),(fT.trans (Fn.gr g2)).setN (by lia),zcf (g2.get hnT) hm,rfl⟩
    rcases List.mem_append.mp hx with z|z
    ·exact hf x z
    ·have:x=r:=by simpa using z
     subst this;exact hrN
   ·rintro T2 ⟨g2,hk⟩
    rw [zcj]
    exact .inl ⟨.inl rfl,fs,_,hf,by lia,λ_=>hk rfl,g2.get hfs,pT.gr g2,fT.trans (Fn.gr g2),g2.get hnT,rfl⟩
  ·rintro l T ⟨fs,x5,hf,hfl,hf1,hfs,pT,fT,hnT,rfl⟩
   rw [qlm,osl] at hfl hf1
   exact ⟨rfl,fs,_,hf,hfl,hf1 hN,hfs,pT,fT,rfl⟩
 rintro l T ⟨fs,x5,hf,hfl,hf1,hfs,pT,fT,rfl⟩
 refine za3 (λl T'=>∃(m:Nat) (xs:List Nat),S.length<=m/\(∀x∈xs,x<N)/\xs.length<=N/\T'[m]? = some (.lst (xs.map nD))/\PQ ns (c+2+N) T'/\Fn S T'/\l=sLo (.ref (b+N)) (.int (w:Int)) (.ref n) (some (.ref m)) x5 none) ?_ ?_
 ·simp only [zbj,zge,za9,zam,za6,zaz,zaw,zav,zgb,zgc,qg0,qg1,zaq,zga,zbg hfs,zbu,qlm]
  refine (zca pT (by lia) (by lia) (by lia)).mono ?_
  rintro v T2 ⟨d,rfl,hd,p3,f3⟩
  have hf3:=f3 _ _ (by lia) hfs
  have e1:(1:Int)+(d:Int)=((1+d:Nat):Int):=by push_cast;rfl
  simp only [ze6,zgd,e1,zj7 (zbg hf3),zmx,zat,qs0,qs1]
  have l4:=(fT.trans f3).len p3.lt
  refine ⟨nofun,T2.length,fs.take (1+d),l4,λx hx=>hf x (List.mem_of_mem_take hx),by rw [List.length_take];lia,by rw [zce,List.map_take],(p3.gr ⟨_,rfl⟩).mono (by lia),(fT.trans f3).trans (Fn.gr ⟨_,rfl⟩),rfl⟩
 rintro l T1 ⟨m,xs,hml,hx,hxl,hxs,p4,f4,rfl⟩
 refine za3 (λl T'=>∃r:Nat,r<N/\T'[m]? = some (.lst (xs.map nD))/\PQ ns (c+3+N) T'/\Fn S T'/\l=sLo (.ref (b+N)) (.int (w:Int)) (.ref n) (some (.ref m)) x5 (some (nD r))) ?_ ?_
 ·simp only [zbj,zam,zaz,zaw,zav,qg0,qg1,zaq,zga,htl T1 f4,zbu,lenE]
  refine (zca p4 (by lia) (by lia) (by lia)).mono ?_
  rintro v T2 ⟨d,rfl,hd,p5,f5⟩
  simp only [zat,qs0,qs1]
  exact ⟨nofun,d,by lia,f5 _ _ (by lia) hxs,p5.mono (by lia),f4.trans f5,rfl⟩
 rintro l T2 ⟨r,hr,hx2,p5,f5,rfl⟩
 refine za3 (λl T'=>∃(ys:List Nat),(∀x∈ys,x<N)/\ys.length<=25/\T'[m]? = some (.lst (ys.map nD))/\PQ ns (c+4+N) T'/\Fn S T'/\l=sLo (.ref (b+N)) (.int (w:Int)) (.ref n) (some (.ref m)) x5 (some (nD r))) ?_ ?_
 ·refine zck (λk T'=>T' = T2) ?_ ?_ ?_
  ·unfold nD
   simp only [zft,zb0,za9,zam,za6,qg0,qg1,zaq,zji,zch]
   split
   ·rw [yhm] at hx2
    rw [zs7 hx2]
    exact ⟨_,rfl,rfl⟩
   ·trivial
  ·rintro T' rfl
   unfold nD
   simp only [zev,zdu,zaz,za9,za6,zaw,zav,zam,qg0,qg1,zaq,zga,zbg hx2,zbu,qlm,ze6]
   refine ⟨⟨_,zd4 hx2⟩,?_⟩
   refine (zca p5 (by lia) (by lia) (by lia)).mono ?_
   rintro v T3 ⟨d,rfl,hd,p6,f6⟩
   have hx3:=f6 _ _ (by lia) hx2
   rw [yed hx3 (by rw [qlm];lia) (by rw [qlm];lia)]
   refine ⟨nofun,xs.take d++[r]++xs.drop d,λx hxm=>?_,?_,?_,(p6.setN (by lia)).mono (by lia),(f5.trans f6).setN hml,nofun⟩
   ·rcases List.mem_append.mp hxm with z|z
    ·rcases List.mem_append.mp z with z|z
     ·exact hx x (List.mem_of_mem_take z)
     ·have:x=r:=by simpa using z
      subst this;exact hr
    ·exact hx x (List.mem_of_mem_drop z)
   ·rw [qla,qla,List.length_take,List.length_drop];show _+1+_<=_;lia
   ·rw [zel hx3,List.map_append,List.map_append,List.map_take,List.map_drop];rfl
  ·rintro T' rfl
   rw [zcj]
   exact ⟨rfl,xs,hx,by lia,hx2,p5.mono (by lia),f5,rfl⟩
 rintro l T3 ⟨ys,hy,hyl,hys,p7,f7,rfl⟩
 simp only [zcg,zaz,zaw,zav,zam,qg0,qg1,zaq,zey]
 exact ⟨_,zbg hys,ys,rfl,hy,hyl,p7.mono (by lia),f7⟩
theorem ztd (h1:za5 S 60 x=some p) (h2:za5 S 60 y=some q) (c1:p.canLay0=true) (c2:q.canLay0=true):Wo (zc4 x y S) Q=Q (.bl (!p.eqv q)) S:=by
 have:zc4 x y S=some (.bl (!p.eqv q),S):=by unfold zc4;rw [h1];show (za5 S 60 y).bind _=_;rw [h2];show (if _ then _ else _)=_;rw [if_pos ⟨c1,c2⟩]
 rw [this];exact zbl
theorem zkl:Wo (zc4 (.bl b) (.bl b) S) Q=Q (.bl false) S:=by
 have h:za5 S 60 (.bl b)=some (.bool b):=by unfold za5;rfl
 have c:(PyData.bool b).canLay0=true:=by simp [PyData.canLay0]
 rw [ztd h h c c,PySem.SeqAt.eqv_refl _ c];rfl
theorem yhp (h:n<1000000):za5 S (k+1) (nD n)=some (.int (n:Int)):=by
 unfold za5 nD
 show (if _ then _ else _)=_
 rw [if_pos (zrr h)]
theorem zte:∀{xs:List Nat},(∀x∈xs,x<1000000)->pyAll S (k+1) (xs.map nD)=some (xs.map λn:Nat=>PyData.int (n:Int))
 | [],_=>by unfold pyAll;rfl
 | x :: xs,h=>by
  rw [List.map_cons]
  unfold pyAll
  rw [yhp (h x List.mem_cons_self)]
  show ((pyAll S (k+1) (xs.map nD)).bind _)=_
  rw [zte λy hy=>h y (List.mem_cons_of_mem _ hy)];rfl
theorem ztf:∀xs:List Nat,PyData.canLayAll0 (xs.map λn:Nat=>PyData.int (n:Int))=true
 | []=>by simp [PyData.canLayAll0]
 | x :: xs=>by
  rw [List.map_cons];simp only [PyData.canLayAll0,PyData.canLay0,Bool.true_and];exact ztf xs
theorem ztg {xs:List Nat}(h:∀x∈xs,x<1000000):Wo (zc4 (.tup (xs.map nD)) (.tup (xs.map nD)) S) Q=Q (.bl false) S:=by
 have e:za5 S 60 (.tup (xs.map nD))=some (.tuple (xs.map λn:Nat=>PyData.int (n:Int))):=by
  unfold za5
  show (pyAll S 59 (xs.map nD)).bind _=_
  rw [zte h];rfl
 have c:(PyData.tuple (xs.map λn:Nat=>PyData.int (n:Int))).canLay0=true:=by
  simp only [PyData.canLay0]
  exact ztf xs
 rw [ztd e e c c,PySem.SeqAt.eqv_refl _ c];rfl
theorem yhq (h:l[i]? = some (some (.tup xs))):We (ze4 (zaa i)) l S Q=Q (.tup xs.reverse) S:=by
 have e:zaa i l S=some (.tup xs,S):=by unfold zaa;rw [h]
 have:ze4 (zaa i) l S=some (.tup xs.reverse,S):=by unfold ze4;rw [e];rfl
 show Wo (ze4 (zaa i) l S) Q=_
 rw [this];exact zbl
noncomputable def riN (ns:List Nat):List Nat:=(sortI (ns.map Int.ofNat)).map Int.toNat
theorem yhr (ns:List Nat) (x:Nat):x∈riN ns↔x∈ns:=by
 unfold riN
 rw [List.mem_map]
 constructor
 ·rintro ⟨z,hz,rfl⟩
  rw [(zdi _).mem_iff] at hz
  obtain ⟨n,hn,rfl⟩:=List.mem_map.mp hz
  exact hn
 ·intro h
  refine ⟨(x:Int),?_,rfl⟩
  rw [(zdi _).mem_iff]
  exact List.mem_map.mpr ⟨x,h,rfl⟩
theorem yhs (ns:List Nat):(riN ns).length=ns.length:=by
 unfold riN
 rw [qlm,(zdi _).length_eq,qlm]
theorem yht (ns:List Nat):(sortI (ns.map Int.ofNat)).map D.int=(riN ns).map nD:=by
 unfold riN
 rw [List.map_map]
 apply List.map_congr_left
 intro z hz
 rw [(zdi _).mem_iff] at hz
 obtain ⟨n,hn,rfl⟩:=List.mem_map.mp hz
 rfl
theorem yhu (h:ns.length<64):zg6 [.tup (ns.map nD)] S=some (.ref S.length,S++[.lst ((riN ns).map nD)]):=by
 unfold zg6
 show (zcq (ns.map nD)).bind _=_
 rw [zkj]
 show (if (ns.map Int.ofNat).length<64 then _ else _)=_
 rw [if_pos (by rw [qlm];exact h),yht]
noncomputable abbrev rLo (A:Nat) (g:List (List Cl)) (b:Nat) (xs:List Nat) (k:Bool) (r:List (Option D)):Lo:=some (mD A g) :: some (.ref (b+g.length)) :: some (.tup (xs.map nD)) :: some (.bl k) :: r
theorem yhv (ht:Tab b g.length f S) (hx:∀x∈xs,x<g.length) (q:∀x4 x5 (k:Bool),(k=true↔∀x∈xs,∀y∈xs,f x y=false)->QS .nx (rLo A g b xs k [x4,x5,none,none,none,none]) S) :
  Ws (zcv (zaa 2) (zah 4) (zcv (zaa 2) (zah 5) (zao (zd9 (zaa 3) (zho (eOp zai (eOp zai (zaa 1) (zaa 4)) (zaa 5)))) (zah 3)))) (rLo A g b xs true [none,none,none,none,none,none]) S QS:=by
 refine zrn (xs.map nD) (λi l S'=>S' = S/\∃x4 x5 k,l=rLo A g b xs k [x4,x5,none,none,none,none]/\(k=true↔∀x∈xs.take i,∀y∈xs,f x y=false)) (λ_ _=>False) rfl ⟨rfl,_,_,true,rfl,by simp⟩ ?_ ?_ (λd l' S' z=>z.elim)
 ·rintro i x l S1 hxi ⟨rfl,x4,x5,k,rfl,hk⟩
  rw [qgm] at hxi
  obtain ⟨r,hr,rfl⟩:=Option.map_eq_some_iff.mp hxi
  have hrN:=hx r (qmg hr)
  simp only [zat,qs0,qs1]
  refine zrn (xs.map nD) (λj l S'=>S' = S1/\∃x5 k',l=rLo A g b xs k' [some (nD r),x5,none,none,none,none]/\(k' = true↔k=true/\∀y∈xs.take j,f r y=false)) (λ_ _=>False) rfl ⟨rfl,_,k,rfl,by simp⟩ ?_ ?_ (λd l' S' z=>z.elim)
  ·rintro j y l S2 hyj ⟨rfl,x5,k',rfl,hk'⟩
   rw [qgm] at hyj
   obtain ⟨s,hs,rfl⟩:=Option.map_eq_some_iff.mp hyj
   have hsN:=hx s (qmg hs)
   have hta:∀{Q:D->Sto->Prop},Wo (zai (.ref (b+g.length)) (nD r) S2) (λv S1=>Wo (zai v (nD s) S1) Q)=Q (.bl (f r s)) S2:=ht.at hrN hsN
   simp only [zat,qs0,qs1,zbj,zje,zlp,za9,zam,qg0,qg1,zaq,zch,hta]
   have fin:∀k2:Bool,(k2=true↔k' = true/\f r s=false)->(((Fl.nx=Fl.nx)\/(Fl.nx=Fl.ct))/\S2=S2/\∃x5 k'',rLo A g b xs k2 [some (nD r),some (nD s),none,none,none,none]=rLo A g b xs k'' [some (nD r),x5,none,none,none,none]/\(k'' = true↔k=true/\∀y∈xs.take (j+1),f r y=false)):=λk2 h2=>by
    refine ⟨.inl rfl,rfl,_,k2,rfl,?_⟩
    rw [h2,hk',List.take_add_one,hs]
    constructor
    ·rintro ⟨⟨a,b⟩,c⟩
     refine ⟨a,λy hy=>?_⟩
     rcases List.mem_append.mp hy with z|z
     ·exact b y z
     ·have:y=s:=by simpa using z
      subst this;exact c
    ·rintro ⟨a,b⟩
     exact ⟨⟨a,λy hy=>b y (List.mem_append_left _ hy)⟩,b s (List.mem_append_right _ (by simp))⟩
   cases k' with
   | false =>
    simp only [qbf,if_false]
    exact .inl (by simpa using fin false (by simp))
   | true =>
    simp only [if_true]
    exact .inl (by simpa using fin (!f r s) (by simp))
  ·rintro l S2 ⟨rfl,x5,k',rfl,hk'⟩
   refine .inl ⟨.inl rfl,rfl,_,_,k',rfl,?_⟩
   rw [hk',hk,qlm,List.take_length,List.take_add_one,hr]
   constructor
   ·rintro ⟨a,b⟩ x hxm
    rcases List.mem_append.mp hxm with z|z
    ·exact a x z
    ·have:x=r:=by simpa using z
     subst this;exact b
   ·intro a
    exact ⟨λx hxm=>a x (List.mem_append_left _ hxm),a r (List.mem_append_right _ (by simp))⟩
 ·rintro l S1 ⟨rfl,x4,x5,k,rfl,hk⟩
  rw [qlm,List.take_length] at hk
  exact q _ _ k hk
theorem yhw (h:∀y,y∈ys↔y∈xs):zgj A g ys↔zgj A g xs:=by
 unfold zgj
 constructor
 ·exact λf x hx y hy=>f x ((h x).mpr hx) y ((h y).mpr hy)
 ·exact λf x hx y hy=>f x ((h x).mp hx) y ((h y).mp hy)
theorem zkm {A:Nat}{g:List (List Cl)}{xs ys:List Nat}{k:Bool}(ok:OkM A g) (hk:k=true↔zgj A g xs) (hx:∀x∈xs,x<g.length) (h:∀y,y∈ys↔y∈xs) (hl:ys.length<64):Wo (zek [mD A g,.tup (ys.map nD)] S) λv S'=>Gr S S'/\v=.bl k:=by
 refine (yg4 ok (λy hy=>hx y ((h y).mp hy)) hl).mono ?_
 rintro v S1 ⟨g1,b,rfl,hb⟩
 refine ⟨g1,?_⟩
 have:b=k:=by rw [Bool.eq_iff_iff,hb,hk];exact yhw h
 rw [this]
theorem zth (h:g.length<=24):∀x∈ze8 g a xs,x<1000000:=λx hx=>by
 have:=List.mem_range.mp (List.mem_filter.mp hx).1
 lia
theorem zti {A b:Nat}{g:List (List Cl)}{f:TF}{xs:List Nat}(ok:OkM A g) (ht:Tab b g.length f S) (hf:∀x y,x<g.length->y<g.length->(f x y=true↔Pt A g (x,y))) (hx:∀x∈xs,x<g.length) (hl:xs.length<=25):Wo (zhc [mD A g,.ref (b+g.length),.tup (xs.map nD)] S) λv S'=>Gr S S'/\v=.bl true:=by
 have sz:=zcb
 have a4:=ok.a4
 have r24:=ok.r24
 unfold zhc zr8
 dsimp! only [zb1]
 refine zbm (l':=rLo A g b xs true [none,none,none,none,none,none]) (S':=S) (by simp only [zbj,za6,zat,qs0,qs1];exact ⟨nofun,nofun,nofun⟩) ?_
 refine za3 (λl S'=>S' = S/\∃x4 x5 k,(k=true↔zgj A g xs)/\l=rLo A g b xs k [x4,x5,none,none,none,none]) ?_ ?_
 ·refine yhv ht hx λx4 x5 k hk=>⟨rfl,rfl,x4,x5,k,?_,rfl⟩
  rw [hk]
  constructor
  ·intro h x hxm y hym hp
   have:=(hf x y (hx x hxm) (hx y hym)).mpr hp
   rw [h x hxm y hym] at this;cases this
  ·intro h x hxm y hym
   cases e:f x y with
   | false=>rfl
   | true=>exact absurd ((hf x y (hx x hxm) (hx y hym)).mp e) (h x hxm y hym)
 rintro l S1 ⟨rfl,x4,x5,k,hk,rfl⟩
 refine za3 (λl S'=>Gr S1 S'/\l=rLo A g b xs k [x4,x5,some (.bl k),none,none,none]) ?_ ?_
 ·simp only [zbj,zaz,zaw,zav,zam,qg0,qg1,zaq]
  refine (zkm ok hk hx (λy=>Iff.rfl) (by lia)).mono ?_
  rintro v S2 ⟨g2,rfl⟩
  simp only [zat,qs0,qs1]
  exact ⟨nofun,g2,nofun⟩
 rintro l S2 ⟨g2,rfl⟩
 have hrev:∀{S:Sto} {Q:D->Sto->Prop},We (ze4 (zaa 2)) (rLo A g b xs k [x4,x5,some (.bl k),none,none,none]) S Q=Q (.tup (xs.reverse.map nD)) S:=λ{S Q}=>by rw [yhq rfl,List.map_reverse]
 have e1:(1:Int)=((1:Nat):Int):=rfl
 refine za3 (λl S'=>Gr S1 S'/\l=rLo A g b xs k [x4,x5,some (.bl k),none,none,none]) ?_ ?_
 ·refine zck (λc S'=>c=false/\Gr S1 S') ?_ (λS' z=>by cases z.1) ?_
  ·simp only [zfu,zef,zb0,zhw,za9,zaz,zaw,zav,zam,qg0,qg1,zaq,zmt,zib,zch,Bool.not_true,qbf,if_false,zkl,hrev]
   refine (zkm ok hk hx (λy=>List.mem_reverse) (by rw [List.length_reverse];lia)).mono ?_
   rintro v S3 ⟨g3,rfl⟩
   rw [zkl]
   exact ⟨_,rfl,rfl,g2.trans g3⟩
  ·rintro S3 ⟨_,g3⟩
   rw [zcj]
   exact ⟨rfl,g3,rfl⟩
 rintro l S3 ⟨g3,rfl⟩
 refine za3 (λl S'=>Gr S1 S'/\l=rLo A g b xs k [x4,x5,some (.bl k),none,none,none]) ?_ ?_
 ·refine zck (λc S'=>c=false/\Gr S1 S') ?_ (λS' z=>by cases z.1) ?_
  ·have c1:zbt (xs.map nD) none (some 1)=(xs.take 1).map nD:=by rw [e1,zmx,List.map_take]
   simp only [zfu,zb0,za9,zaz,zaw,zav,zge,zam,za6,zgb,zgc,zgd,qg0,qg1,zaq,zj6,c1,zif,<-List.map_append,qlm]
   refine ⟨by have:=List.length_take_le 1 xs;lia,?_⟩
   refine (zkm (ys:=xs++xs.take 1) ok hk hx (λy=>?_) (by rw [qla,List.length_take];lia)).mono ?_
   ·rw [List.mem_append]
    exact ⟨λh=>h.elim id List.mem_of_mem_take,.inl⟩
   rintro v S4 ⟨g4,rfl⟩
   rw [zkl]
   simp only [zch,qbf,if_false,hrev,zif,<-List.map_append,qlm]
   refine ⟨by rw [List.length_reverse];lia,?_⟩
   refine (zkm (ys:=xs++xs.reverse) ok hk hx (λy=>?_) (by rw [qla,List.length_reverse];lia)).mono ?_
   ·rw [List.mem_append,List.mem_reverse]
    exact ⟨λh=>h.elim id id,.inl⟩
   rintro v S5 ⟨g5,rfl⟩
   rw [zkl]
   exact ⟨_,rfl,rfl,g3.trans (g4.trans g5)⟩
  ·rintro S4 ⟨_,g4⟩
   rw [zcj]
   exact ⟨rfl,g4,rfl⟩
 rintro l S4 ⟨g4,rfl⟩
 have rl:(riN xs).length<64:=by rw [yhs];lia
 have rx:∀x∈riN xs,x<g.length:=λx h=>hx x ((yhr xs x).mp h)
 refine za3 (λl S'=>Gr S1 S'/\l=rLo A g b xs k [x4,x5,some (.bl k),some (.tup ((riN xs).map nD)),none,none]) ?_ ?_
 ·simp only [zbj,zaz,zaw,zav,zam,qg0,qg1,zaq]
  refine ⟨_,_,yhu (by lia),?_⟩
  simp only [zey,zdj,zbu,zat,qs0,qs1]
  exact ⟨nofun,g4.push _,nofun⟩
 rintro l S5 ⟨g5,rfl⟩
 refine za3 (λl S'=>Gr S1 S') ?_ ?_
 ·refine ze5 (λi l S'=>Gr S1 S'/\∃x8 x9,l=rLo A g b xs k [x4,x5,some (.bl k),some (.tup ((riN xs).map nD)),x8,x9]) (λ_ _=>False) (n:=A) (S1:=S5) ?_ (by lia) ⟨g5,_,_,rfl⟩ ?_ (λl' S' h=>⟨rfl,h.1⟩) (λd l' S' z=>z.elim)
  ·have:Wa (zac (eOp zai (zaa 0) (eC (.int 0))) (zae)) (rLo A g b xs k [x4,x5,some (.bl k),some (.tup ((riN xs).map nD)),none,none]) S5 λv S'=>v=[.int (A:Int)]/\S' = S5:=by
    unfold rLo mD
    simp only [zaw,zav,za9,zam,za6,qg0,zaq,zcr,yft,zbu]
    exact ⟨nofun,nofun⟩
   obtain ⟨v,S',e,rfl,rfl⟩:=this
   exact e
  ·rintro a l S6 ha ⟨g6,x8,x9,rfl⟩
   simp only [zat,qs0,qs1]
   refine za3 (λl S'=>Gr S1 S'/\l=rLo A g b xs k [x4,x5,some (.bl k),some (.tup ((riN xs).map nD)),‹a›,some (.tup ((ze8 g a (riN xs)).map nD))]) ?_ ?_
   ·simp only [zbj,zaz,zaw,zav,zam,qg0,qg1,zaq]
    refine (zs8 ok ha rx rl).mono ?_
    rintro v S7 ⟨g7,rfl⟩
    simp only [zat,qs0,qs1]
    exact ⟨nofun,g6.trans g7,nofun⟩
   rintro l S7 ⟨g7,rfl⟩
   refine za3 (λl S'=>Gr S1 S'/\l=rLo A g b xs k [x4,x5,some (.bl k),some (.tup ((riN xs).map nD)),‹a›,some (.tup ((ze8 g a (riN xs)).map nD))]) ?_ ?_
   ·refine zck (λc S'=>c=false/\Gr S1 S') ?_ (λS' z=>by cases z.1) ?_
    ·simp only [zfu,zef,zb0,za9,zaz,zaw,zav,zam,qg0,qg1,zaq]
     refine (yhn ?_).mono ?_
     ·have:=List.length_filter_le (λr=>decide (some r∈fo g a (riN xs))) (List.range g.length)
      rw [List.length_range] at this
      exact Nat.le_trans this (by lia)
     rintro v S8 ⟨g8,rfl⟩
     simp only [zch,Bool.not_true,qbf,if_false]
     refine (yg8 ok ha rx rl).mono ?_
     rintro v S9 ⟨g9,rfl⟩
     rw [ztg (zth r24)]
     exact ⟨_,rfl,rfl,g7.trans (g8.trans g9)⟩
    ·rintro S8 ⟨_,g8⟩
     rw [zcj]
     exact ⟨rfl,g8,rfl⟩
   rintro l S8 ⟨g8,rfl⟩
   refine zck (λc S'=>c=false/\Gr S1 S') ?_ (λS' z=>by cases z.1) ?_
   ·simp only [zb0,za9,zaz,zaw,zav,zam,qg0,qg1,zaq]
    refine (zs8 ok ha rx rl).mono ?_
    rintro v S9 ⟨g9,rfl⟩
    rw [ztg (zth r24)]
    exact ⟨_,rfl,rfl,g8.trans g9⟩
   ·rintro S9 ⟨_,g9⟩
    rw [zcj]
    exact .inl ⟨.inl rfl,g9,_,_,rfl⟩
 rintro l S6 g6
 simp only [zcg,za6]
 exact ⟨g6,nofun⟩
theorem ztj (h:∀j,o=some j->j<1000000):Sh S (k+1) 10 (oD o):=by
 cases o with
 | none=>exact yeh
 | some j=>exact zrs (h j rfl)
theorem yhx (ok:OkM A g):Sh [] 140 20000 (mD A g):=by
 have a4:=ok.a4
 have r24:=ok.r24
 unfold mD
 refine (zj9 (k:=139) (B:=6000) (n:=2) (λx hx=>?_) (by simp)).le (by decide)
 rcases List.mem_cons.mp hx with rfl|hx
 ·exact (zrs (k:=138) (by lia)).le (by decide)
 ·have:x=.tup (g.map rD):=by simpa using hx
  subst this
  refine (zj9 (k:=138) (B:=240) (n:=24) (λy hy=>?_) (by rw [qlm];exact r24)).le (by decide)
  obtain ⟨cs,hcs,rfl⟩:=List.mem_map.mp hy
  unfold rD
  refine (zj9 (k:=137) (B:=27) (n:=8) (λz hz=>?_) (by rw [qlm,ok.len cs hcs];lia)).le (by decide)
  obtain ⟨c,hcc,rfl⟩:=List.mem_map.mp hz
  unfold cD
  refine (zj9 (k:=136) (B:=10) (n:=2) (λw hw=>?_) (by simp)).le (by decide)
  rcases List.mem_cons.mp hw with rfl|hw
  ·exact ztj (k:=135) λj hj=>by have:=ok.go cs hcs c hcc j hj;lia
  ·have:w=oD c.2:=by simpa using hw
   subst this
   exact ztj (k:=135) λj hj=>by have:=ok.an cs hcs c hcc j hj;lia
theorem yhy (ns:List Int) (hl:ns.length<=63):zbt (ns.map D.int) none (some 63)=ns.map D.int:=by
 unfold zbt
 rw [HT.sIx_none,show (63:Int)=((63:Nat):Int) from rfl,HT.sIx_nat]
 rw [List.drop_zero,List.take_of_length_le (by rw [qlm];lia)]
theorem yhz (h:S[n]? = some (.flst xs)):lstOf S n=some xs:=by unfold lstOf;rw [h]
theorem law_true (ns:List Int) (hl:ns.length<=63):∃S',ze7 [.ref 0] [.flst (ns.map D.int)]=some (.bl true,S'):=by
 have sz:=zcb
 suffices h:Wo (ze7 [.ref 0] [.flst (ns.map D.int)]) λv S'=>v=.bl true by
  obtain ⟨v,S',e,rfl⟩:=h
  exact ⟨S',e⟩
 unfold ze7 zsh
 dsimp! only [zb1]
 refine za3 (λl S=>l=[~~~0,~~~2,none,none,none,none,none,none,none]/\PQ ns 0 S) ?_ ?_
 ·simp only [zbj,zaz,zaw,zav,zam,qg0,zaq]
  unfold zkb zsg
  simp! only [zam]
  rw [zj7 (yhz (n:=0) rfl),yhy ns hl]
  exact ⟨by lia,nofun,nofun,0,0,rfl,rfl,by decide,by decide,by decide⟩
 rintro l S ⟨rfl,p0⟩
 refine zgf (λl S=>True) (λd S=>False) ?_ ?_ (λd l1 S1 o=>o.elim)
 ·refine ze5 (λu l S1=>(∃x2 x3 x4 x5 x6 x7 x8,l=[~~~0,~~~2,x2,x3,x4,x5,x6,x7,x8])/\PQ ns (10000*u) S1) (λ_ _=>False) (n:=2) rfl (by decide) ⟨⟨_,_,_,_,_,_,_,rfl⟩,p0⟩ ?_ (λl' S' _=>.inl ⟨rfl,trivial⟩) (λd l' S' z=>z.elim)
  rintro u l S1 hu ⟨⟨x2,x3,x4,x5,x6,x7,x8,rfl⟩,p1⟩
  simp only [zat,qs0,qs1]
  refine za3 (λl S'=>∃A:Nat,1<=A/\A<=4/\PQ ns (10000*u+1) S'/\l=[~~~0,~~~2,‹u›,‹A›,x4,x5,x6,x7,x8]) ?_ ?_
  ·simp! only [zam]
   refine (zca p1 (by lia) (by decide) (by decide)).mono ?_
   rintro v S2 ⟨d,rfl,hd,p2,f2⟩
   simp! only [zam]
   rw [show (1:Int)+(d:Int)=((1+d:Nat):Int) by lia]
   exact ⟨nofun,1+d,by lia,by lia,p2,rfl⟩
  rintro l S2 ⟨A,a1,a4,p2,rfl⟩
  refine za3 (λl S'=>∃m:Nat,1<=m/\m<=24/\PQ ns (10000*u+3) S'/\l=[~~~0,~~~2,‹u›,‹A›,‹m›,x5,x6,x7,x8]) ?_ ?_
  ·have s4:4<=sizeLine:=by lia
   simp only [zbj,za9,zaz,zaw,zav,zam,za6,qg0,qg1,zaq,zjh,List.length_cons,List.length_nil,s4,true_and]
   try refine ⟨by lia,?_⟩
   refine (zca (p2.gr ⟨_,rfl⟩) (by lia) (by decide) (by decide)).mono ?_
   rintro v S3 ⟨d,rfl,hd,p3,f3⟩
   obtain ⟨x,hx,hx2⟩:=zm6 (a:=8) (b:=8) (c:=14) (d:=24) d hd
   have hl3:=f3.lst (m:=S2.length) (by have:=p2.lt;lia) zdj
   simp only [zf9,hl3,zbu,hx]
   refine (zca p3 (by lia) (by lia) (by lia)).mono ?_
   rintro v S4 ⟨e,rfl,he,p4,f4⟩
   simp only [ze6,zat,qs0,qs1]
   rw [show (1:Int)+(e:Int)=((1+e:Nat):Int) by lia]
   exact ⟨1+e,by lia,by lia,p4,rfl⟩
  rintro l S3 ⟨m,m1,m24,p3,rfl⟩
  refine za3 (λl S'=>∃(g:List (List Cl)),OkM A g/\PQ ns (10000*u+610) S'/\l=[~~~0,~~~2,‹u›,‹A›,‹m›,some (mD A g),x6,x7,x8]) ?_ ?_
  ·simp only [zbj,zaz,zaw,zav,zam,qg0,qg1,zaq]
   refine (ygu p3 (by lia) m1 m24 a1 a4).mono ?_
   rintro v S4 ⟨g,rfl,ok,gl,p4,f4⟩
   simp only [zat,qs0,qs1]
   exact ⟨nofun,g,ok,p4.mono (by lia),rfl⟩
  rintro l S4 ⟨g,ok,p4,rfl⟩
  have g1:=ok.r1
  have g24:=ok.r24
  refine za3 (λl S'=>∃(b:Nat) (f:TF),3<=b/\Tab b g.length f S'/\(∀x y,x<g.length->y<g.length->(f x y=true↔Pt A g (x,y)))/\PQ ns (10000*u+610) S'/\l=[~~~0,~~~2,‹u›,‹A›,‹m›,some (mD A g),~~~(b+g.length),x7,x8]) ?_ ?_
  ·simp only [zbj,zaz,zaw,zav,zam,qg0,qg1,zaq]
   refine (yhl ok).mono ?_
   rintro v S5 ⟨b,f,rfl,hb,g5,t5,hf⟩
   have:=p4.lt
   simp only [zat,qs0,qs1]
   exact ⟨nofun,b,f,by lia,t5,hf,p4.gr g5,rfl⟩
  rintro l S5 ⟨b,f,hb,t5,hf,p5,rfl⟩
  obtain ⟨z,hz,hzs⟩:=yhx ok
  have rep:∀{S:Sto} {Q:D->Sto->Prop},Wo (zez [mD A g] S) Q=Q (.str z.shown) S:=λ{S Q}=>yei (hzs S ⟨S,rfl⟩) (by lia)
  refine zbm (l':=[~~~0,~~~2,‹u›,‹A›,‹m›,some (mD A g),~~~(b+g.length),some (.str z.shown),x8]) (S':=S5) ?_ ?_
  ·simp only [zbj,zaz,zaw,zav,zam,qg0,qg1,zaq,rep,zat,qs0,qs1]
   exact ⟨nofun,nofun,nofun⟩
  refine za3 (λl S'=>Tab b g.length f S'/\PQ ns (10000*u+1210) S'/\∃x8,l=[~~~0,~~~2,‹u›,‹A›,‹m›,some (mD A g),~~~(b+g.length),some (.str z.shown),x8]) ?_ ?_
  ·refine ze5 (λi l S'=>Tab b g.length f S'/\PQ ns (10000*u+610+60*i) S'/\∃x8,l=[~~~0,~~~2,‹u›,‹A›,‹m›,some (mD A g),~~~(b+g.length),some (.str z.shown),x8]) (λ_ _=>False) (n:=10) rfl (by decide) ⟨t5,p5,_,rfl⟩ ?_ (λl' S' h=>⟨rfl,h⟩) (λd l' S' z=>z.elim)
   rintro i l S6 hi ⟨t6,p6,x8,rfl⟩
   simp only [zat,qs0,qs1]
   refine zck (λc S'=>c=false/\Tab b g.length f S'/\PQ ns (10000*u+610+60*(i+1)) S') ?_ (λS' z=>by cases z.1) ?_
   ·simp only [zef,zb0,zaz,zaw,zav,zam,qg0,qg1,zaq]
    refine (yho p6 (by lia) g1 g24 hb t6).mono ?_
    rintro v S7 ⟨xs,rfl,hx,hxl,p7,f7⟩
    have t7:=t6.fn f7 hb
    refine (zti ok t7 hf hx hxl).mono ?_
    rintro v S8 ⟨g8,rfl⟩
    exact ⟨true,rfl,rfl,t7.gr g8,(p7.gr g8).mono (by lia)⟩
   ·rintro S7 ⟨_,t7,p7⟩
    rw [zcj]
    exact .inl ⟨.inl rfl,t7,p7,_,rfl⟩
  rintro l S6 ⟨t6,p6,x8,rfl⟩
  refine zck (λc S'=>c=false/\PQ ns (10000*u+1210) S') ?_ (λS' z=>by cases z.1) ?_
  ·simp only [zfu,zef,zb0,za9,zaz,zaw,zav,zam,qg0,qg1,zaq,zdg,List.length_nil]
   refine ⟨by lia,?_⟩
   refine (zti (xs:=[]) ok t6 hf (λx hx=>by cases hx) (by decide)).mono ?_
   rintro v S7 ⟨g7,rfl⟩
   simp only [zch,Bool.not_true,qbf,if_false,rep,zlu,decide_true]
   exact ⟨nofun,p6.gr g7⟩
  ·rintro S7 ⟨_,p7⟩
   rw [zcj]
   exact .inl ⟨.inl rfl,⟨_,_,_,_,_,_,_,rfl⟩,p7.mono (by lia)⟩
 ·intro l S _
  simp only [zcg,za6]
end M
end
namespace PySem.W.Fast
def tw14836819534978764208:Nat:=0
def tw11804767396477417453:Nat:=0
def tw8987008775720880725:Nat:=0
def tw2405402629279020163:Nat:=0
def tw12463761435272699545:Nat:=0
def tw11941135949473850352:Nat:=0
def tw9058698385376557389:Nat:=0
def tw6683437780999176687:Nat:=0
def tw17624816259983888797:Nat:=0
def tw2433230971937438013:Nat:=0
def tw4185762009301497046:Nat:=0
def tw8603892112102409106:Nat:=0
def tw2761205844719556408:Nat:=0
def tw7856233134540721758:Nat:=0
def tw8840811578193353721:Nat:=0
def tw9083009286425614568:Nat:=0
def tw17878573914470573376:Nat:=0
def tw5347965226481693261:Nat:=0
def tw2346017334740518468:Nat:=0
def tw9661520441260826230:Nat:=0
end PySem.W.Fast
open PySem PySem.W PyProof.Rows
theorem PySem.Challenge.cw_opencells_k10_rooms_that_fit_holds : PySem.Challenge.rw_opencells_k10_rooms_that_fit.Holds := by
 w_on;o_law;k_head;(case hw=>w_witness2)
 k_fill
 refine G.walk (l:=PySem.Challenge.rw_opencells_k10_rooms_that_fit) rfl rfl (λw h Y=>PySem.W.kIn_of Y) ?F (λns hl=>M.law_true ns hl)
 case F =>
  intro w mg fa h KX GN hmg
  refine' G.all_mk KX GN hmg ?_ ?_ ?_ ?_ ?_ ?_ ?_ ?_ ?_ ?_ ?_ ?_ ?_ ?_ ?_ ?_ ?_ ?_ ?_ ?_ ?_ ?_ ?_ ?_ ?_ ?_ ?_ ?_ ?_ ?_ ?_ ?_ ?_ ?_ ?_ ?_ ?_
  all_goals try first|(refine' G.FI.mk ?a ?l ?c ?k;(case a=>k_is);(case l=>k_is);(case c=>k_is);(case k=>k_is))|k_is
#print axioms PySem.Challenge.cw_opencells_k10_rooms_that_fit_holds