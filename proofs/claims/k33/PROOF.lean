import PyProof.Rows.All
import Wide.All
import OpenK.AllK
import Wide.FinOn
import Lean
import PyProof.EqAt
import PyProof.EqKinds
import PyProof.TupleCall
import PyProof.ReprLen
import PyProof.ReprRoads
import PyProof.P3Eq
import PyProof.SetRoads
import PyProof.IsRules
import PyProof.ListRange
import PyProof.ConsumeWalk
import PyProof.NeKinds
import PyProof.DictTable
import PyProof.Draws
import PyProof.EnumMake
import KE.BitLaws
import KE.KIntText
import KE.KRevIter
import PyProof.Rows.SumAny
import PyProof.StrLawsRepr
import PyProof.Rows.SortStrRead
import PyProof.DictCompW
import PyProof.StrOps2
import PyProof.DictWalks
import OpenK.KOwn
import PyProof.NsDelKeeps
import PyProof.RulesAs
import KE.KIsAll
import PyProof.ExcArgsOwn
import PyProof.ExcAttrAll.ValueError
import PyProof.TupleKey
import PyProof.DictRoadsH
import KE.KSortTup
import KE.KDictSum
import PyProof.Rows.TupDisplay
import PyProof.ZipIter
import PyProof.FactsAll.tuple_1
import PyProof.Dict
import PyProof.FactsAll.tuple_2
import PyProof.FactsAll.tuple_3
import PyProof.MeetsSeq
import PyProof.Rows.FStr
import PyProof.Rows.RuleM_int
import PyProof.Rows.SetFrom
import PyProof.Rows.StrItems
import PyProof.Rows.StrNews2
import PyProof.StrWalks
import PyProof.WalksMore
import PySem.Challenge.RW_opencells_k33_namings_told
set_option Elab.async false
set_option maxHeartbeats 4000000
set_option maxRecDepth 100000
set_option linter.unusedSimpArgs false
set_option linter.unusedVariables false
noncomputable section
theorem qwb {α β:Type}{M:PySem.Model}{A:PySem.Around}{E:PySem.Value->PySem.Shared->Prop}{s:PySem.Shared}{m:PySem.Sem α}{f:α->PySem.Sem β}{Q:β->PySem.Shared->Prop}(h:PySem.wpAny M A m (λa s'=>PySem.wpAny M A (f a) Q E s') E s):PySem.wpAny M A (m >>= f) Q E s:=PySem.wpAny_bind h
theorem qwp {α:Type}{M:PySem.Model}{A:PySem.Around}{E:PySem.Value->PySem.Shared->Prop}{s:PySem.Shared}{a:α}{Q:α->PySem.Shared->Prop}(h:Q a s):PySem.wpAny M A (pure a) Q E s:=PySem.wpAny_pure h
theorem qbf:(false=true)=False:=Bool.false_eq_true
theorem qme {α:Type _}{l:List α}{i:Nat}{a:α}(h:l[i]? = some a):∃h:i<l.length,l[i]=a:=List.getElem?_eq_some_iff.mp h
theorem qge {α:Type _}{l:List α}{i:Nat}(h:i<l.length):l[i]? = some l[i]:=List.getElem?_eq_getElem h
abbrev QFg:=PySem.W.Frag
theorem qps {h:PySem.Heap}{a:PySem.Addr}{o1:PySem.Obj}(o:PySem.Obj) (e:h.get? a=some o1):(h.push o).get? a=some o1:=PySem.Heap.get?_push_of_some o e
theorem qlm {α β:Type _}{as:List α}(f:α->β):(as.map f).length=as.length:=List.length_map f
theorem qgm {α β:Type _}{f:α->β}{l:List α}{i:Nat}:(l.map f)[i]? = l[i]?.map f:=List.getElem?_map
theorem qoi {α:Type _}{a b:α}(h:some a=some b):a=b:=Option.some.inj h
theorem qem {α:Type _}{l:List α}{n:Nat}(h:n<l.length):l[n]∈l:=List.getElem_mem h
theorem qmg {α:Type _}{l:List α}{i:Nat}{a:α}(e:l[i]? = some a):a∈l:=List.mem_of_getElem? e
theorem qlr (n:Nat):n<=n:=Nat.le_refl n
theorem qla {α:Type _}{as bs:List α}:(as++bs).length=as.length+bs.length:=List.length_append
namespace TS
open PySem PySem.SetTable
noncomputable def F:Nat->Nat->Nat
 | 0,x=>x
 | n+1,x=>5*F n x+1
theorem znp (a:Nat):∀(b x:Nat),F (a+b) x=F a (F b x):=by
 induction a with
 | zero=>intro b x;rw [Nat.zero_add];rfl
 | succ a ih=>intro b x;rw [show a+1+b=(a+b)+1 by omega];show 5*F (a+b) x+1=5*F a (F b x)+1;rw [ih]
theorem ztt (k:Nat):∃u,∀x,F (2 ^ k) x=(4*(2 ^ k*(2*u+1))+1)*x+2 ^ k*(2*u+1):=by
 induction k with
 | zero=>exact ⟨0,λx=>by show 5*x+1=_;omega⟩
 | succ k ih =>
  obtain ⟨u,h⟩:=ih
  generalize hB:2 ^ k*(2*u+1)=B at h
  refine ⟨2*u*B+u+B,λx=>?_⟩
  have e:2 ^ (k+1)=2 ^ k+2 ^ k:=by rw [Nat.pow_succ];omega
  rw [show F (2 ^ (k+1)) x=F (2 ^ k) (F (2 ^ k) x) by rw [e];exact znp _ _ _,h,h]
  have e2:2 ^ (k+1)*(2*(2*u*B+u+B)+1)=2*B*(2*B+1):=by
   rw [Nat.pow_succ,<-hB]
   generalize 2 ^ k=p
   grind
  rw [e2]
  clear e2 h hB
  grind
theorem ztu {M a b:Nat}(hM:0<M) (h:a % M=b % M) (h2:a % (2*M)≠b % (2*M)):(a+M) % (2*M)=b % (2*M):=by
 have key:∀x,x % (2*M)=x % M\/x % (2*M)=x % M+M:=λx=>by
  have e1:x % (2*M)<2*M:=Nat.mod_lt _ (by omega)
  have e2:x % (2*M) % M=x % M:=Nat.mod_mod_of_dvd x ⟨2,Nat.mul_comm _ _⟩
  by_cases hl:x % (2*M)<M
  ·left;rw [<-e2,Nat.mod_eq_of_lt hl]
  ·right
   have e3:x % (2*M) % M=(x % (2*M)-M) % M:=Nat.mod_eq_sub_mod (by omega)
   have e4:(x % (2*M)-M) % M=x % (2*M)-M:=Nat.mod_eq_of_lt (by omega)
   rw [<-e2,e3,e4];omega
 have hb:=Nat.mod_lt b hM
 rw [Nat.add_mod,Nat.mod_eq_of_lt (show M<2*M by omega)]
 rcases key a with ha|ha <;> rcases key b with hb2|hb2
 ·omega
 ·rw [ha,Nat.mod_eq_of_lt (by omega)];omega
 ·rw [ha,hb2,show a % M+M+M=a % M+2*M by omega,Nat.add_mod_right,Nat.mod_eq_of_lt (by omega)];omega
 ·omega
theorem ztv (k:Nat):∀x y:Nat,∃n,n<2 ^ k/\F n x % 2 ^ k=y % 2 ^ k:=by
 induction k with
 | zero=>intro x y;exact ⟨0,by decide,by simp [Nat.mod_one]⟩
 | succ k ih =>
  intro x y
  obtain ⟨n,hn,h⟩:=ih x y
  have e:2 ^ (k+1)=2*2 ^ k:=by rw [Nat.pow_succ,Nat.mul_comm]
  have hM:0<2 ^ k:=Nat.two_pow_pos k
  rw [e]
  by_cases h2:F n x % (2*2 ^ k)=y % (2*2 ^ k)
  ·exact ⟨n,by omega,h2⟩
  ·refine ⟨2 ^ k+n,by omega,?_⟩
   obtain ⟨u,hl⟩:=ztt k
   rw [znp,hl]
   generalize F n x=z at h h2
   generalize 2 ^ k=M at *
   have e3:(4*(M*(2*u+1))+1)*z+M*(2*u+1)=z+M+2*M*(u+2*z*(2*u+1)):=by
    grind
   rw [e3,Nat.add_mul_mod_self_left]
   exact ztu hM h h2
noncomputable def adv (mask:Nat) (p:Probe):Probe :=
 if p.more > 0 then { p with j:=p.j+1,more:=p.more-1 } else
 let (i,perturb):=leap mask p.i p.perturb
 { p with j:=i,more:=runEnd mask i-i,i,perturb }
theorem ztw (t:SetTable) (p:Probe):t.advance p=adv t.mask p:=rfl
noncomputable def st0 (mask:Nat) (h:Int):Probe:={ j:=bits h % (mask+1),more:=runEnd mask (bits h % (mask+1))-bits h % (mask+1),i:=bits h % (mask+1),perturb:=bits h,dummy:=none }
noncomputable def pn (mask:Nat) (h:Int):Nat->Probe
 | 0=>st0 mask h
 | n+1=>adv mask (pn mask h n)
noncomputable def bl (mask:Nat) (h:Int):Nat->Nat × Nat
 | 0=>(bits h % (mask+1),bits h)
 | n+1=>leap mask (bl mask h n).1 (bl mask h n).2
noncomputable def ss (mask:Nat) (h:Int):Nat->Nat
 | 0=>0
 | n+1=>ss mask h n+(runEnd mask (bl mask h n).1-(bl mask h n).1)+1
noncomputable def blk (mask:Nat) (b:Nat × Nat):Probe:={ j:=b.1,more:=runEnd mask b.1-b.1,i:=b.1,perturb:=b.2,dummy:=none }
theorem zk7 {mask:Nat}{h:Int}{s:Nat}{b:Nat × Nat}(e:pn mask h s=blk mask b):∀d,d<=runEnd mask b.1-b.1->pn mask h (s+d)={ j:=b.1+d,more:=runEnd mask b.1-b.1-d,i:=b.1,perturb:=b.2,dummy:=none }
 | 0,_=>by rw [Nat.add_zero,e];rfl
 | d+1,hd=>by
  show adv mask (pn mask h (s+d))=_
  rw [zk7 e d (by omega)]
  unfold adv
  rw [if_pos (by show runEnd mask b.1-b.1-d > 0;omega)]
  simp only [Probe.mk.injEq,and_true]
  exact ⟨by omega,by omega⟩
theorem zk8 (mask:Nat) (h:Int):∀n,pn mask h (ss mask h n)=blk mask (bl mask h n)
 | 0=>rfl
 | n+1=>by
  have e:=zk7 (zk8 mask h n) (runEnd mask (bl mask h n).1-(bl mask h n).1) (qlr _)
  show adv mask (pn mask h (ss mask h n+(runEnd mask (bl mask h n).1-(bl mask h n).1)))=_
  rw [e]
  unfold adv
  rw [if_neg (by show ¬(runEnd mask (bl mask h n).1-(bl mask h n).1-(runEnd mask (bl mask h n).1-(bl mask h n).1)) > 0;omega)]
  rfl
theorem ztx (mask i:Nat):runEnd mask i-i<=9:=by unfold runEnd;split <;> omega
theorem znq (mask:Nat) (h:Int):∀n,ss mask h n<=10*n
 | 0=>qlr _
 | n+1=>by have:=znq mask h n;have:=ztx mask (bl mask h n).1;show ss mask h n+_+1<=_;omega
theorem znr (mask:Nat) (h:Int):∀n,(bl mask h n).2=bits h / 32 ^ n
 | 0=>by show bits h=_;simp
 | n+1=>by show (bl mask h n).2 / 32=_;rw [znr mask h n,Nat.div_div_eq_div_mul,Nat.pow_succ]
theorem zty (h:Int):bits h<2 ^ 64:=by
 unfold bits
 have h1:=Int.emod_nonneg h (show (2 ^ 64:Int)≠0 by decide)
 have h2:=Int.emod_lt_of_pos h (show (0:Int)<2 ^ 64 by decide)
 omega
theorem ztz (mask:Nat) (h:Int) (n:Nat):(bl mask h (13+n)).2=0:=by
 rw [znr]
 apply Nat.div_eq_of_lt
 have:=zty h
 have e:2 ^ 65<=32 ^ (13+n):=by
  rw [Nat.pow_add,show (32:Nat) ^ 13=2 ^ 65 by decide]
  exact Nat.le_mul_of_pos_right _ (Nat.pow_pos (by decide))
 have:(2:Nat) ^ 64<2 ^ 65:=by decide
 omega
theorem zns (mask:Nat) (h:Int):∀n,(bl mask h n).1<=mask
 | 0=>by have:=Nat.mod_lt (bits h) (show 0<mask+1 by omega);show bits h % (mask+1)<=mask;omega
 | n+1=>by have:=Nat.mod_lt ((bl mask h n).1*5+1+(bl mask h n).2 / 32) (show 0<mask+1 by omega);show ((bl mask h n).1*5+1+(bl mask h n).2 / 32) % (mask+1)<=mask;omega
theorem znt (mask:Nat) (h:Int):∀n,(bl mask h (13+n)).1=F n (bl mask h 13).1 % (mask+1)
 | 0=>by have:=zns mask h 13;exact (Nat.mod_eq_of_lt (by show (bl mask h 13).1<mask+1;omega)).symm
 | n+1=>by
  show ((bl mask h (13+n)).1*5+1+(bl mask h (13+n)).2 / 32) % (mask+1)=(5*F n _+1) % (mask+1)
  rw [znt mask h n,ztz,Nat.zero_div,Nat.add_zero,Nat.mul_comm (F n _ % (mask+1)) 5]
  rw [Nat.add_mod,Nat.mul_mod,Nat.mod_mod,<-Nat.mul_mod,<-Nat.add_mod]
theorem zt0 {mask k:Nat}(hk:mask+1=2 ^ k) (h:Int) {e:Nat}(he:e<=mask):∃n,n<mask+14/\(bl mask h n).1=e:=by
 obtain ⟨n,hn,hf⟩:=ztv k (bl mask h 13).1 e
 refine ⟨13+n,by omega,?_⟩
 rw [znt,hk,hf,<-hk]
 exact Nat.mod_eq_of_lt (by omega)
theorem zk9 {mask i:Nat}(h:i<=mask):runEnd mask i<=mask:=by unfold runEnd;split <;> omega
theorem zla (mask:Nat) (h:Int) (n:Nat):(pn mask h n).j<=mask/\(pn mask h n).j+(pn mask h n).more<=mask/\(pn mask h n).dummy=none:=by
 induction n with
 | zero =>
  have h1:bits h % (mask+1)<=mask:=by have:=Nat.mod_lt (bits h) (show 0<mask+1 by omega);omega
  have h2:=zk9 h1
  refine ⟨h1,?_,rfl⟩
  show bits h % (mask+1)+(runEnd mask (bits h % (mask+1))-bits h % (mask+1))<=mask
  omega
 | succ n ih =>
  obtain ⟨i1,i2,i3⟩:=ih
  show (adv mask (pn mask h n)).j<=mask/\(adv mask (pn mask h n)).j+(adv mask (pn mask h n)).more<=mask/\(adv mask (pn mask h n)).dummy=none
  unfold adv
  by_cases hm:(pn mask h n).more > 0
  ·rw [if_pos hm]
   exact ⟨by show (pn mask h n).j+1<=mask;omega,by show (pn mask h n).j+1+((pn mask h n).more-1)<=mask;omega,i3⟩
  ·rw [if_neg hm]
   have h1:(leap mask (pn mask h n).i (pn mask h n).perturb).1<=mask:=by
    have:=Nat.mod_lt ((pn mask h n).i*5+1+(pn mask h n).perturb / 32) (show 0<mask+1 by omega)
    show ((pn mask h n).i*5+1+(pn mask h n).perturb / 32) % (mask+1)<=mask
    omega
   have h2:=zk9 h1
   exact ⟨h1,by show (leap mask (pn mask h n).i (pn mask h n).perturb).1+(runEnd mask (leap mask (pn mask h n).i (pn mask h n).perturb).1-(leap mask (pn mask h n).i (pn mask h n).perturb).1)<=mask;omega,i3⟩
def Ris (xs:Array Nat):Prop:=∀i j,i<j->j<xs.size->xs.getD i 0<xs.getD j 0
theorem zt1 {xs:Array Nat}{i:Nat}(h:i<xs.size) (d e:Nat):xs.getD i d=xs.getD i e:=by simp [Array.getD,h]
theorem znu {xs:Array Nat}{i:Nat}(h:i<xs.size) (d:Nat):xs[i]? = some (xs.getD i d):=by simp [Array.getD,h]
theorem zh7 {xs:Array Nat}{i j:Nat}(h:xs[i]? = some j) (d:Nat):i<xs.size/\xs.getD i d=j:=by
 obtain ⟨h1,h2⟩:=Array.getElem?_eq_some_iff.mp h
 exact ⟨h1,by simp [Array.getD,h1,h2]⟩
theorem zt2 {xs:Array Nat}(hr:Ris xs) (j:Nat):∀(fuel lo hi:Nat),lo<=hi->hi<=xs.size->hi-lo<=fuel->(∀i,i<lo->xs.getD i 0<j)->(∀i,hi<=i->i<xs.size->j<=xs.getD i 0) ->
  below.go xs j fuel lo hi<=xs.size/\(∀i,i<below.go xs j fuel lo hi->xs.getD i 0<j)/\∀i,below.go xs j fuel lo hi<=i->i<xs.size->j<=xs.getD i 0:=by
 intro fuel
 induction fuel with
 | zero =>
  intro lo hi h1 h2 h3 h4 h5
  have e:lo=hi:=by omega
  subst e
  exact ⟨h2,h4,h5⟩
 | succ fuel ih =>
  intro lo hi h1 h2 h3 h4 h5
  unfold below.go
  by_cases hl:lo<hi
  ·rw [if_pos hl]
   dsimp only
   have hm1:(lo+hi) / 2<hi:=by omega
   have hm2:lo<=(lo+hi) / 2:=by omega
   have hms:(lo+hi) / 2<xs.size:=by omega
   rw [zt1 hms j 0]
   by_cases hx:xs.getD ((lo+hi) / 2) 0<j
   ·rw [if_pos hx]
    refine ih _ _ (by omega) h2 (by omega) (λi hi'=>?_) h5
    by_cases e:i=(lo+hi) / 2
    ·rw [e];exact hx
    ·exact Nat.lt_trans (hr i _ (by omega) hms) hx
   ·rw [if_neg hx]
    refine ih _ _ hm2 (by omega) (by omega) h4 λi hi1 hi2=>?_
    by_cases e:i=(lo+hi) / 2
    ·rw [e];omega
    ·have:=hr ((lo+hi) / 2) i (by omega) hi2
     omega
  ·rw [if_neg hl]
   have e:lo=hi:=by omega
   subst e
   exact ⟨h2,h4,h5⟩
theorem zjs {xs:Array Nat}(hr:Ris xs) (j:Nat):below xs j<=xs.size/\(∀i,i<below xs j->xs.getD i 0<j)/\∀i,below xs j<=i->i<xs.size->j<=xs.getD i 0 :=
 zt2 hr j xs.size 0 xs.size (Nat.zero_le _) (qlr _) (by omega) (λi h=>absurd h (Nat.not_lt_zero _)) λi h1 h2=>by omega
theorem zh8 {xs:Array Nat}(hr:Ris xs) {i j:Nat}(h:xs[i]? = some j):below xs j=i:=by
 obtain ⟨h1,h2⟩:=zh7 h 0
 obtain ⟨b1,b2,b3⟩:=zjs hr j
 rcases Nat.lt_trichotomy (below xs j) i with hl|hl|hl
 ·have:=b3 (below xs j) (qlr _) (by omega)
  have:=hr _ _ hl h1
  omega
 ·exact hl
 ·have:=b2 i hl
  omega
theorem zh9 {t:SetTable}(hr:Ris t.place) {i j:Nat}(h:t.place[i]? = some j):t.slot j=.live i:=by
 unfold slot
 dsimp only
 rw [zh8 hr h,if_pos (by rw [h];simp)]
theorem zt3 {t:SetTable}(hd:t.dummies = #[]) {j:Nat}(h:∀i:Nat,t.place[i]?≠some j):t.slot j=.empty:=by
 unfold slot
 dsimp only
 rw [if_neg (by intro z;exact h _ (by simpa using z)),if_neg (by rw [hd];simp [has])]
def In (t:SetTable) (j:Nat):Prop:=∃i:Nat,t.place[i]? = some j
structure TOk (t:SetTable) (es:Array (Int × Value)):Prop where
 dm:t.dummies = #[]
 sz:t.place.size=es.size
 pw:∃k,t.mask+1=2 ^ k/\3<=k
 ris:Ris t.place
 le:∀j,In t j->j<=t.mask
 ro:es.size*5<t.mask*3
 sm:t.mask<8192
 pr:∀(i:Nat) (h:Int) (v:Value),es[i]? = some (h,v)->∃n,t.place[i]? = some (pn t.mask h n).j/\∀m,m<n->In t (pn t.mask h m).j
theorem TOk.fits {t:SetTable}{es:Array (Int × Value)}(k:TOk t es):t.fits es.size=true:=by
 unfold SetTable.fits SetTable.fill
 rw [k.dm,k.sz]
 have:=k.ro
 simp
 omega
theorem TOk.gave {t:SetTable}{es:Array (Int × Value)}(k:TOk t es):t.gaveWay=false:=by
 unfold SetTable.gaveWay
 obtain ⟨n,h1,h2⟩:=k.pw
 have:(2:Nat) ^ n % 2=0:=by
  obtain ⟨m,rfl⟩:∃m,n=m+1:=⟨n-1,by omega⟩
  rw [Nat.pow_succ];simp
 simp
 omega
theorem pigeon:∀(n:Nat) (f:Nat->Option Nat) ,(∀j,j<n+1->∃i,f j=some i/\i<n)->(∀j j' i,j<n+1->j' < n+1->f j=some i->f j' = some i->j=j')->False
 | 0,f,h,_=>by obtain ⟨i,_,hi⟩:=h 0 (by omega);omega
 | n+1,f,h,inj=>by
  obtain ⟨a,ha,hal⟩:=h (n+1) (by omega)
  refine pigeon n (λj=>(f j).map λi=>if i=n then a else i) (λj hj=>?_) λj j' i l1 l2 h1 h2=>?_
  ·obtain ⟨i,hi,hil⟩:=h j (by omega)
   refine ⟨if i=n then a else i,by simp [hi],?_⟩
   split
   ·rename_i e
    rcases Nat.lt_or_ge a n with h' | h'
    ·exact h'
    ·have:a=n:=by omega
     have:=inj (n+1) j n (by omega) (by omega) (by rw [ha,this]) (by rw [hi,e])
     omega
   ·omega
  ·cases e1:f j with
   | none=>rw [e1] at h1;cases h1
   | some i1 =>
    cases e2:f j' with
    | none=>rw [e2] at h2;cases h2
    | some i2 =>
     rw [e1] at h1;rw [e2] at h2
     have h1:(if i1=n then a else i1)=i:=by simpa using h1
     have h2:(if i2=n then a else i2)=i:=by simpa using h2
     by_cases c1:i1=n <;> by_cases c2:i2=n
     ·exact inj j j' n (by omega) (by omega) (by rw [e1,c1]) (by rw [e2,c2])
     ·rw [if_pos c1] at h1;rw [if_neg c2] at h2
      have:=inj (n+1) j' i (by omega) (by omega) (by rw [ha,h1]) (by rw [e2,h2])
      omega
     ·rw [if_neg c1] at h1;rw [if_pos c2] at h2
      have:=inj (n+1) j i (by omega) (by omega) (by rw [ha,h2]) (by rw [e1,h1])
      omega
     ·rw [if_neg c1] at h1;rw [if_neg c2] at h2
      exact inj j j' i (by omega) (by omega) (by rw [e1,h1]) (by rw [e2,h2])
theorem znv {mask k:Nat}(hk:mask+1=2 ^ k) (h:Int) (P:Nat->Prop) [DecidablePred P] {e:Nat}(he:e<=mask) (hP:¬P e) :
  ∃N b,N<=ss mask h b/\b<mask+14/\¬P (pn mask h N).j/\∀m,m<N->P (pn mask h m).j:=by
 obtain ⟨b,hb,hbe⟩:=zt0 hk h he
 have h0:¬P (pn mask h (ss mask h b)).j:=by rw [zk8];show ¬P (bl mask h b).1;rw [hbe];exact hP
 have least:∀n,¬P (pn mask h n).j->∃N,N<=n/\¬P (pn mask h N).j/\∀m,m<N->P (pn mask h m).j:=by
  intro n
  induction n using Nat.strongRecOn with
  | _ n ih =>
   intro hn
   by_cases c:∃m,m<n/\¬P (pn mask h m).j
   ·obtain ⟨m,hm,hp⟩:=c
    obtain ⟨N,h1,h2⟩:=ih m hm hp
    exact ⟨N,by omega,h2⟩
   ·exact ⟨n,qlr _,hn,λm hm=>Decidable.byContradiction λz=>c ⟨m,hm,z⟩⟩
 obtain ⟨N,h1,h2,h3⟩:=least _ h0
 exact ⟨N,b,h1,hb,h2,h3⟩
open Classical in
theorem TOk.empty {t:SetTable}{es:Array (Int × Value)}(k:TOk t es) (h:Int):∃N,N<10*(t.mask+14)/\¬In t (pn t.mask h N).j/\∀m,m<N->In t (pn t.mask h m).j:=by
 obtain ⟨n,h1,h2⟩:=k.pw
 have ex:∃e,e<=t.mask/\¬In t e:=by
  refine Classical.byContradiction λhc=>?_
  have all:∀e,e<=t.mask->In t e:=λe he=>Classical.byContradiction λz=>hc ⟨e,he,z⟩
  refine pigeon t.mask (λj=>if hj:In t j then some hj.choose else none) (λj hj=>?_) λj j' i _ _ e1 e2=>?_
  ·have hi:=all j (by omega)
   refine ⟨hi.choose,dif_pos hi,?_⟩
   have:=(zh7 hi.choose_spec 0).1
   have:=k.sz;have:=k.ro
   omega
  ·split at e1
   ·rename_i hj
    split at e2
    ·rename_i hj'
     have q1:=hj.choose_spec
     have q2:=hj'.choose_spec
     rw [qoi e1] at q1
     rw [qoi e2] at q2
     rw [q1] at q2
     exact qoi q2
    ·cases e2
   ·cases e1
 obtain ⟨e,he,hne⟩:=ex
 obtain ⟨N,b,h3,h4,h5,h6⟩:=znv h1 h (In t) he hne
 have:=znq t.mask h b
 exact ⟨N,by omega,h5,h6⟩
theorem zt4 {t:SetTable}{es:Array (Int × Value)}(k:TOk t es) (h:Int) {N:Nat}(hN:¬In t (pn t.mask h N).j) (hl:∀m,m<N->In t (pn t.mask h m).j) (ha:Nat->Int) :
  ∀(fuel m:Nat),m<=N->N-m<fuel ->
   (∃m' i,m<=m'/\m' < N/\t.place[i]? = some (pn t.mask h m').j/\ha i=h/\(∀m'' i',m<=m''->m'' < m'->t.place[i']? = some (pn t.mask h m'').j->ha i'≠h) /\
    probe.go t ha h fuel (pn t.mask h m)=some (.candidate (pn t.mask h m').j i (pn t.mask h (m' + 1)))) \/
   ((∀m'' i',m<=m''->m'' < N->t.place[i']? = some (pn t.mask h m'').j->ha i'≠h)/\probe.go t ha h fuel (pn t.mask h m)=some (.empty (pn t.mask h N).j none)):=by
 intro fuel
 induction fuel with
 | zero=>intro m h1 h2;omega
 | succ fuel ih =>
  intro m h1 h2
  unfold probe.go
  rcases Nat.lt_or_ge m N with hm|hm
  ·obtain ⟨i,hi⟩:=hl m hm
   rw [zh9 k.ris hi]
   dsimp only
   by_cases e:ha i=h
   ·rw [if_pos (by simpa using e)]
    exact .inl ⟨m,i,qlr _,hm,hi,e,λm'' i' q1 q2=>by omega,rfl⟩
   ·rw [if_neg (by simpa using e),ztw]
    show _\/(_/\probe.go t ha h fuel (pn t.mask h (m+1))=_)
    have here:∀i',t.place[i']? = some (pn t.mask h m).j->ha i'≠h:=λi' hi'=>by
     have e1:=zh8 k.ris hi
     have e2:=zh8 k.ris hi'
     rw [e1] at e2
     rw [<-e2];exact e
    rcases ih (m+1) hm (by omega) with ⟨m',i',q1,q2,q3,q4,q5,q6⟩|⟨q1,q2⟩
    ·refine .inl ⟨m',i',by omega,q2,q3,q4,λm'' i'' r1 r2 r3=>?_,q6⟩
     by_cases c:m'' = m
     ·subst c;exact here i'' r3
     ·exact q5 m'' i'' (by omega) r2 r3
    ·refine .inr ⟨λm'' i'' r1 r2 r3=>?_,q2⟩
     by_cases c:m'' = m
     ·subst c;exact here i'' r3
     ·exact q1 m'' i'' (by omega) r2 r3
  ·have e:m=N:=by omega
   subst e
   rw [zt3 k.dm λi hi=>hN ⟨i,hi⟩]
   exact .inr ⟨λm'' i' q1 q2=>by omega,by rw [(zla t.mask h m).2.2]⟩
theorem zfv {α:Type}{xs:Array α}{p:Nat}{x:α}(hp:p<=xs.size) (i:Nat):(insertAt xs p x)[i]? = if i<p then xs[i]? else if i=p then some x else xs[i-1]?:=by
 rw [<-Array.getElem?_toList,toList_insertAt]
 have hl:(xs.toList.take p).length=p:=by rw [List.length_take,Array.length_toList];omega
 by_cases h1:i<p
 ·rw [if_pos h1,List.getElem?_append_left (by omega),List.getElem?_take_of_lt h1,Array.getElem?_toList]
 ·rw [if_neg h1,List.getElem?_append_right (by omega),hl]
  by_cases h2:i=p
  ·rw [if_pos h2,h2,Nat.sub_self];rfl
  ·rw [if_neg h2,show i-p=(i-p-1)+1 by omega,List.getElem?_cons_succ,List.getElem?_drop,Array.getElem?_toList]
   congr 1;omega
theorem zei {α:Type}{xs:Array α}{p:Nat}{x:α}:(insertAt xs p x).size=xs.size+1:=by
 rw [<-Array.length_toList,(insertAt_perm xs p x).length_eq];simp
theorem zt5 (j:Nat):has #[] j=false:=by simp [has]
theorem zlb {t:SetTable}(hd:t.dummies = #[]) (j:Nat):t.put j=({ t with place:=insertAt t.place (below t.place j) j },below t.place j):=by
 unfold put
 rw [hd,zt5]
 cases t
 simp only at hd
 subst hd
 rfl
theorem zt6 {t:SetTable}(hr:Ris t.place) (j:Nat) (x:Nat):In { t with place:=insertAt t.place (below t.place j) j } x↔x=j\/In t x:=by
 have hb:=(zjs hr j).1
 constructor
 ·rintro ⟨i,hi⟩
  have hi:(insertAt t.place (below t.place j) j)[i]? = some x:=hi
  rw [zfv hb] at hi
  split at hi
  ·exact .inr ⟨i,hi⟩
  ·split at hi
   ·exact .inl (qoi hi).symm
   ·exact .inr ⟨_,hi⟩
 ·rintro (rfl|⟨i,hi⟩)
  ·refine ⟨below t.place x,?_⟩
   show (insertAt t.place (below t.place x) x)[_]? = some x
   rw [zfv hb,if_neg (Nat.lt_irrefl _),if_pos rfl]
  ·by_cases c:i<below t.place j
   ·exact ⟨i,by show (insertAt t.place (below t.place j) j)[i]? = some x;rw [zfv hb,if_pos c];exact hi⟩
   ·exact ⟨i+1,by show (insertAt t.place (below t.place j) j)[i+1]? = some x;rw [zfv hb,if_neg (by omega),if_neg (by omega)];exact hi⟩
theorem zt7 {xs:Array Nat}(hr:Ris xs) {j:Nat}(hj:∀i:Nat,xs[i]?≠some j):Ris (insertAt xs (below xs j) j):=by
 obtain ⟨b1,b2,b3⟩:=zjs hr j
 have b4:∀i,below xs j<=i->i<xs.size->j<xs.getD i 0:=λi h1 h2=>by
  have:=b3 i h1 h2
  have:xs.getD i 0≠j:=λe=>hj i (by rw [znu h2 0,e])
  omega
 have g:∀i,i<(insertAt xs (below xs j) j).size->(insertAt xs (below xs j) j).getD i 0=if i<below xs j then xs.getD i 0 else if i=below xs j then j else xs.getD (i-1) 0:=λi hi=>by
  have q:=zfv (x:=j) b1 i
  rw [znu hi 0] at q
  rw [zei] at hi
  split at q
  ·rename_i c;rw [if_pos c];exact ((zh7 q.symm 0).2).symm
  ·rename_i c
   rw [if_neg c]
   split at q
   ·rename_i c2;rw [if_pos c2];exact qoi q
   ·rename_i c2;rw [if_neg c2];exact ((zh7 q.symm 0).2).symm
 intro a b hab hb
 rw [g a (by omega),g b hb]
 rw [zei] at hb
 by_cases c1:a<below xs j
 ·rw [if_pos c1]
  by_cases c2:b<below xs j
  ·rw [if_pos c2];exact hr a b hab (by omega)
  ·rw [if_neg c2]
   have:=b2 a c1
   by_cases c3:b=below xs j
   ·rw [if_pos c3];exact this
   ·rw [if_neg c3]
    have:=b4 (b-1) (by omega) (by omega)
    omega
 ·rw [if_neg c1,if_neg (show ¬b<below xs j by omega),if_neg (show ¬b=below xs j by omega)]
  by_cases c3:a=below xs j
  ·rw [if_pos c3];exact b4 (b-1) (by omega) (by omega)
  ·rw [if_neg c3];exact hr (a-1) (b-1) (by omega) (by omega)
theorem TOk.put {t:SetTable}{es:Array (Int × Value)}(k:TOk t es) {h:Int}{x:Value}{N:Nat}(hN:¬In t (pn t.mask h N).j) (hl:∀m,m<N->In t (pn t.mask h m).j) (hro:(es.size+1)*5<t.mask*3) :
  TOk (t.put (pn t.mask h N).j).1 (insertAt es (t.put (pn t.mask h N).j).2 (h,x)):=by
 rw [zlb k.dm]
 have hb:=(zjs k.ris (pn t.mask h N).j).1
 have hbe:=hb
 rw [k.sz] at hbe
 have inn:=zt6 k.ris (pn t.mask h N).j
 refine ⟨k.dm,?_,k.pw,zt7 k.ris λi hi=>hN ⟨i,hi⟩,λj hj=>?_,?_,k.sm,λi h' v hi=>?_⟩
 ·show (insertAt t.place _ _).size=(insertAt es _ _).size
  rw [zei,zei,k.sz]
 ·rcases (inn j).mp hj with rfl|hj
  ·exact (zla _ _ _).1
  ·exact k.le j hj
 ·rw [zei];exact hro
 ·rw [zfv hbe] at hi
  show ∃n,(insertAt t.place (below t.place (pn t.mask h N).j) (pn t.mask h N).j)[i]? = some (pn t.mask h' n).j/\_
  rw [zfv hb]
  have up:∀n,(∀m,m<n->In t (pn t.mask h' m).j)->∀m,m<n->In { t with place:=insertAt t.place (below t.place (pn t.mask h N).j) (pn t.mask h N).j } (pn t.mask h' m).j:=λn q m hm=>(inn _).mpr (.inr (q m hm))
  split at hi
  ·rename_i c
   rw [if_pos c]
   obtain ⟨n,e1,e2⟩:=k.pr i h' v hi
   exact ⟨n,e1,up n e2⟩
  ·rename_i c
   rw [if_neg c]
   split at hi
   ·rename_i c2
    rw [if_pos c2]
    cases hi
    exact ⟨N,rfl,up N hl⟩
   ·rename_i c2
    rw [if_neg c2]
    obtain ⟨n,e1,e2⟩:=k.pr _ h' v hi
    exact ⟨n,e1,up n e2⟩
theorem TOk.plain {t:SetTable}{es:Array (Int × Value)}(k:TOk t es) (b:Bool):TOk { t with plain:=b } es:=⟨k.dm,k.sz,k.pw,k.ris,k.le,k.ro,k.sm,k.pr⟩
theorem zt8 (n:Nat):∀(fuel k:Nat),n<2 ^ (k+fuel)->∃k',k<=k'/\sizeAbove.go n fuel (2 ^ k)=2 ^ k'/\n<2 ^ k'/\(k' = k\/2 ^ k'<=2*n):=by
 intro fuel
 induction fuel with
 | zero=>intro k h;exact ⟨k,qlr _,rfl,h,.inl rfl⟩
 | succ fuel ih =>
  intro k h
  unfold sizeAbove.go
  by_cases c:2 ^ k<=n
  ·rw [if_pos c,<-Nat.pow_succ]
   obtain ⟨k',h1,h2,h3,h4⟩:=ih (k+1) (by rw [show k+1+fuel=k+(fuel+1) by omega];exact h)
   refine ⟨k',by omega,h2,h3,.inr ?_⟩
   rcases h4 with rfl|h4
   ·rw [Nat.pow_succ];omega
   ·exact h4
  ·rw [if_neg c]
   exact ⟨k,qlr _,rfl,by omega,.inl rfl⟩
theorem znw {n:Nat}(h:n<=4000):∃k,3<=k/\sizeAbove n=2 ^ k/\n<2 ^ k/\2 ^ k<=8000:=by
 obtain ⟨k',h1,h2,h3,h4⟩:=zt8 n 64 3 (Nat.lt_of_le_of_lt h (by decide))
 refine ⟨k',h1,h2,h3,?_⟩
 rcases h4 with rfl|h4
 ·decide
 ·omega
def Occ (ow:Array (Option Nat)) (j:Nat):Prop:=∃i,ow[j]? = some (some i)
instance (ow:Array (Option Nat)):DecidablePred (Occ ow):=λj=>match h:ow[j]? with
 | some (some i)=>.isTrue ⟨i,h⟩
 | some none=>.isFalse λhx1_=>by obtain ⟨i,z⟩:=hx1_;rw [h] at z;cases z
 | none=>.isFalse λhx2_=>by obtain ⟨i,z⟩:=hx2_;rw [h] at z;cases z
theorem zlc {ow:Array (Option Nat)}{j:Nat}(hj:j<ow.size):(ow.getD j (some 0)).isNone = !decide (Occ ow j):=by
 have e:ow[j]? = some ow[j]:=Array.getElem?_eq_getElem hj
 have e2:ow.getD j (some 0)=ow[j]:=by simp [Array.getD,hj]
 rw [e2]
 cases c:ow[j] with
 | none =>
  rw [decide_eq_false (λhx3_=>by obtain ⟨i,z⟩:=hx3_;rw [e,c] at z;cases z)];rfl
 | some i =>
  rw [decide_eq_true (show Occ ow j from ⟨i,by rw [e,c]⟩)];rfl
theorem zt9 {P:Nat->Bool}:∀(n d:Nat),d<n->P d=true->(∀k,k<d->P k=false)->(List.range n).find? P=some d:=by
 intro n d hd hp hb
 rw [List.find?_range_eq_some]
 exact ⟨hp,by simpa using hd,λj hj=>by simpa using hb j hj⟩
theorem zua {mask:Nat}{h:Int}{ow:Array (Option Nat)}(hs:ow.size=mask+1) {N b:Nat}(hN:¬Occ ow (pn mask h N).j) (hl:∀m,m<N->Occ ow (pn mask h m).j) (hb:N<=ss mask h b) :
  ∀(fuel n:Nat),n<=b->b-n<fuel->ss mask h n<=N->layClean.free mask ow fuel (bl mask h n).1 (bl mask h n).2=some (pn mask h N).j:=by
 intro fuel
 induction fuel with
 | zero=>intro n h1 h2;omega
 | succ fuel ih =>
  intro n h1 h2 h3
  have hil:=zns mask h n
  have hre:(bl mask h n).1<=runEnd mask (bl mask h n).1:=by unfold runEnd;split <;> omega
  have hrm:=zk9 hil
  have at':∀d,d<=runEnd mask (bl mask h n).1-(bl mask h n).1->(pn mask h (ss mask h n+d)).j=(bl mask h n).1+d:=λd hd=>by rw [zk7 (zk8 mask h n) d hd]
  unfold layClean.free
  by_cases c:N-ss mask h n<=runEnd mask (bl mask h n).1-(bl mask h n).1
  ·have e:=at' _ c
   rw [show ss mask h n+(N-ss mask h n)=N by omega] at e
   rw [zt9 _ (N-ss mask h n) (by omega) (by rw [zlc (by omega),<-e,decide_eq_false hN];rfl) λk hk=>by
    rw [zlc (by omega),<-at' k (by omega),decide_eq_true (hl _ (by omega))];rfl]
   rw [e]
  ·have hn:(List.range (runEnd mask (bl mask h n).1+1-(bl mask h n).1)).find? (λk=>(ow.getD ((bl mask h n).1+k) (some 0)).isNone)=none:=by
    rw [List.find?_eq_none]
    intro k hk
    have hk:=List.mem_range.mp hk
    rw [zlc (by omega),<-at' k (by omega),decide_eq_true (hl _ (by omega))]
    simp
   rw [hn]
   show layClean.free mask ow fuel (bl mask h (n+1)).1 (bl mask h (n+1)).2=_
   have hnb:n≠b:=λe=>by subst e;omega
   exact ih (n+1) (by omega) (by omega) (by show ss mask h n+_+1<=N;omega)
structure Own (mask:Nat) (ow:Array (Option Nat)) (hs:List Int):Prop where
 size:ow.size=mask+1
 pr:∀(j i:Nat),ow[j]? = some (some i)->∃h,hs[i]? = some h/\∃n,(pn mask h n).j=j/\∀m,m<n->Occ ow (pn mask h m).j
 all:∀i,i<hs.length->∃j:Nat,ow[j]? = some (some i)
 inj:∀(j j' i:Nat),ow[j]? = some (some i)->ow[j']? = some (some i)->j=j'
theorem zgw {ow:Array (Option Nat)}{j i:Nat}{x:Option Nat}(hj:j<ow.size):(ow.setIfInBounds j x)[i]? = if i=j then some x else ow[i]?:=by
 rw [Array.getElem?_setIfInBounds]
 by_cases c:j=i
 ·subst c;simp [hj]
 ·rw [if_neg c,if_neg (λe=>c e.symm)]
theorem Own.step {mask k:Nat}(hk:mask+1=2 ^ k) {ow:Array (Option Nat)}{hs:List Int}(o:Own mask ow hs) (h:Int) (hl:hs.length<mask+1) :
  ∃j,layClean.free mask ow (turns mask) (bits h % (mask+1)) (bits h)=some j/\Own mask (ow.setIfInBounds j (some hs.length)) (hs++[h]):=by
 have ex:∃e,e<=mask/\¬Occ ow e:=by
  refine Decidable.byContradiction λhc=>?_
  have all:∀e,e<=mask->Occ ow e:=λe he=>Decidable.byContradiction λz=>hc ⟨e,he,z⟩
  refine pigeon mask (λj=>(ow[j]?).join) (λj hj=>?_) λj j' i l1 l2 e1 e2=>?_
  ·obtain ⟨i,hi⟩:=all j (by omega)
   obtain ⟨h',e1,_⟩:=o.pr j i hi
   have:=(qme e1).1
   exact ⟨i,by rw [hi];rfl,by omega⟩
  ·obtain ⟨i1,q1⟩:=all j (by omega)
   obtain ⟨i2,q2⟩:=all j' (by omega)
   rw [q1] at e1;rw [q2] at e2
   cases e1;cases e2
   exact o.inj j j' i q1 q2
 obtain ⟨e,he,hne⟩:=ex
 obtain ⟨N,b,h3,h4,h5,h6⟩:=znv hk h (Occ ow) he hne
 have hj:=(zla mask h N).1
 have hjs:(pn mask h N).j<ow.size:=by rw [o.size];omega
 refine ⟨(pn mask h N).j,zua o.size h5 h6 h3 _ 0 (Nat.zero_le _) (by unfold turns;omega) (Nat.zero_le _),?_⟩
 have up:∀x,Occ ow x->Occ (ow.setIfInBounds (pn mask h N).j (some hs.length)) x:=λx hx4_=>by
  obtain ⟨i,hi⟩:=hx4_
  by_cases c:x=(pn mask h N).j
  ·exact ⟨hs.length,by rw [zgw hjs,if_pos c]⟩
  ·exact ⟨i,by rw [zgw hjs,if_neg c];exact hi⟩
 refine ⟨by simp [o.size],λj i hi=>?_,λi hi=>?_,λj j' i q1 q2=>?_⟩
 ·rw [zgw hjs] at hi
  split at hi
  ·rename_i c
   cases hi
   exact ⟨h,by simp,N,c.symm,λm hm=>up _ (h6 m hm)⟩
  ·obtain ⟨h',e1,n,e2,e3⟩:=o.pr j i hi
   refine ⟨h',?_,n,e2,λm hm=>up _ (e3 m hm)⟩
   rw [List.getElem?_append_left (qme e1).1];exact e1
 ·rw [qla,List.length_singleton] at hi
  by_cases c:i=hs.length
  ·exact ⟨(pn mask h N).j,by rw [zgw hjs,if_pos rfl,c]⟩
  ·obtain ⟨j,hj⟩:=o.all i (by omega)
   refine ⟨j,?_⟩
   rw [zgw hjs,if_neg (λ(e:j=(pn mask h N).j)=>h5 (by rw [<-e];exact ⟨i,hj⟩))];exact hj
 ·rw [zgw hjs] at q1 q2
  have lt:∀x,ow[x]? = some (some i)->i<hs.length:=λx hx=>let ⟨_,e,_⟩:=o.pr x i hx;(qme e).1
  split at q1
  ·rename_i c1
   split at q2
   ·rename_i c2;rw [c1,c2]
   ·cases q1;have:=lt _ q2;omega
  ·split at q2
   ·cases q2;have:=lt _ q1;omega
   ·exact o.inj j j' i q1 q2
noncomputable def zia (mask:Nat) (acc:Option (Array (Option Nat) × Nat)) (h:Int):Option (Array (Option Nat) × Nat):=do
 let (owner,k) <-acc
 let j <-layClean.free mask owner (turns mask) (bits h % (mask+1)) (bits h)
 pure (owner.setIfInBounds j (some k),k+1)
theorem zub (mask:Nat) (hashes:Array Int):layClean mask hashes=(hashes.toList.foldl (zia mask) (some (Array.replicate (mask+1) none,0))).map (·.1):=by
 unfold layClean
 rw [<-Array.foldl_toList]
 rfl
theorem znx {mask k:Nat}(hk:mask+1=2 ^ k):∀(rest done:List Int) (ow:Array (Option Nat)),Own mask ow done->done.length+rest.length<mask+1 ->
  ∃ow',rest.foldl (zia mask) (some (ow,done.length))=some (ow',done.length+rest.length)/\Own mask ow' (done++rest)
 | [],done,ow,o,_=>⟨ow,rfl,by rw [List.append_nil];exact o⟩
 | h :: rest,done,ow,o,hl=>by
  rw [List.length_cons] at hl
  obtain ⟨j,hj,o'⟩:=o.step hk h (by omega)
  have e:zia mask (some (ow,done.length)) h=some (ow.setIfInBounds j (some done.length),(done++[h]).length):=by
   unfold zia
   simp only [Option.bind_eq_bind,Option.bind_some,hj]
   simp
  obtain ⟨ow',h1,h2⟩:=znx hk rest (done++[h]) _ o' (by simp;omega)
  refine ⟨ow',?_,by simpa using h2⟩
  rw [List.foldl_cons,e,h1]
  simp;omega
theorem zuc (mask:Nat):Own mask (Array.replicate (mask+1) none) []:=by
 have no:∀(j i:Nat),(Array.replicate (mask+1) (none:Option Nat))[j]?≠some (some i):=λj i h=>by
  rw [Array.getElem?_replicate] at h
  split at h <;> cases h
 exact ⟨by simp,λj i h=>absurd h (no j i),λi h=>absurd h (Nat.not_lt_zero _),λj j' i h _=>absurd h (no j i)⟩
theorem zud {mask k:Nat}(hk:mask+1=2 ^ k) (hashes:Array Int) (hl:hashes.size<mask+1):∃ow,layClean mask hashes=some ow/\Own mask ow hashes.toList:=by
 obtain ⟨ow,h1,h2⟩:=znx hk hashes.toList [] _ (zuc mask) (by simpa using hl)
 refine ⟨ow,?_,by simpa using h2⟩
 rw [zub]
 have h1:List.foldl (zia mask) (some (Array.replicate (mask+1) none,0)) hashes.toList=_:=h1
 rw [h1];rfl
noncomputable def lv (mask:Nat) (ow:Array (Option Nat)):List (Nat × Nat):=(List.range (mask+1)).filterMap λj=>(ow.getD j none).map (j,·)
theorem zue {mask:Nat}{ow:Array (Option Nat)}{hs:List Int}(o:Own mask ow hs) (p:Nat × Nat):p∈lv mask ow↔ow[p.1]? = some (some p.2):=by
 unfold lv
 rw [List.mem_filterMap]
 constructor
 ·rintro ⟨j,hj,e⟩
  have hj:=List.mem_range.mp hj
  have hjs:j<ow.size:=by rw [o.size];exact hj
  have e2:ow.getD j none=ow[j]:=by simp [Array.getD,hjs]
  rw [e2] at e
  cases c:ow[j] with
  | none=>rw [c] at e;cases e
  | some i =>
   rw [c] at e
   cases e
   show ow[j]? = some (some i)
   rw [Array.getElem?_eq_getElem hjs,c]
 ·intro h
  obtain ⟨hjs,e⟩:=Array.getElem?_eq_some_iff.mp h
  refine ⟨p.1,List.mem_range.mpr (by rw [<-o.size];exact hjs),?_⟩
  have e2:ow.getD p.1 none=ow[p.1]:=by simp [Array.getD,hjs]
  rw [e2,e];rfl
theorem zny {f:Nat->Option (Nat × Nat)}(hf:∀j p,f j=some p->p.1=j):∀(n s:Nat),((List.range' s n).filterMap f).Pairwise (λp q=>p.1<q.1)/\∀p∈(List.range' s n).filterMap f,s<=p.1
 | 0,s=>⟨.nil,λp hp=>by simp at hp⟩
 | n+1,s=>by
  obtain ⟨h1,h2⟩:=zny hf n (s+1)
  rw [List.range'_succ]
  cases e:f s with
  | none=>rw [List.filterMap_cons_none e];exact ⟨h1,λp hp=>by have:=h2 p hp;omega⟩
  | some q =>
   rw [List.filterMap_cons_some e]
   have hq:=hf s q e
   refine ⟨List.pairwise_cons.mpr ⟨λp hp=>by have:=h2 p hp;omega,h1⟩,λp hp=>?_⟩
   rcases List.mem_cons.mp hp with rfl|hp
   ·omega
   ·have:=h2 p hp;omega
theorem zuf (mask:Nat) (ow:Array (Option Nat)):(lv mask ow).Pairwise λp q=>p.1<q.1:=by
 unfold lv
 rw [List.range_eq_range']
 refine (zny (λj p e=>?_) _ _).1
 cases c:ow.getD j none with
 | none=>rw [c] at e;cases e
 | some i=>rw [c] at e;cases e;rfl
theorem zug:∀(l:List (Nat × Nat)) (n:Nat),(∀(a b:Nat) p q,l[a]? = some p->l[b]? = some q->p.2=q.2->a=b)->(∀p∈l,p.2<n)->(∀i,i<n->∃p∈l,p.2=i)->l.length=n:=by
 intro l n inj lt all
 rcases Nat.lt_trichotomy l.length n with h|h|h
 ·exfalso
  have key:∀i,i<n->∃a:Nat,∃p,l[a]? = some p/\p.2=i:=λi hi=>by
   obtain ⟨p,hp,e⟩:=all i hi
   obtain ⟨a,ha⟩:=List.mem_iff_getElem?.mp hp
   exact ⟨a,p,ha,e⟩
  obtain ⟨f,hf⟩:∃f:Nat->Nat,∀i,i<n->∃p,l[f i]? = some p/\p.2=i:=⟨λi=>if hi:i<n then (key i hi).choose else 0,λi hi=>by dsimp only;rw [dif_pos hi];exact (key i hi).choose_spec⟩
  refine pigeon l.length (λi=>some (f i)) (λi hi=>⟨f i,rfl,?_⟩) λi j a l1 l2 e1 e2=>?_
  ·obtain ⟨p,hp,_⟩:=hf i (by omega)
   exact (qme hp).1
  ·obtain ⟨p,hp,hpi⟩:=hf i (by omega)
   obtain ⟨q,hq,hqj⟩:=hf j (by omega)
   cases e1
   rw [qoi e2,hp] at hq
   cases hq
   omega
 ·exact h
 ·exfalso
  refine pigeon n (λa=>(l[a]?).map (·.2)) (λa ha=>?_) λa b i l1 l2 e1 e2=>?_
  ·have:a<l.length:=by omega
   exact ⟨l[a].2,by rw [qge this];rfl,lt _ (qem this)⟩
  ·have h1:a<l.length:=by omega
   have h2:b<l.length:=by omega
   rw [qge h1] at e1
   rw [qge h2] at e2
   exact inj a b l[a] l[b] (qge h1) (qge h2) ((qoi e1).trans (qoi e2).symm)
theorem zuh {t:SetTable}{es:Array (Int × Value)}(hz:0<es.size) (hs:es.size<=1000) :
  ∃t' order es',t.relaid (es.map (·.1)) (grown es.size)=some (t',order)/\order.filterMap (es[·]?)=es'/\es'.size=es.size/\TOk t' es'/\∀e,e∈es'.toList↔e∈es.toList:=by
 have hg:grown es.size=es.size*4:=by unfold grown;rw [if_neg (by omega)]
 obtain ⟨k,hk3,hsa,hlt,hle⟩:=znw (n:=es.size*4) (by omega)
 unfold relaid
 rw [hg,hsa]
 generalize hm:2 ^ k-1=mask
 have hk:mask+1=2 ^ k:=by omega
 obtain ⟨ow,hl,o⟩:=zud hk (es.map (·.1)) (by rw [Array.size_map];omega)
 unfold laid
 rw [hl]
 have hlen:(es.map (·.1)).toList.length=es.size:=by simp
 have mem:=zue o
 have srt:=zuf mask ow
 have e2lt:∀p∈lv mask ow,p.2<es.size:=λp hp=>by
  obtain ⟨h,e,_⟩:=o.pr p.1 p.2 ((mem p).mp hp)
  rw [<-hlen];exact (qme e).1
 have inj2:∀(a b:Nat) p q,(lv mask ow)[a]? = some p->(lv mask ow)[b]? = some q->p.2=q.2->a=b:=λa b p q ha hb e=>by
  have m1:=(mem p).mp (qmg ha)
  have m2:=(mem q).mp (qmg hb)
  rw [e] at m1
  have e1:=o.inj _ _ _ m1 m2
  rcases Nat.lt_trichotomy a b with h|h|h
  ·have:=(List.pairwise_iff_getElem.mp srt) a b (qme ha).1 (qme hb).1 h
   rw [(qme ha).2,(qme hb).2] at this
   omega
  ·exact h
  ·have:=(List.pairwise_iff_getElem.mp srt) b a (qme hb).1 (qme ha).1 h
   rw [(qme ha).2,(qme hb).2] at this
   omega
 have len:(lv mask ow).length=es.size:=zug _ _ inj2 e2lt λi hi=>by
  obtain ⟨j,hj⟩:=o.all i (by rw [hlen];exact hi)
  exact ⟨(j,i),(mem (j,i)).mpr hj,rfl⟩
 have fm:∀l:List (Nat × Nat),(∀p∈l,p.2<es.size)->(l.map (·.2)).filterMap (es[·]?)=l.map λp=>es.getD p.2 (0,.none):=by
  intro l
  induction l with
  | nil=>intro _;rfl
  | cons p l ih =>
   intro h
   have hp:=h p (.head _)
   rw [List.map_cons,List.filterMap_cons_some (b:=es[p.2]) (Array.getElem?_eq_getElem hp),ih (λq hq=>h q (.tail _ hq)),List.map_cons]
   congr 1
   simp [Array.getD,hp]
 refine ⟨_,_,_,rfl,rfl,?_⟩
 show (Array.filterMap (es[·]?) ((lv mask ow).map (·.2)).toArray).size=es.size/\TOk { mask:=mask,place:=((lv mask ow).map (·.1)).toArray,dummies:=#[],finger:=t.finger,led:=t.led,moves:=t.movedTo mask,plain:=t.plain } (Array.filterMap (es[·]?) ((lv mask ow).map (·.2)).toArray)/\_
 have efm:Array.filterMap (es[·]?) ((lv mask ow).map (·.2)).toArray=((lv mask ow).map λp=>es.getD p.2 (0,.none)).toArray:=by
  apply Array.toList_inj.mp
  rw [Array.toList_filterMap]
  exact fm _ e2lt
 have inn:∀j,In { mask:=mask,place:=((lv mask ow).map (·.1)).toArray,dummies:=#[],finger:=t.finger,led:=t.led,moves:=t.movedTo mask,plain:=t.plain } j↔Occ ow j:=λj=>by
  constructor
  ·rintro ⟨i,hi⟩
   have hi:(((lv mask ow).map (·.1)).toArray)[i]? = some j:=hi
   rw [List.getElem?_toArray,qgm] at hi
   cases c:(lv mask ow)[i]? with
   | none=>rw [c] at hi;cases hi
   | some p =>
    rw [c] at hi
    have hi:p.1=j:=qoi hi
    subst hi
    exact ⟨p.2,(mem p).mp (qmg c)⟩
  ·rintro ⟨i,hi⟩
   obtain ⟨a,ha⟩:=List.mem_iff_getElem?.mp ((mem (j,i)).mpr hi)
   refine ⟨a,?_⟩
   show (((lv mask ow).map (·.1)).toArray)[a]? = some j
   rw [List.getElem?_toArray,qgm,ha];rfl
 rw [efm]
 refine ⟨by simp [len],⟨rfl,by simp,⟨k,hk,hk3⟩,λi j hij hj=>?_,λj hj=>?_,?_,by show mask<8192;omega,λi h v hi=>?_⟩,λe=>?_⟩
 ·have hj:j<(lv mask ow).length:=by simpa using hj
  show (((lv mask ow).map (·.1)).toArray).getD i 0<(((lv mask ow).map (·.1)).toArray).getD j 0
  have h1:i<(lv mask ow).length:=by omega
  have:=(List.pairwise_iff_getElem.mp srt) i j h1 hj hij
  simpa [Array.getD,h1,hj] using this
 ·obtain ⟨i,hi⟩:=(inn j).mp hj
  have:=(Array.getElem?_eq_some_iff.mp hi).1
  rw [o.size] at this
  show j<=mask
  omega
 ·show (((lv mask ow).map λp=>es.getD p.2 (0,.none)).toArray).size*5<mask*3
  simp [len];omega
 ·have hi:(((lv mask ow).map λp=>es.getD p.2 (0,.none)).toArray)[i]? = some (h,v):=hi
  rw [List.getElem?_toArray,qgm] at hi
  cases c:(lv mask ow)[i]? with
  | none=>rw [c] at hi;cases hi
  | some p =>
   rw [c] at hi
   have hi:es.getD p.2 (0,.none)=(h,v):=qoi hi
   have hp:=qmg c
   have hps:=e2lt p hp
   obtain ⟨h',e1,n,e3,e4⟩:=o.pr p.1 p.2 ((mem p).mp hp)
   have eh:h' = h:=by
    rw [Array.toList_map,qgm,Array.getElem?_toList,Array.getElem?_eq_getElem hps] at e1
    have e1:es[p.2].1=h':=qoi e1
    rw [<-e1]
    have:es.getD p.2 (0,.none)=es[p.2]:=by simp [Array.getD,hps]
    rw [<-this,hi]
   subst eh
   refine ⟨n,?_,λm hm=>(inn _).mpr (e4 m hm)⟩
   show (((lv mask ow).map (·.1)).toArray)[i]? = some _
   rw [List.getElem?_toArray,qgm,c,e3];rfl
 ·show e∈(Array.filterMap (es[·]?) ((lv mask ow).map (·.2)).toArray).toList↔_
  rw [efm]
  show e∈(lv mask ow).map (λp=>es.getD p.2 (0,.none))↔_
  rw [List.mem_map]
  constructor
  ·rintro ⟨p,hp,rfl⟩
   have hps:=e2lt p hp
   have:es.getD p.2 (0,.none)=es[p.2]:=by simp [Array.getD,hps]
   rw [this]
   exact Array.mem_toList_iff.mpr (Array.getElem_mem hps)
  ·intro he
   obtain ⟨i,hi,rfl⟩:=List.mem_iff_getElem.mp he
   rw [Array.length_toList] at hi
   obtain ⟨j,hj⟩:=o.all i (by rw [hlen];exact hi)
   refine ⟨(j,i),(mem (j,i)).mpr hj,?_⟩
   simp [Array.getD,hi]
theorem znz {t:SetTable}{es:Array (Int × Value)}(k:TOk t es) {h:Int}{N m:Nat}(hN:¬In t (pn t.mask h N).j) (hl:∀m,m<N->In t (pn t.mask h m).j) (hb:N<10*(t.mask+14)) (hm:m<=N) {ha:Nat->Int}{p:Probe}{r:Option Met}
  (hq:t.probe ha h p=r) (hp:p=pn t.mask h m) :
   (∃m' i,m<=m'/\m' < N/\t.place[i]? = some (pn t.mask h m').j/\ha i=h/\(∀m'' i',m<=m''->m'' < m'->t.place[i']? = some (pn t.mask h m'').j->ha i'≠h)/\r=some (.candidate (pn t.mask h m').j i (pn t.mask h (m' + 1)))) \/
   ((∀m'' i',m<=m''->m'' < N->t.place[i']? = some (pn t.mask h m'').j->ha i'≠h)/\r=some (.empty (pn t.mask h N).j none)):=by
 subst hq hp
 exact zt4 k h hN hl ha _ m hm (by unfold turns;omega)
noncomputable def za2 (ks:List Int):Int:=reduceHash (Builtin.Tuple.tupleHashOf (ks.map hashInt))
section
variable {prog:Program}{w:World}{A:Around}{E:Value->Shared->Prop}{s:Shared}
abbrev IsK (prog:Program) (w:World) (h:Heap) (ks:List Int) (b:Addr):Prop:=IsTupleKey (intKind prog w) h ks b
theorem items_int {ks:List Int}{vs:List Value}(h:ItemsAre (intKind prog w) ks vs):∀v∈vs,∃i t,v=.int i t:=by
 induction h with
 | nil=>intro v hv;simp at hv
 | cons h1 _ ih =>
  intro v hv
  rcases List.mem_cons.mp hv with rfl|hv
  ·obtain ⟨t,rfl⟩:=Value.isInt_shape h1
   exact ⟨_,t,rfl⟩
  ·exact ih v hv
theorem zn0 {ks:List Int}{b:Addr}{Q:Bool->Shared->Prop}(hk:IsK prog w s.heap ks b) (h:Q false s):wpAny (model prog w) A (ofAClassStatement 8 (.ref b)) Q E s:=by
 have hT:=hk.typeIs
 obtain ⟨o,items,n,ho,hc,hd,hi⟩:=hk
 unfold ofAClassStatement
 refine qwb (wpAny_typeOf hT ?_)
 dsimp only
 rw [if_pos (by decide)]
 refine qwb (qwp ?_)
 simp only [Bool.not_true,qbf,if_false]
 refine qwb (wpAny_seqItems ho hd ?_)
 dsimp only
 refine qwb ?_
 rw [<-Array.forIn_toList]
 refine wpAny_forIn_list _ (λrest r s'=>r.1=none/\s' = s/\∀v∈rest,∃i t,v=.int i t) _ ?_ ?_ _ _ ⟨rfl,rfl,items_int hi⟩
 ·rintro v rest r s' ⟨hr,rfl,hall⟩
  obtain ⟨i,t,rfl⟩:=hall v List.mem_cons_self
  unfold ofAClassStatement
  refine qwb (qwp ?_)
  simp only [qbf,if_false]
  exact qwp ⟨rfl,rfl,λu hu'=>hall u (List.mem_cons_of_mem _ hu')⟩
 ·rintro ⟨r1,r2⟩ s' ⟨hr,rfl,_⟩
  simp only at hr
  subst hr
  exact qwp h
theorem zui {ks:List Int}{b:Addr}{Q:Bool->Shared->Prop}(hk:IsK prog w s.heap ks b) (h:Q true s):wpAny (model prog w) A (hashByValue 8 (.ref b)) Q E s:=by
 have hT:=hk.typeIs
 obtain ⟨o,items,n,ho,hc,hd,hi⟩:=hk
 unfold hashByValue
 refine qwb (wpAny_specialOf hT F.slot_tuple_hash.lookup ?_)
 dsimp only
 refine qwb (wpAny_seqItems ho hd ?_)
 refine qwb ?_
 show wpAny _ _ (forIn items _ _) _ _ s
 rw [<-Array.forIn_toList]
 refine wpAny_forIn_list _ (λrest r s'=>r.1=none/\s' = s/\∀v∈rest,∃i t,v=.int i t) _ ?_ ?_ _ _ ⟨rfl,rfl,items_int hi⟩
 ·rintro v rest r s' ⟨hr,rfl,hall⟩
  obtain ⟨i,t,rfl⟩:=hall v List.mem_cons_self
  unfold hashByValue
  refine qwb (qwp ?_)
  simp only [Bool.not_true,qbf,if_false]
  exact qwp ⟨rfl,rfl,λu hu'=>hall u (List.mem_cons_of_mem _ hu')⟩
 ·rintro ⟨r1,r2⟩ s' ⟨hr,rfl,_⟩
  simp only at hr
  subst hr
  exact qwp h
theorem zuj {ks:List Int}{x:Addr}{stored:List Value}{Q:Bool->Shared->Prop}(hk:IsK prog w s.heap ks x) (hs:∀v∈stored,∃k b,v=.ref b/\IsK prog w s.heap k b) (h:Q false s) :
  wpAny (model prog w) A (searchCouldBeSeen (.ref x) stored) Q E s:=by
 unfold searchCouldBeSeen
 refine qwb ?_
 refine wpAny_forIn_list _ (λrest r s'=>r.1=none/\s' = s/\∀v∈rest,∃k b,v=.ref b/\IsK prog w s.heap k b) _ ?_ ?_ _ _ ⟨rfl,rfl,hs⟩
 ·rintro v rest r s' ⟨hr,rfl,hall⟩
  obtain ⟨k',b,rfl,hb⟩:=hall v List.mem_cons_self
  have nx:∀u∈rest,∃k b,u=.ref b/\IsK prog w s'.heap k b:=λu hu'=>hall u (List.mem_cons_of_mem _ hu')
  dsimp only
  split
  ·exact qwp ⟨rfl,rfl,nx⟩
  ·refine qwb (wpAny_eqIsQuiet_tuple hk ?_)
   simp only [Bool.not_true,qbf,if_false]
   refine qwb (wpAny_eqIsQuiet_tuple hb ?_)
   simp only [Bool.not_true,qbf,if_false]
   refine qwb (zn0 hk ?_)
   simp only [qbf,if_false]
   refine qwb (zn0 hb ?_)
   simp only [qbf,if_false]
   exact qwp ⟨rfl,rfl,nx⟩
 ·rintro ⟨r1,r2⟩ s' ⟨hr,rfl,_⟩
  simp only at hr
  subst hr
  exact qwp h
structure Els (es:Array (Int × Value)) (xs:List (List Int × Addr)):Prop where
 sub:∀e∈es.toList,∃p∈xs,e=(za2 p.1,.ref p.2)
 sup:∀p∈xs,(za2 p.1,Value.ref p.2)∈es.toList
 len:es.size=xs.length
theorem zn1 {a x:Addr}{k:List Int}{xs:List (List Int × Addr)}{o:Obj}{es:Array (Int × Value)}{ep:Nat}{t:SetTable}{adding:Bool}{Q:SetFound->Shared->Prop}(hu:A.units<cLine)
  (ho:s.heap.get? a=some o) (hd:o.data=.set es ep t) (ok:TOk t es) (el:Els es xs) (hxs:∀p∈xs,IsK prog w s.heap p.1 p.2) (hkey:IsK prog w s.heap k x) {N:Nat} (hN:¬In t (pn t.mask (za2 k) N).j) (hl:∀m,m<N->In t (pn t.mask (za2 k) m).j) (hb:N<10*(t.mask+14))
  (yes:(∃p∈xs,p.1=k)->∀r,(adding=false->r.isSome=true)->Q (.there r) s) (no:(∀p∈xs,p.1≠k)->Q (.free (pn t.mask (za2 k) N).j false) s) :
  ∀(fuel m:Nat) (stand:Option Probe),N-m<fuel->m<=N->stand.getD (t.probeStart (za2 k))=pn t.mask (za2 k) m ->
   (∀(m' i:Nat) (p:List Int × Addr),p∈xs->m' < m->t.place[i]? = some (pn t.mask (za2 k) m').j->es[i]? = some (za2 p.1,.ref p.2)->p.1≠k) ->
   wpAny (model prog w) A (setSearchFrom a (.ref x) (za2 k) adding fuel stand) Q E s:=by
 intro fuel
 induction fuel with
 | zero=>intro m stand h1;omega
 | succ fuel ih =>
  intro m stand h1 h2 h3 h4
  unfold setSearchFrom
  refine qwb (wpAny_setState_of ho hd ok.fits ?_)
  dsimp only
  rw [ok.gave]
  simp only [qbf,if_false]
  have at_i:∀i j,t.place[i]? = some j->∃p∈xs,es[i]? = some (za2 p.1,Value.ref p.2):=λi j hi=>by
   have hs:i<es.size:=by rw [<-ok.sz];exact (zh7 hi 0).1
   have hm:es[i]∈es.toList:=Array.mem_toList_iff.mpr (Array.getElem_mem hs)
   obtain ⟨p,hp,e⟩:=el.sub _ hm
   exact ⟨p,hp,by rw [Array.getElem?_eq_getElem hs,e]⟩
  split
  ·rename_i met hq
   rcases znz ok hN hl hb h2 hq h3 with ⟨m',i,q1,q2,q3,q4,q5,q6⟩|⟨q1,q2⟩
   ·cases q6
    dsimp only
    obtain ⟨p,hp,hei⟩:=at_i i _ q3
    have seen:wpAny (model prog w) A (searchCouldBeSeen (.ref x) ((es.filter (·.1 == za2 k)).toList.map (·.2))) (λb s'=>b=false/\s' = s) E s:=by
     refine zuj hkey (λv hv=>?_) ⟨rfl,rfl⟩
     obtain ⟨e,he,rfl⟩:=List.mem_map.mp hv
     have he:e∈es.toList:=by
      rw [Array.toList_filter] at he
      exact (List.mem_filter.mp he).1
     obtain ⟨p,hp,rfl⟩:=el.sub _ he
     exact ⟨p.1,p.2,rfl,hxs p hp⟩
    have sameMem:t.sameMemory t.moves t.mask=some true:=by simp [sameMemory]
    have next:p.1≠k->∀(m'' i':Nat) (p':List Int × Addr),p'∈xs->m'' < m' + 1->t.place[i']? = some (pn t.mask (za2 k) m'').j->es[i']? = some (za2 p'.1,.ref p'.2)->p'.1≠k:=λhne m'' i' p' hp' l1 l2 l3 e=>by
     rcases Nat.lt_or_ge m'' m with c|c
     ·exact h4 m'' i' p' hp' c l2 l3 e
     ·by_cases c2:m'' = m'
      ·subst c2
       have e1:=zh8 ok.ris q3
       have e2:=zh8 ok.ris l2
       rw [e1] at e2
       subst e2
       rw [hei] at l3
       have e3:=qoi l3
       injection e3 with e4 e5
       injection e5 with e5
       have i1:=hxs p hp
       have i2:=hxs p' hp'
       rw [<-e5] at i2
       exact hne ((i1.inj i2).trans e)
      ·refine q5 m'' i' c (by omega) l2 ?_
       show ((es[i']?).map (·.1)).getD 0=_
       rw [l3,e];rfl
    rw [hei]
    dsimp only
    split
    ·refine qwb (wpAny_mono seen (λb s' e=>?_) λ_ _ z=>z)
     obtain ⟨rfl,rfl⟩:=e
     simp only [qbf,if_false]
     refine qwb (wpAny_holding (wpAny_eqBool_tuple hu (hxs p hp) hkey ?_))
     refine qwb (wpAny_setState_of ho hd ok.fits ?_)
     dsimp only
     by_cases hkk:p.1=k
     ·rw [decide_eq_true hkk]
      cases adding with
      | true=>exact qwp (yes ⟨p,hp,hkk⟩ none (λz=>by cases z))
      | false =>
       simp only [Bool.false_and,qbf,if_false]
       rw [sameMem]
       dsimp only
       rw [if_pos rfl,zh9 ok.ris q3]
       dsimp only
       rw [hei]
       dsimp only
       refine qwb ?_
       unfold isSame
       simp only [beq_self_eq_true,if_true]
       refine qwp (qwb (qwp ?_))
       simp only [if_true]
       exact qwp (yes ⟨p,hp,hkk⟩ (some i) λ_=>rfl)
     ·rw [decide_eq_false hkk]
      simp only [Bool.and_false,qbf,if_false]
      rw [sameMem]
      dsimp only
      rw [if_pos rfl,zh9 ok.ris q3]
      dsimp only
      rw [hei]
      dsimp only
      refine qwb ?_
      unfold isSame
      simp only [beq_self_eq_true,if_true]
      refine qwp (qwb (qwp ?_))
      simp only [if_true]
      exact ih (m' + 1) _ (by omega) (by omega) rfl (next hkk)
    ·refine qwb (wpAny_holding (wpAny_eqBool_tuple hu (hxs p hp) hkey ?_))
     refine qwb (wpAny_setState_of ho hd ok.fits ?_)
     dsimp only
     by_cases hkk:p.1=k
     ·rw [decide_eq_true hkk]
      cases adding with
      | true=>exact qwp (yes ⟨p,hp,hkk⟩ none (λz=>by cases z))
      | false =>
       simp only [Bool.false_and,qbf,if_false]
       rw [sameMem]
       dsimp only
       rw [if_pos rfl,zh9 ok.ris q3]
       dsimp only
       rw [hei]
       dsimp only
       refine qwb ?_
       unfold isSame
       simp only [beq_self_eq_true,if_true]
       refine qwp (qwb (qwp ?_))
       simp only [if_true]
       exact qwp (yes ⟨p,hp,hkk⟩ (some i) λ_=>rfl)
     ·rw [decide_eq_false hkk]
      simp only [Bool.and_false,qbf,if_false]
      rw [sameMem]
      dsimp only
      rw [if_pos rfl,zh9 ok.ris q3]
      dsimp only
      rw [hei]
      dsimp only
      refine qwb ?_
      unfold isSame
      simp only [beq_self_eq_true,if_true]
      refine qwp (qwb (qwp ?_))
      simp only [if_true]
      exact ih (m' + 1) _ (by omega) (by omega) rfl (next hkk)
   ·cases q2
    dsimp only
    refine qwp (no λp hp e=>?_)
    obtain ⟨i,hi,hie⟩:=List.mem_iff_getElem.mp (el.sup p hp)
    rw [Array.length_toList] at hi
    have hei:es[i]? = some (za2 p.1,.ref p.2):=by rw [Array.getElem?_eq_getElem hi,<-hie];simp
    obtain ⟨n,e1,e2⟩:=ok.pr i _ _ hei
    rw [e] at e1 e2
    have hn:n<N:=by
     rcases Nat.lt_trichotomy n N with c|c|c
     ·exact c
     ·subst c;exact absurd ⟨i,e1⟩ hN
     ·exact absurd (e2 N c) hN
    rcases Nat.lt_or_ge n m with c|c
    ·exact h4 n i p hp c e1 hei e
    ·refine q1 n i c hn e1 ?_
     show ((es[i]?).map (·.1)).getD 0=_
     rw [hei,e];rfl
  ·rename_i hq
   exfalso
   rcases znz ok hN hl hb h2 rfl h3 with ⟨m',i,q1,q2,q3,q4,q5,q6⟩|⟨q1,q2⟩
   ·exact hq _ q6
   ·exact hq _ q2
end
def zuk (o:Obj) (xs:List (List Int × Addr)):Prop:=o.ExactSet/\∃es ep t,o.data=.set es ep t/\TOk t es/\Els es xs
def TSet (a:Addr) (xs:List (List Int × Addr)) (h:Heap):Prop:=∃o,h.get? a=some o/\zuk o xs
section
variable {prog:Program}{w:World}{A:Around}{E:Value->Shared->Prop}{s:Shared}{a x:Addr}{k:List Int}{xs:List (List Int × Addr)}
theorem TSet.typeIs (h:TSet a xs s.heap):s.TypeIs (.ref a) "set":=let ⟨o,ho,hc,_⟩:=h;⟨o,ho,hc.1⟩
theorem TSet.noDict (h:TSet a xs s.heap):∀b,Value.ref a=.ref b->∃ob,s.heap.get? b=some ob/\ob.dict=none:=λb e=>by
 injection e with e;subst e;exact let ⟨o,ho,hc,_⟩:=h;⟨o,ho,hc.2.1⟩
theorem zn2 (x:Addr) (es:Array (Int × Value)):byScan (.ref x) es=false:=by simp [byScan,Value.scannable]
theorem setFind_t {Q:Option Nat->Shared->Prop}(hu:A.units<cLine) (hT:TSet a xs s.heap) (hxs:∀p∈xs,IsK prog w s.heap p.1 p.2) (hkey:IsK prog w s.heap k x)
  (h:∀r:Option Nat,r.isSome=decide (k∈xs.map (·.1))->Q r s):wpAny (model prog w) A (setFind a (.ref x) (za2 k)) Q E s:=by
 obtain ⟨o,ho,hex,es,ep,t,hd,ok,el⟩:=hT
 obtain ⟨N,hb,hN,hl⟩:=ok.empty (za2 k)
 unfold setFind setFindIn
 refine qwb (wpAny_setState_of ho hd ok.fits ?_)
 dsimp only
 rw [zn2]
 simp only [qbf,if_false]
 refine qwb ?_
 unfold setSearch
 have hm:=ok.sm
 refine zn1 hu ho hd ok el hxs hkey hN hl hb (λhy r hr=>?_) (λhn=>?_) 100000 0 none (by omega) (Nat.zero_le _) rfl (λm' i p _ hm'=>by omega)
 ·obtain ⟨p,hp,e⟩:=hy
  exact qwp (h r (by rw [hr rfl,decide_eq_true (List.mem_map.mpr ⟨p,hp,e⟩)]))
 ·refine qwp (h none ?_)
  rw [decide_eq_false λz=>?_]
  ·rfl
  ·obtain ⟨p,hp,e⟩:=List.mem_map.mp z;exact hn p hp e
theorem zul {es:Array (Int × Value)}{p:Nat}(el:Els es xs):Els (insertAt es p (za2 k,.ref x)) (xs++[(k,x)]):=by
 have pm:=insertAt_perm es p (za2 k,Value.ref x)
 rw [Array.toList_push] at pm
 refine ⟨λe he=>?_,λq hq=>?_,?_⟩
 ·rcases List.mem_append.mp (pm.mem_iff.mp he) with he|he
  ·obtain ⟨q,hq,e1⟩:=el.sub e he;exact ⟨q,List.mem_append_left _ hq,e1⟩
  ·rw [List.mem_singleton] at he;subst he;exact ⟨(k,x),by simp,rfl⟩
 ·refine pm.mem_iff.mpr ?_
  rcases List.mem_append.mp hq with hq|hq
  ·exact List.mem_append_left _ (el.sup q hq)
  ·rw [List.mem_singleton] at hq;subst hq;simp
 ·rw [zei,el.len];simp
theorem setAdd_t {Q:Bool->Shared->Prop}(hu:A.units<cLine) (hT:TSet a xs s.heap) (hxs:∀p∈xs,IsK prog w s.heap p.1 p.2) (hkey:IsK prog w s.heap k x) (hz:xs.length<1000)
  (old:k∈xs.map (·.1)->Q false s) (new:k ∉ xs.map (·.1)->∀h',Heap.SameBut a s.heap h'->TSet a (xs++[(k,x)]) h'->Q true { s with heap:=h' }):wpAny (model prog w) A (setAddHashed a (.ref x) (za2 k)) Q E s:=by
 obtain ⟨o,ho,hex,es,ep,t,hd,ok,el⟩:=hT
 obtain ⟨N,hb,hN,hl⟩:=ok.empty (za2 k)
 have hm:=ok.sm
 unfold setAddHashed setAddHashedIn
 refine wpAny_holding (qwb (wpAny_setState_of ho hd ok.fits ?_))
 dsimp only
 rw [zn2]
 simp only [qbf,if_false]
 refine qwb ?_
 unfold setSearch
 refine zn1 hu ho hd ok el hxs hkey hN hl hb (λhy r hr=>?_) (λhn=>?_) 100000 0 none (by omega) (Nat.zero_le _) rfl (λm' i p _ hm'=>by omega)
 ·obtain ⟨p,hp,e⟩:=hy
  exact qwp (old (List.mem_map.mpr ⟨p,hp,e⟩))
 ·dsimp only
  have hnew:=new λz=>by obtain ⟨p,hp,e⟩:=List.mem_map.mp z;exact hn p hp e
  refine qwb (wpAny_setState_of ho hd ok.fits ?_)
  have els:=zul (k:=k) (x:=x) (p:=(t.put (pn t.mask (za2 k) N).j).2) el
  have hm1:(t.put (pn t.mask (za2 k) N).j).1.mask=t.mask:=rfl
  have hf1:(t.put (pn t.mask (za2 k) N).j).1.fill=es.size+1:=by rw [zlb ok.dm];show (insertAt t.place _ _).size+t.dummies.size=_;rw [zei,ok.dm,ok.sz];rfl
  have hp1:(t.put (pn t.mask (za2 k) N).j).1.place.size=es.size+1:=by rw [zlb ok.dm];show (insertAt t.place _ _).size=_;rw [zei,ok.sz]
  have hsz:(insertAt es (t.put (pn t.mask (za2 k) N).j).2 (za2 k,Value.ref x)).size=es.size+1:=zei
  have put:=λq=>ok.put (x:=.ref x) hN hl q
  generalize t.put (pn t.mask (za2 k) N).j=tp at *
  obtain ⟨t1,p⟩:=tp
  dsimp only at *
  have step:∀b:Bool,wpAny (model prog w) A (do
    storeSet a (insertAt es p (za2 k,Value.ref x)) (if b=true then t1 else { t1 with plain:=false })
    if (if b=true then t1 else { t1 with plain:=false }).tooFull=true then do
     setRelay a (grown (es.size+1))
     pure true
    else pure true) Q E s:=by
   intro b
   generalize ht2:(if b=true then t1 else { t1 with plain:=false })=t2
   have hm2:t2.mask=t.mask:=by rw [<-ht2];split <;> exact hm1
   have hp2:t2.place.size=es.size+1:=by rw [<-ht2];split <;> exact hp1
   have hf2:t2.fill=es.size+1:=by rw [<-ht2];split <;> exact hf1
   have put2:(es.size+1)*5<t.mask*3->TOk t2 (insertAt es p (za2 k,.ref x)):=λq=>by
    rw [<-ht2];split
    ·exact put q
    ·exact (put q).plain false
   refine qwb (wpAny_storeSet_of ho hd ?_ (by rw [hsz];have:=el.len;rw [sizeLine_eq];omega))
   have hg:(s.heap.update a (Obj.putSet (insertAt es p (za2 k,.ref x)) t2)).get? a=some { o with data:=.set (insertAt es p (za2 k,.ref x)) (ep+1) t2 }:=by
    have:=Heap.get?_update_self (Obj.putSet (insertAt es p (za2 k,.ref x)) t2) ho (by rw [putSet_of _ _ hd];rfl)
    rw [putSet_of _ _ hd] at this;exact this
   have hsb1:=Heap.SameBut.update s.heap a (Obj.putSet (insertAt es p (za2 k,.ref x)) t2)
   by_cases full:t2.tooFull=true
   ·rw [if_pos full]
    refine qwb ?_
    unfold setRelay
    have hsl:es.size=xs.length:=el.len
    obtain ⟨kk,s1,s2,s3,s4⟩:=znw (n:=grown (es.size+1)) (by unfold grown;rw [if_neg (by omega)];omega)
    have hfit:t2.fits (insertAt es p (za2 k,Value.ref x)).size=true:=by
     have hro:=ok.ro
     obtain ⟨n,e1,e2⟩:=ok.pw
     have:2 ^ 3<=2 ^ n:=Nat.pow_le_pow_right (by decide) e2
     unfold SetTable.fits
     rw [hf2,hm2,hp2,hsz]
     simp
     omega
    obtain ⟨t3,order,es3,r1,r2,r3,r4,r5⟩:=zuh (t:=t2) (es:=insertAt es p (za2 k,Value.ref x)) (by omega) (by omega)
    rw [hsz] at r1
    refine qwb (wpAny_setState_of (s:={ s with heap:=s.heap.update a (Obj.putSet (insertAt es p (za2 k,.ref x)) t2) }) hg rfl hfit ?_)
    dsimp only
    rw [if_neg (by rw [s2,sizeLine_eq];omega)]
    refine qwb ?_
    rw [r1]
    show wpAny _ _ (if ((order.filterMap ((insertAt es p (za2 k,Value.ref x))[·]?)).size != (insertAt es p (za2 k,Value.ref x)).size)=true then _ else _) _ _ _
    rw [r2,if_neg (by rw [r3];simp)]
    refine qwp ?_
    dsimp only
    refine wpAny_storeSet_of (s:={ s with heap:=s.heap.update a (Obj.putSet (insertAt es p (za2 k,.ref x)) t2) }) hg rfl ?_ (by rw [r3,hsz,sizeLine_eq];omega)
    have hg2:((s.heap.update a (Obj.putSet (insertAt es p (za2 k,.ref x)) t2)).update a (Obj.putSet es3 t3)).get? a=some { o with data:=.set es3 (ep+1+1) t3 }:=by
     have:=Heap.get?_update_self (Obj.putSet es3 t3) hg (by rw [putSet_of es3 t3 (o:={ o with data:=.set (insertAt es p (za2 k,.ref x)) (ep+1) t2 }) rfl];rfl)
     rw [putSet_of es3 t3 (o:={ o with data:=.set (insertAt es p (za2 k,.ref x)) (ep+1) t2 }) rfl] at this;exact this
    refine qwp (hnew _ (hsb1.trans (Heap.SameBut.update _ a _)) ⟨_,hg2,hex,_,_,_,rfl,r4,⟨λe he=>els.sub e ((r5 e).mp he),λq hq=>(r5 _).mpr (els.sup q hq),by rw [r3];exact els.len⟩⟩)
   ·rw [if_neg full]
    refine qwp (hnew _ hsb1 ⟨_,hg,hex,_,_,_,rfl,put2 ?_,els⟩)
    unfold SetTable.tooFull at full
    rw [hf2,hm2] at full
    simp at full
    exact full
  split
  ·refine qwb (zui hkey ?_)
   exact step true
  ·refine qwb (qwp ?_)
   exact step true
end
end TS
namespace BF
def lx:List Nat->List Nat->Prop
 | a :: u,b :: v=>a<b\/(a=b/\lx u v)
 | _,_=>False
def sl (u v:List Nat):Prop:=u.length<v.length\/(u.length=v.length/\lx u v)
def le (u v:List Nat):Prop:=sl u v\/u=v
theorem zn3:∀u,¬lx u u
 | [],h=>h
 | a :: u,h=>by rcases h with h|⟨_,h⟩;omega;exact zn3 u h
theorem zn4:∀{u v w},lx u v->lx v w->lx u w
 | [],_,_,h,_=>h.elim
 | _ :: _,[],_,h,_=>h.elim
 | _ :: _,_ :: _,[],_,h=>h.elim
 | a :: u,b :: v,c :: w,h,g=>by
  rcases h with h|⟨h,h'⟩ <;> rcases g with g|⟨g,g'⟩
  ·exact .inl (by omega)
  ·exact .inl (by omega)
  ·exact .inl (by omega)
  ·exact .inr ⟨by omega,zn4 h' g'⟩
theorem zld (u:List Nat):¬sl u u:=λh=>by
 rcases h with h|⟨_,h⟩
 ·omega
 ·exact zn3 u h
theorem zgx {u v w:List Nat}(h:sl u v) (g:sl v w):sl u w:=by
 rcases h with h|⟨h,h'⟩ <;> rcases g with g|⟨g,g'⟩
 ·exact .inl (by omega)
 ·exact .inl (by omega)
 ·exact .inl (by omega)
 ·exact .inr ⟨by omega,zn4 h' g'⟩
theorem zum {u v w:List Nat}(h:sl u v) (g:le v w):sl u w:=by
 rcases g with g|rfl
 ·exact zgx h g
 ·exact h
theorem le_trans {u v w:List Nat}(h:le u v) (g:le v w):le u w:=by
 rcases h with h|rfl
 ·exact .inl (zum h g)
 ·exact g
theorem zun {u v:List Nat}(h:le u v):u.length<=v.length:=by
 rcases h with (h|⟨h,_⟩)|rfl <;> omega
theorem zn5:∀{u v:List Nat}(c d:Nat),u.length=v.length->lx u v->lx (u++[c]) (v++[d])
 | [],_,_,_,_,h=>h.elim
 | _ :: _,[],_,_,_,h=>h.elim
 | a :: u,b :: v,c,d,hl,h=>by
  rcases h with h|⟨h,h'⟩
  ·exact .inl h
  ·exact .inr ⟨h,zn5 c d (by simpa using hl) h'⟩
theorem zle {u v:List Nat}(c d:Nat) (h:sl u v):sl (u++[c]) (v++[d]):=by
 rcases h with h|⟨h,h'⟩
 ·exact .inl (by simpa using h)
 ·exact .inr ⟨by simpa using h,zn5 c d h h'⟩
theorem zn6:∀(u:List Nat) {c d:Nat},c<d->lx (u++[c]) (u++[d])
 | [],_,_,h=>.inl h
 | _ :: u,_,_,h=>.inr ⟨rfl,zn6 u h⟩
theorem zjt (u:List Nat) {c d:Nat}(h:c<d):sl (u++[c]) (u++[d]):=.inr ⟨by simp,zn6 u h⟩
theorem zuo {u v:List Nat}(a:Nat) (h:le u v):le (u++[a]) (v++[a]):=by
 rcases h with h|rfl
 ·exact .inl (zle a a h)
 ·exact .inr rfl
abbrev P:=Nat × Nat
section
variable (A:Nat) (step:P->Nat->Option P) (fail:P->Nat->Bool)
noncomputable def walk:P->List Nat->Option P
 | p,[]=>some p
 | p,a :: w=>(step p a).bind λq=>walk q w
def Fails (p:P) (w:List Nat):Prop:=∃u b q,w=u++[b]/\b<A/\(∀a∈u,a<A)/\walk step p u=some q/\fail q b=true
def Least (p:P) (w:List Nat):Prop:=Fails A step fail p w/\∀v,Fails A step fail p v->¬sl v w
end
section
variable {A:Nat}{step:P->Nat->Option P}{fail:P->Nat->Bool}
theorem zju:∀(p:P) (u:List Nat) (a:Nat),walk step p (u++[a])=(walk step p u).bind λq=>step q a
 | p,[],a=>by show (step p a).bind _=step p a;cases step p a <;> rfl
 | p,b :: u,a=>by
  show (step p b).bind _=((step p b).bind _).bind _
  cases step p b with
  | none=>rfl
  | some q=>exact zju q u a
structure Bf (A:Nat) (step:P->Nat->Option P) (fail:P->Nat->Bool) (p0:P) (ps:List P) (ws:List (List Nat)) (i c:Nat):Prop where
 len:ws.length=ps.length
 z:ps[0]? = some p0/\ws[0]? = some []
 wk:∀(k:Nat) q w,ps[k]? = some q->ws[k]? = some w->walk step p0 w=some q/\∀a∈w,a<A
 inc:∀(k l:Nat) u v,k<l->ws[k]? = some u->ws[l]? = some v->sl u v
 cl:∀(k:Nat) q w a q',((k<i/\a<A)\/(k=i/\a<c))->ps[k]? = some q->ws[k]? = some w->step q a=some q'->∃(l:Nat) (u:List Nat),ps[l]? = some q'/\ws[l]? = some u/\le u (w++[a])
 nf:∀(k:Nat) q a,((k<i/\a<A)\/(k=i/\a<c))->ps[k]? = some q->fail q a=false
 top:∀(k:Nat) w u,ws[k]? = some w->ws[i]? = some u->sl w (u++[c])
 nd:ps.Nodup
theorem Bf.start (p0:P):Bf A step fail p0 [p0] [[]] 0 0:=by
 have one:∀(k:Nat) w,([[]]:List (List Nat))[k]? = some w->k=0/\w=[]:=λk w h=>by
  cases k with
  | zero=>exact ⟨rfl,by simpa using h.symm⟩
  | succ k=>simp at h
 refine ⟨rfl,⟨rfl,rfl⟩,λk q w h1 h2=>?_,λk l u v hkl h1 h2=>?_,λk q w a q' h=>?_,λk q a h=>?_,λk w u h1 h2=>?_,by simp⟩
 ·obtain ⟨rfl,rfl⟩:=one k w h2
  have:p0=q:=by simpa using h1
  subst this
  exact ⟨rfl,λa ha=>by simp at ha⟩
 ·have:=(one k u h1).1;have:=(one l v h2).1;omega
 ·omega
 ·omega
 ·obtain ⟨rfl,rfl⟩:=one k w h1
  obtain ⟨_,rfl⟩:=one 0 u h2
  exact .inl (by simp)
section
variable {p0 q q':P}{ps:List P}{ws:List (List Nat)}{w:List Nat}{i c:Nat}
theorem get_snoc {α:Type}{l:List α}{x y:α}{k:Nat}(h:(l++[x])[k]? = some y):l[k]? = some y\/(k=l.length/\y=x):=by
 rcases Nat.lt_trichotomy k l.length with hk|hk|hk
 ·rw [List.getElem?_append_left hk] at h;exact .inl h
 ·subst hk;rw [List.getElem?_append_right (qlr _)] at h;exact .inr ⟨rfl,by simpa using h.symm⟩
 ·rw [List.getElem?_eq_none (by simp;omega)] at h;cases h
theorem get_left {α:Type}{l:List α}{x y:α}{k:Nat}(h:l[k]? = some y):(l++[x])[k]? = some y:=by
 rw [List.getElem?_append_left (qme h).1];exact h
theorem Bf.push (b:Bf A step fail p0 ps ws i c) (hc:c<A) (hq:ps[i]? = some q) (hw:ws[i]? = some w) (hf:fail q c=false) (hs:step q c=some q') (hn:q' ∉ ps):Bf A step fail p0 (ps++[q']) (ws++[w++[c]]) i (c+1):=by
 have hiL:=(qme hq).1
 refine ⟨by simp [b.len],⟨get_left b.z.1,get_left b.z.2⟩,λk r u h1 h2=>?_,λk l u v hkl h1 h2=>?_,λk r u a r' h h1 h2 h3=>?_,λk r a h h1=>?_,λk u v h1 h2=>?_,?_⟩
 ·rcases get_snoc h1 with g1|⟨e1,rfl⟩ <;> rcases get_snoc h2 with g2|⟨e2,rfl⟩
  ·exact b.wk k r u g1 g2
  ·have:=(qme g1).1;have:=b.len;omega
  ·have:=(qme g2).1;have:=b.len;omega
  ·obtain ⟨h1,h2⟩:=b.wk i q w hq hw
   refine ⟨by rw [zju,h1];exact hs,λa ha=>?_⟩
   rcases List.mem_append.mp ha with ha|ha
   ·exact h2 a ha
   ·have:a=c:=by simpa using ha
    omega
 ·rcases get_snoc h1 with g1|⟨e1,rfl⟩ <;> rcases get_snoc h2 with g2|⟨e2,rfl⟩
  ·exact b.inc k l u v hkl g1 g2
  ·exact b.top k u w g1 hw
  ·have:=(qme g2).1;omega
  ·omega
 ·have hk:k<ps.length:=by omega
  have g1:ps[k]? = some r:=by rw [List.getElem?_append_left hk] at h1;exact h1
  have g2:ws[k]? = some u:=by rw [List.getElem?_append_left (by rw [b.len];exact hk)] at h2;exact h2
  by_cases hkc:k=i/\a=c
  ·obtain ⟨rfl,rfl⟩:=hkc
   rw [hq] at g1;cases g1
   rw [hw] at g2;cases g2
   rw [hs] at h3;cases h3
   exact ⟨ps.length,w++[a],by rw [List.getElem?_append_right (qlr _)];simp,by rw [<-b.len,List.getElem?_append_right (qlr _)];simp,.inr rfl⟩
  ·obtain ⟨l,v,e1,e2,e3⟩:=b.cl k r u a r' (by omega) g1 g2 h3
   exact ⟨l,v,get_left e1,get_left e2,e3⟩
 ·have hk:k<ps.length:=by omega
  have g1:ps[k]? = some r:=by rw [List.getElem?_append_left hk] at h1;exact h1
  by_cases hkc:k=i/\a=c
  ·obtain ⟨rfl,rfl⟩:=hkc
   rw [hq] at g1;cases g1
   exact hf
  ·exact b.nf k r a (by omega) g1
 ·have g2:ws[i]? = some v:=by rw [List.getElem?_append_left (by rw [b.len];exact hiL)] at h2;exact h2
  rw [hw] at g2;cases g2
  rcases get_snoc h1 with g1|⟨e1,rfl⟩
  ·exact zgx (b.top k u w g1 hw) (zjt w (Nat.lt_succ_self c))
  ·exact zjt w (Nat.lt_succ_self c)
 ·rw [List.nodup_append]
  exact ⟨b.nd,by simp,λx hx y hy=>by have:y=q':=by simpa using hy
                                     subst this;exact λe=>hn (e ▸ hx)⟩
theorem Bf.skip (b:Bf A step fail p0 ps ws i c) (hc:c<A) (hq:ps[i]? = some q) (hw:ws[i]? = some w) (hf:fail q c=false) (hs:∀q',step q c=some q'->q'∈ps):Bf A step fail p0 ps ws i (c+1):=by
 refine ⟨b.len,b.z,b.wk,b.inc,λk r u a r' h h1 h2 h3=>?_,λk r a h h1=>?_,λk u v h1 h2=>?_,b.nd⟩
 ·by_cases hkc:k=i/\a=c
  ·obtain ⟨rfl,rfl⟩:=hkc
   rw [hq] at h1;cases h1
   rw [hw] at h2;cases h2
   obtain ⟨l,hl⟩:=List.mem_iff_getElem?.mp (hs r' h3)
   have hll:=(qme hl).1
   have hwl:l<ws.length:=by rw [b.len];exact hll
   have hv:ws[l]? = some ws[l]:=qge hwl
   exact ⟨l,_,hl,hv,.inl (b.top l _ w hv hw)⟩
  ·exact b.cl k r u a r' (by omega) h1 h2 h3
 ·by_cases hkc:k=i/\a=c
  ·obtain ⟨rfl,rfl⟩:=hkc
   rw [hq] at h1;cases h1
   exact hf
  ·exact b.nf k r a (by omega) h1
 ·exact zgx (b.top k u v h1 h2) (zjt v (Nat.lt_succ_self c))
theorem Bf.next (b:Bf A step fail p0 ps ws i A):Bf A step fail p0 ps ws (i+1) 0:=by
 refine ⟨b.len,b.z,b.wk,b.inc,λk r u a r' h h1 h2 h3=>?_,λk r a h h1=>?_,λk u v h1 h2=>?_,b.nd⟩
 ·exact b.cl k r u a r' (by omega) h1 h2 h3
 ·exact b.nf k r a (by omega) h1
 ·have hl:=(qme h2).1
  have hi:ws[i]? = some ws[i]:=qge (by omega)
  exact zgx (b.top k u _ h1 hi) (zle A 0 (b.inc i (i+1) _ v (by omega) hi h2))
theorem Bf.key (b:Bf A step fail p0 ps ws i c) (u:List Nat) (hu:∀a∈u,a<A):∀q,walk step p0 u=some q->∃u1 u2 k w' q1,u=u1++u2/\ps[k]? = some q1/\ws[k]? = some w'/\walk step p0 u1=some q1/\le w' u1/\((u2=[]/\q1=q)\/i<=k):=by
 have gen:∀(n:Nat) (u:List Nat),u.length=n->(∀a∈u,a<A)->∀q,walk step p0 u=some q->∃u1 u2 k w' q1,u=u1++u2/\ps[k]? = some q1/\ws[k]? = some w'/\walk step p0 u1=some q1/\le w' u1/\((u2=[]/\q1=q)\/i<=k):=by
  intro n
  induction n with
  | zero =>
   intro u hl hu q hq
   have:u=[]:=List.length_eq_zero_iff.mp hl
   subst this
   cases hq
   exact ⟨[],[],0,[],p0,rfl,b.z.1,b.z.2,rfl,.inr rfl,.inl ⟨rfl,rfl⟩⟩
  | succ n ih =>
   intro u hl hu q hq
   obtain ⟨u',a,rfl⟩:∃u' a,u=u'++[a]:=by
    have hne:u≠[]:=λe=>by subst e;simp at hl
    exact ⟨u.dropLast,u.getLast hne,(List.dropLast_concat_getLast hne).symm⟩
   rw [zju] at hq
   cases hq':walk step p0 u' with
   | none=>rw [hq'] at hq;cases hq
   | some q1 =>
    rw [hq'] at hq
    have hq:step q1 a=some q:=hq
    obtain ⟨u1,u2,k,w',q2,e0,e1,e2,e3,e4,e5⟩:=ih u' (by simpa using hl) (λx hx=>hu x (List.mem_append_left _ hx)) q1 hq'
    by_cases hk:i<=k
    ·exact ⟨u1,u2++[a],k,w',q2,by rw [e0,List.append_assoc],e1,e2,e3,e4,.inr hk⟩
    ·rcases e5 with ⟨rfl,rfl⟩|e5
     ·rw [List.append_nil] at e0
      subst e0
      obtain ⟨l,v,g1,g2,g3⟩:=b.cl k q2 w' a q (.inl ⟨by omega,hu a (by simp)⟩) e1 e2 hq
      exact ⟨u'++[a],[],l,v,q,by simp,g1,g2,by rw [zju,hq'];exact hq,le_trans g3 (zuo a e4),.inl ⟨rfl,rfl⟩⟩
     ·exact absurd e5 hk
 exact gen u.length u rfl hu
theorem Bf.found (b:Bf A step fail p0 ps ws i c) (hc:c<A) (hq:ps[i]? = some q) (hw:ws[i]? = some w) (hf:fail q c=true):Least A step fail p0 (w++[c]):=by
 obtain ⟨hwk,hwa⟩:=b.wk i q w hq hw
 refine ⟨⟨w,c,q,rfl,hc,hwa,hwk,hf⟩,?_⟩
 rintro v ⟨u,d,r,rfl,hd,hu,hr,hfr⟩ hs
 obtain ⟨u1,u2,k,w',q1,e0,e1,e2,e3,e4,e5⟩:=b.key u hu r hr
 have wle:i<=k->le w w':=λhk=>by
  rcases Nat.lt_or_ge i k with h|h
  ·exact .inl (b.inc i k w w' h hw e2)
  ·have:i=k:=by omega
   subst this
   rw [hw] at e2;cases e2;exact .inr rfl
 have fin:i<=k->False:=λhk=>by
  have h1:le w u1:=le_trans (wle hk) e4
  have hl:=zun h1
  have hlu:u.length=u1.length+u2.length:=by rw [e0,qla]
  by_cases hlen:w.length<u.length
  ·rcases hs with h|⟨h,_⟩ <;> (simp at h;omega)
  ·have hu2:u2=[]:=List.length_eq_zero_iff.mp (by omega)
   subst hu2
   rw [List.append_nil] at e0
   subst e0
   rcases h1 with h1|rfl
   ·exact zld _ (zgx hs (zle c d h1))
   ·have hqr:q=r:=by rw [hwk] at hr;exact qoi hr
    subst hqr
    have hdc:c<=d:=by
     rcases Nat.lt_or_ge d c with h|h
     ·have:=b.nf i q d (.inr ⟨rfl,h⟩) hq
      rw [hfr] at this;cases this
     ·exact h
    rcases Nat.lt_or_ge c d with h|h
    ·exact zld _ (zgx hs (zjt w h))
    ·have:c=d:=by omega
     subst this
     exact zld _ hs
 rcases e5 with ⟨rfl,rfl⟩|e5
 ·by_cases hk:i<=k
  ·exact fin hk
  ·have:=b.nf k q1 d (.inl ⟨by omega,hd⟩) e1
   rw [hfr] at this;cases this
 ·exact fin e5
theorem Bf.none (b:Bf A step fail p0 ps ws ps.length 0):∀v,¬Fails A step fail p0 v:=by
 rintro v ⟨u,d,r,rfl,hd,hu,hr,hfr⟩
 obtain ⟨u1,u2,k,w',q1,e0,e1,e2,e3,e4,e5⟩:=b.key u hu r hr
 have hk:=(qme e1).1
 rcases e5 with ⟨rfl,rfl⟩|e5
 ·have:=b.nf k q1 d (.inl ⟨hk,hd⟩) e1
  rw [hfr] at this;cases this
 ·omega
end
def Fn (A:Nat) (step:P->Nat->Option P) (fail:P->Nat->Bool) (n:Nat) (p:P):Prop:=∃w,Fails A step fail p w/\w.length=n
end
theorem few {n:Nat}:∀(l:List Nat),l.Nodup->(∀x∈l,x<n)->l.length<=n:=by
 intro l hd hl
 rcases Nat.lt_or_ge n l.length with h|h
 ·exfalso
  refine TS.pigeon n (λa=>l[a]?) (λa ha=>?_) λa b i l1 l2 e1 e2=>?_
  ·have:a<l.length:=by omega
   exact ⟨l[a],qge this,hl _ (qem this)⟩
  ·have h1:a<l.length:=by omega
   exact (List.getElem?_inj h1 hd).mp (e1.trans e2.symm)
 ·exact h
theorem few2 {n m:Nat}(l:List P) (hd:l.Nodup) (hl:∀x∈l,x.1<n/\x.2<m):l.length<=n*m:=by
 have:=few (n:=n*m) (l.map λx=>x.1*m+x.2) (by
  unfold List.Nodup
  rw [List.pairwise_map]
  refine List.Pairwise.imp_of_mem (λ{x y} hx hy hne e=>hne ?_) hd
  ·skip
   obtain ⟨h1,h2⟩:=hl x hx
   obtain ⟨h3,h4⟩:=hl y hy
   have e1:x.2=y.2:=by
    have a1:(x.1*m+x.2) % m=x.2:=by rw [Nat.mul_comm,Nat.mul_add_mod];exact Nat.mod_eq_of_lt h2
    have a2:(y.1*m+y.2) % m=y.2:=by rw [Nat.mul_comm,Nat.mul_add_mod];exact Nat.mod_eq_of_lt h4
    rw [<-a1,<-a2];exact congrArg (· % m) e
   have e2:x.1=y.1:=by
    have:x.1*m=y.1*m:=by omega
    exact Nat.eq_of_mul_eq_mul_right (by omega) this
   exact Prod.ext e2 e1) (λz hz=>by
  obtain ⟨x,hx,rfl⟩:=List.mem_map.mp hz
  obtain ⟨h1,h2⟩:=hl x hx
  calc x.1*m+x.2<x.1*m+m:=by omega
   _=(x.1+1)*m:=by rw [Nat.add_mul,Nat.one_mul]
   _<=n*m:=Nat.mul_le_mul_right m h1)
 simpa using this
end BF
namespace SP
open PySem PySem.W PyProof.Rows
inductive Ok (lt:Nat->Nat->Bool) (n:Nat) {α:Type} (G:α->Prop):KasT α->Prop where
 | ret {a:α} (h:G a):Ok lt n G (.ret a)
 | ask {i j:Nat} {k:Bool->KasT α} (hi:i<n) (hj:j<n) (h:Ok lt n G (k (lt i j))):Ok lt n G (.ask i j k)
theorem Ok.bind {lt:Nat->Nat->Bool}{n:Nat}{α β:Type}{G:β->Prop}{G':α->Prop}{t:KasT α}{f:α->KasT β}(h:Ok lt n G' t) (hf:∀a,G' a->Ok lt n G (f a)):Ok lt n G (t.bind f):=by
 induction h with
 | ret h=>exact hf _ h
 | ask hi hj _ ih=>exact .ask hi hj ih
theorem Ok.wp {lt:Nat->Nat->Bool}{n:Nat}{α:Type}{G:α->Prop}{t:KasT α}{cmp:Nat->Nat->(Bool->Shared->Prop)->Shared->Prop}{Q:α->Shared->Prop}{s:Shared}(h:Ok lt n G t)
  (hc:∀i j C,i<n->j<n->C (lt i j) s->cmp i j C s) (hq:∀a,G a->Q a s):t.kasWp cmp Q s:=by
 induction h with
 | ret h=>exact hq _ h
 | ask hi hj _ ih=>exact hc _ _ _ hi hj ih
section
variable {r:Nat->Int}{n:Nat}
noncomputable def lt (r:Nat->Int) (i j:Nat):Bool:=decide (r i<r j)
noncomputable def at' (r:Nat->Int) (p:Array Nat) (k:Nat):Int:=r (p.getD k 0)
def Pm (n:Nat) (p:Array Nat):Prop:=p.Perm (List.range n).toArray
def Up (r:Nat->Int) (p:Array Nat) (m:Nat):Prop:=∀i j,i<j->j<m->at' r p i<at' r p j
def Inj (r:Nat->Int) (n:Nat):Prop:=∀i j,i<n->j<n->r i=r j->i=j
theorem Pm.size {p:Array Nat}(h:Pm n p):p.size=n:=by
 have:=h.size_eq;simpa using this
theorem Pm.lt {p:Array Nat}(h:Pm n p) {k:Nat}(hk:k<n):p.getD k 0<n:=by
 have hs:=h.size
 have e:p.getD k 0=p[k]'(by omega):=by simp [Array.getD,hs,hk]
 have:=(Array.perm_iff_toList_perm.mp h).mem_iff (a:=p[k]'(by omega))
 rw [e]
 have h1:p[k]'(by omega)∈p.toList:=by simp
 simpa using this.mp h1
theorem Pm.inj {p:Array Nat}(h:Pm n p) (hr:Inj r n) {i j:Nat}(hi:i<n) (hj:j<n) (e:at' r p i=at' r p j):i=j:=by
 have hs:=h.size
 have e1:=hr _ _ (h.lt hi) (h.lt hj) e
 have ei:p.getD i 0=p[i]'(by omega):=by simp [Array.getD,hs,hi]
 have ej:p.getD j 0=p[j]'(by omega):=by simp [Array.getD,hs,hj]
 rw [ei,ej] at e1
 have nd:p.toList.Nodup:=(Array.perm_iff_toList_perm.mp h).nodup_iff.mpr (by simpa using List.nodup_range)
 have:p.toList[i]'(by simp;omega)=p.toList[j]'(by simp;omega):=by simpa using e1
 exact (List.getElem_inj nd).mp this
theorem Pm.lt_of {p:Array Nat}(h:Pm n p) (hr:Inj r n) {i j:Nat}(hi:i<n) (hj:j<n) (hij:i≠j) (e:¬at' r p j<at' r p i):at' r p i<at' r p j:=by
 rcases Int.lt_or_eq_of_le (Int.not_lt.mp e) with z|z
 ·exact z
 ·exact absurd (h.inj hr hi hj z) hij
theorem zjv {p q:Array Nat}{i j:Nat}(h:p[i]? = q[j]?):at' r p i=at' r q j:=by
 unfold at'
 have:p.getD i 0=q.getD j 0:=by simp only [Array.getD_eq_getD_getElem?,h]
 rw [this]
theorem Up.more {p:Array Nat}{m:Nat}(u:Up r p m) (hm:0<m) (h:at' r p (m-1)<at' r p m):Up r p (m+1):=λi j hij hj=>by
 by_cases e:j=m
 ·subst e
  by_cases e2:i=j-1
  ·rw [e2];exact h
  ·exact Int.lt_trans (u i (j-1) (by omega) (by omega)) h
 ·exact u i j hij (by omega)
theorem asc {p:Array Nat}(hp:Pm n p) (hr:Inj r n):∀(f m:Nat),m+f=n->1<=m->Up r p m->Ok (lt r) n (λm'=>m<=m'/\m'<=n/\Up r p m'/\(m' < n->at' r p m' < at' r p (m' - 1))) (kas_asc p f m)
 | 0,m,e,h1,u=>.ret ⟨qlr _,by omega,u,λz=>by omega⟩
 | f+1,m,e,h1,u=>by
  refine .ask (hp.lt (by omega)) (hp.lt (by omega)) ?_
  by_cases c:at' r p m<at' r p (m-1)
  ·rw [if_pos (show lt r _ _=true from decide_eq_true c)]
   exact .ret ⟨qlr _,by omega,u,λ_=>c⟩
  ·rw [if_neg (show ¬lt r _ _=true by rw [show lt r _ _=false from decide_eq_false c];simp)]
   have ih:=asc hp hr f (m+1) (by omega) (by omega) (u.more (by omega) (hp.lt_of hr (by omega) (by omega) (by omega) c))
   have:=Ok.bind (f:=KasT.ret) ih (λa ha=>Ok.ret (G:=λm'=>m<=m'/\m'<=n/\Up r p m'/\(m' < n->at' r p m' < at' r p (m' - 1))) ⟨by omega,ha.2.1,ha.2.2.1,ha.2.2.2⟩)
   have eb:∀{α:Type} (t:KasT α),t.bind KasT.ret=t:=λt=>by
    induction t with
    | ret a=>rfl
    | ask i j k ih=>show KasT.ask i j (λb=>(k b).bind KasT.ret)=_;congr 1;funext b;exact ih b
   rw [eb] at this
   exact this
def Dn (r:Nat->Int) (p:Array Nat) (m:Nat):Prop:=∀i j,i<j->j<m->at' r p j<at' r p i
theorem zn7 {p:Array Nat}(hp:Pm n p) (hr:Inj r n):∀(f m:Nat),m+f=n->1<=m->Dn r p m->Ok (lt r) n (λz=>∃m',z=(p,m',0)/\1<=m'/\m'<=n/\Dn r p m') (kas_desc f p m 0)
 | 0,m,e,h1,u=>.ret ⟨m,rfl,h1,by omega,u⟩
 | f+1,m,e,h1,u=>by
  refine .ask (hp.lt (by omega)) (hp.lt (by omega)) ?_
  by_cases c:at' r p m<at' r p (m-1)
  ·rw [if_pos (show lt r _ _=true from decide_eq_true c),if_neg (by omega)]
   refine zn7 hp hr f (m+1) (by omega) (by omega) λi j hij hj=>?_
   by_cases e:j=m
   ·subst e
    by_cases e2:i=j-1
    ·rw [e2];exact c
    ·exact Int.lt_trans c (u i (j-1) (by omega) (by omega))
   ·exact u i j hij (by omega)
  ·rw [if_neg (show ¬lt r _ _=true by rw [show lt r _ _=false from decide_eq_false c];simp)]
   refine .ask (hp.lt (by omega)) (hp.lt (by omega)) ?_
   rw [if_pos (show lt r _ _=true from decide_eq_true (hp.lt_of hr (by omega) (by omega) (by omega) c))]
   exact .ret ⟨m,rfl,h1,by omega,u⟩
theorem zn8 {p:Array Nat}(hp:Pm n p) (i j:Nat):Pm n (kas_rev p i j):=(mirror_perm p i j _).trans hp
theorem zup {p:Array Nat}(hp:Pm n p) {m:Nat}(hm:m<=n) (d:Dn r p m):Up r (kas_rev p 0 m) m:=λi j hij hj=>by
 have h:∀k,k<m->at' r (kas_rev p 0 m) k=at' r p (m-1-k):=λk hk=>zjv (by
  unfold kas_rev
  rw [getElem?_mirror_all (by rw [hp.size];exact hm),if_pos ⟨Nat.zero_le _,hk⟩]
  congr 1;omega)
 rw [h i (by omega),h j hj]
 exact d _ _ (by omega) (by omega)
def zuq (r:Nat->Int) (n:Nat) (z:Nat × Array Nat):Prop:=1<=z.1/\z.1<=n/\Pm n z.2/\Up r z.2 z.1
theorem count {p:Array Nat}(hp:Pm n p) (hr:Inj r n) (h1:1<=n):Ok (lt r) n (zuq r n) (kas_count n p):=by
 unfold kas_count
 refine (asc hp hr (n-1) 1 (by omega) (by omega) λi j hij hj=>by omega).bind λm ⟨g1,g2,g3,g4⟩=>?_
 by_cases e:m=n
 ·rw [if_pos (by simpa using e)]
  exact .ret ⟨g1,g2,hp,g3⟩
 ·rw [if_neg (by simpa using e)]
  by_cases e1:m > 1
  ·rw [if_pos e1]
   refine .ask (hp.lt (by omega)) (hp.lt (by omega)) ?_
   rw [if_pos (show lt r _ _=true from decide_eq_true (g3 0 (m-1) (by omega) (by omega)))]
   exact .ret ⟨g1,g2,hp,g3⟩
  ·rw [if_neg e1]
   have em:m=1:=by omega
   subst em
   unfold kas_descPart
   refine (zn7 hp hr (n-2) 2 (by omega) (by omega) λi j hij hj=>?_).bind λz ⟨m',ez,k1,k2,k3⟩=>?_
   ·have:i=0/\j=1:=by omega
    rw [this.1,this.2]
    exact g4 (by omega)
   ·subst ez
    rw [if_neg (show ¬(0:Nat) > 0 by omega)]
    unfold kas_tail3
    refine (asc (zn8 hp 0 m') hr (n-m') m' (by omega) k1 (zup hp k2 k3)).bind λk ⟨q1,q2,q3,_⟩=>?_
    exact .ret ⟨by show 1<=k;omega,q2,zn8 hp 0 m',q3⟩
theorem place {p:Array Nat}(hp:Pm n p) {k:Nat}(hk:k<n) (u:Up r p k):∀(f l h:Nat),h-l<=f->l<=h->h<=k->(∀i,i<l->at' r p i<=at' r p k)->(∀i,h<=i->i<k->at' r p k<at' r p i) ->
  Ok (lt r) n (λl'=>l'<=k/\(∀i,i<l'->at' r p i<=at' r p k)/\∀i,l'<=i->i<k->at' r p k<at' r p i) (kas_place p k f l h)
 | 0,l,h,e,hlh,hh,a,b=>by
  have:l=h:=by omega
  subst this
  exact .ret ⟨hh,a,b⟩
 | f+1,l,h,e,hlh,hh,a,b=>by
  unfold kas_place
  by_cases c:l ≥ h
  ·rw [if_pos c]
   have:l=h:=by omega
   subst this
   exact .ret ⟨hh,a,b⟩
  ·rw [if_neg c]
   refine .ask (hp.lt hk) (hp.lt (by omega)) ?_
   by_cases d:at' r p k<at' r p ((l+h) / 2)
   ·rw [if_pos (show lt r _ _=true from decide_eq_true d)]
    refine place hp hk u f l _ (by omega) (by omega) (by omega) a λi hi hik=>?_
    by_cases z:i=(l+h) / 2
    ·rw [z];exact d
    ·exact Int.lt_trans d (u _ _ (by omega) hik)
   ·rw [if_neg (show ¬lt r _ _=true by rw [show lt r _ _=false from decide_eq_false d];simp)]
    refine place hp hk u f _ h (by omega) (by omega) hh (λi hi=>?_) b
    by_cases z:i=(l+h) / 2
    ·rw [z];exact Int.not_lt.mp d
    ·exact Int.le_trans (Int.le_of_lt (u i ((l+h) / 2) (by omega) (by omega))) (Int.not_lt.mp d)
theorem bin (hr:Inj r n):∀(f:Nat) (p:Array Nat) (k:Nat),Pm n p->k+f=n->Up r p k->Ok (lt r) n (λq=>Pm n q/\Up r q n) (kas_bin f p k)
 | 0,p,k,hp,e,u=>.ret ⟨hp,λi j a b=>u i j a (by omega)⟩
 | f+1,p,k,hp,e,u=>by
  unfold kas_bin
  refine (place hp (by omega) u k 0 k (by omega) (by omega) (qlr _) (λi hi=>by omega) λi h1 h2=>by omega).bind λl ⟨hl,a,b⟩=>?_
  refine bin hr f _ (k+1) ((bubble_perm p k _).trans hp) (by omega) λi j hij hj=>?_
  have g:∀x,x<=k->at' r (bubble p k (k-l)) x=if x=l then at' r p k else if l<x then at' r p (x-1) else at' r p x:=λx hx=>by
   have h:=getElem?_bubble (xs:=p) (src:=k) (by rw [hp.size];omega) (k-l) (by omega) x
   have e1:k-(k-l)=l:=by omega
   rw [e1] at h
   by_cases z:x=l
   ·rw [if_pos z] at h ⊢;exact zjv h
   ·rw [if_neg z] at h ⊢
    by_cases z2:l<x
    ·rw [if_pos ⟨z2,hx⟩] at h;rw [if_pos z2];exact zjv h
    ·rw [if_neg (by omega)] at h;rw [if_neg z2];exact zjv h
  have a':∀x,x<l->at' r p x<at' r p k:=λx hx=>hp.lt_of hr (by omega) (by omega) (by omega) (Int.not_lt.mpr (a x hx))
  rw [g i (by omega),g j (by omega)]
  by_cases z1:i=l
  ·rw [if_pos z1,if_neg (by omega),if_pos (by omega)];exact b _ (by omega) (by omega)
  ·rw [if_neg z1]
   by_cases z2:l<i
   ·rw [if_pos z2,if_neg (by omega),if_pos (by omega)];exact u _ _ (by omega) (by omega)
   ·rw [if_neg z2]
    by_cases z3:j=l
    ·rw [if_pos z3];exact a' i (by omega)
    ·rw [if_neg z3]
     by_cases z4:l<j
     ·rw [if_pos z4]
      exact Int.lt_trans (a' i (by omega)) (b (j-1) (by omega) (by omega))
     ·rw [if_neg z4];exact u i j hij (by omega)
theorem sort (hr:Inj r n) (h1:1<=n):Ok (lt r) n (λq=>Pm n q/\Up r q n) (kas_sort n):=by
 unfold kas_sort
 refine (count (Array.Perm.refl _) hr h1).bind λz ⟨g1,g2,g3,g4⟩=>?_
 by_cases e:z.1<n
 ·rw [if_pos e]
  have em:max z.1 1=z.1:=by omega
  rw [em]
  exact bin hr _ _ _ g3 (by omega) g4
 ·rw [if_neg e]
  have:z.1=n:=by omega
  exact .ret ⟨g3,by rw [<-this];exact g4⟩
end
open PySem.Calls
abbrev Pr:=Int × Int
theorem gD {α:Type}{l:List α}{i:Nat}{d:α}(h:i<l.length):l.getD i d=l[i]:=by simp [h]
noncomputable def plt (p q:Pr):Bool:=decide (p.1<q.1) || (decide (p.1=q.1) && decide (p.2<q.2))
theorem zej (p q:Pr):plt p q=true↔p.1<q.1\/(p.1=q.1/\p.2<q.2):=by unfold plt;simp
theorem zlf (p:Pr):plt p p=false:=by
 cases h:plt p p
 ·rfl
 ·have:=(zej p p).mp h;omega
theorem zn9 {p q r:Pr}(h1:plt p q=true) (h2:plt q r=true):plt p r=true:=by
 rw [zej] at *;omega
theorem zlg (p q:Pr) (h:p≠q):plt p q=true\/plt q p=true:=by
 rw [zej,zej]
 by_cases h1:p.1=q.1
 ·by_cases h2:p.2=q.2
  ·exact absurd (Prod.ext h1 h2) h
  ·omega
 ·omega
def IsP (h:Heap) (v:Value) (p:Pr):Prop:=∃a o t1 t2 n,v=.ref a/\h.get? a=some o/\o.cls=.type "tuple"/\o.data=.seq #[.int p.1 t1,.int p.2 t2] n
theorem IsP.kept {h h':Heap}{v:Value}{p:Pr}(x:IsP h v p) (k:∀b o,o.cls=.type "tuple"->h.get? b=some o->h'.get? b=some o):IsP h' v p :=
 let ⟨a,o,t1,t2,n,e,ho,c,d⟩:=x;⟨a,o,t1,t2,n,e,k a o c ho,c,d⟩
inductive TR (R:Value->Pr->Prop):List Value->List Pr->Prop where
 | nil:TR R [] []
 | cons {v:Value} {p:Pr} {vs:List Value} {ps:List Pr}:R v p->TR R vs ps->TR R (v :: vs) (p :: ps)
noncomputable abbrev Tp (h:Heap):=TR (IsP h)
theorem TR.length {R:Value->Pr->Prop}{vs:List Value}{ps:List Pr}(t:TR R vs ps):vs.length=ps.length:=by
 induction t with
 | nil=>rfl
 | cons _ _ ih=>simp [ih]
theorem TR.imp {R R':Value->Pr->Prop}{vs:List Value}{ps:List Pr}(t:TR R vs ps) (k:∀v p,R v p->R' v p):TR R' vs ps:=by
 induction t with
 | nil=>exact .nil
 | cons x _ ih=>exact .cons (k _ _ x) ih
theorem TR.get {R:Value->Pr->Prop}{vs:List Value}{ps:List Pr}(t:TR R vs ps):∀{i:Nat},i<ps.length->R (vs.getD i .none) (ps.getD i (0,0)):=by
 induction t with
 | nil=>intro i hi;simp at hi
 | cons x _ ih =>
  intro i hi
  cases i with
  | zero=>simpa using x
  | succ j=>simpa using ih (i:=j) (by simpa using hi)
theorem tups {h:Heap}{vs:List Value}{ps:List Pr}(t:Tp h vs ps):∃fs:List Value,KatTups h vs fs/\fs.length=ps.length/\∀v∈fs,∃i k,v=.int i k:=by
 induction t with
 | nil=>exact ⟨[],.nil,rfl,λv hv=>by simp at hv⟩
 | @cons v p vs ps x _ ih =>
  obtain ⟨fs,h1,h2,h3⟩:=ih
  obtain ⟨a,o,t1,t2,n,rfl,ho,c,d⟩:=x
  refine ⟨.int p.1 t1 :: fs,KatTups.cons ho c d rfl h1,by simp [h2],λv hv=>?_⟩
  rcases List.mem_cons.mp hv with e|hv
  ·exact ⟨_,_,e⟩
  ·exact h3 v hv
section
variable {prog:Program}{w:World}{A:Around}{E:Value->Shared->Prop}{s:Shared}
theorem zur {vs:List Value}{ps:List Pr}{Q:SortKind->Shared->Prop}(t:Tp s.heap vs ps) (hne:0<ps.length) (h:Q (tuples' true) s):wpAny (model prog w) A (keyKind' vs.toArray) Q E s:=by
 obtain ⟨fs,h1,h2,h3⟩:=tups t
 refine kat_kind (T:=.type "int") h1 (by omega) (λv hv=>?_) rfl h
 obtain ⟨i,k,rfl⟩:=h3 v hv
 intro A Q E s _ q
 exact qwp q
theorem zus {u v:Value}{p q:Pr}{Q:Bool->Shared->Prop}(hu:IsP s.heap u p) (hv:IsP s.heap v q) (h:Q (plt p q) s):wpAny (model prog w) A (keyLt' (tuples' true) u v) Q E s:=by
 obtain ⟨a,o,t1,t2,n,rfl,ho,c,d⟩:=hu
 obtain ⟨b,o',u1,u2,m,rfl,ho',c',d'⟩:=hv
 refine kat_lt ho d ho' d' ?_
 show KatLex prog w A true _ Q [(.int p.1 t1,.int q.1 u1),(.int p.2 t2,.int q.2 u2)] 0 s
 refine kat_cons (wpAny_eqBool_int ?_)
 by_cases e1:p.1=q.1
 ·rw [show (p.1 == q.1)=true by simpa using e1]
  refine kat_yes (kat_cons (wpAny_eqBool_int ?_))
  by_cases e2:p.2=q.2
  ·rw [show (p.2 == q.2)=true by simpa using e2]
   refine kat_yes (kat_nil ?_)
   have:plt p q=false:=by rw [show p=q from Prod.ext e1 e2];exact zlf q
   rw [this] at h
   exact h
  ·rw [show (p.2 == q.2)=false by simpa using e2]
   refine kat_no ?_
   show wpAny (model prog w) A (oneLt' false _ _) Q _ s
   refine kat_one _ _ (wpAny_lt_int ?_)
   have:plt p q=decide (p.2<q.2):=by unfold plt;simp [e1]
   rw [this] at h
   exact h
 ·rw [show (p.1 == q.1)=false by simpa using e1]
  refine kat_no ?_
  show wpAny (model prog w) A (oneLt' true _ _) Q _ s
  refine oneLt_int ?_
  have:plt p q=decide (p.1<q.1):=by unfold plt;simp [e1]
  rw [this] at h
  exact h
end
noncomputable def rk (ps:List Pr) (i:Nat):Int:=(ps.countP (λq=>plt q (ps.getD i (0,0))):Nat)
theorem zoa {ps:List Pr}{p q:Pr}(hp:p∈ps) (h:plt p q=true):ps.countP (λz=>plt z p)<ps.countP (λz=>plt z q):=by
 obtain ⟨l,r,rfl⟩:=List.append_of_mem hp
 have m:∀k:List Pr,k.countP (λz=>plt z p)<=k.countP (λz=>plt z q):=λk=>List.countP_mono_left λz _ hz=>zn9 hz h
 have m1:=m l
 have m2:=m r
 simp only [List.countP_append,List.countP_cons,zlf,h]
 simp only [qbf,if_false,if_true]
 omega
theorem zjw {ps:List Pr}{i j:Nat}(hi:i<ps.length) (hj:j<ps.length):lt (rk ps) i j=plt (ps.getD i (0,0)) (ps.getD j (0,0)):=by
 have mi:ps.getD i (0,0)∈ps:=by rw [gD hi];exact qem hi
 have mj:ps.getD j (0,0)∈ps:=by rw [gD hj];exact qem hj
 unfold lt rk
 cases h:plt (ps.getD i (0,0)) (ps.getD j (0,0)) with
 | true=>have:=zoa mi h;exact decide_eq_true (by omega)
 | false =>
  refine decide_eq_false ?_
  by_cases e:ps.getD i (0,0)=ps.getD j (0,0)
  ·rw [e];omega
  ·rcases zlg _ _ e with z|z
   ·rw [z] at h;cases h
   ·have:=zoa mj z;omega
theorem zut {ps:List Pr}(nd:ps.Nodup):Inj (rk ps) ps.length:=λi j hi hj e=>by
 have h1:=zjw hi hj
 have h2:=zjw hj hi
 unfold lt at h1 h2
 rw [e] at h1 h2
 simp only [Int.lt_irrefl,decide_false] at h1 h2
 have:ps.getD i (0,0)=ps.getD j (0,0):=by
  by_cases z:ps.getD i (0,0)=ps.getD j (0,0)
  ·exact z
  ·rcases zlg _ _ z with y|y
   ·rw [y] at h1;cases h1
   ·rw [y] at h2;cases h2
 rw [gD hi,gD hj] at this
 exact (List.getElem_inj nd).mp this
noncomputable def ple (p q:Pr):Bool:=!plt q p
noncomputable def sortP (ps:List Pr):List Pr:=ps.mergeSort ple
theorem zuu (a b c:Pr) (h1:ple a b=true) (h2:ple b c=true):ple a c=true:=by
 unfold ple at *
 simp only [Bool.not_eq_true'] at *
 have e1:=zej b a
 have e2:=zej c b
 have e3:=zej c a
 rw [h1] at e1;rw [h2] at e2
 cases h:plt c a
 ·rfl
 ·rw [h] at e3
  have e1:¬(b.1<a.1\/(b.1=a.1/\b.2<a.2)):=λz=>Bool.false_ne_true (e1.mpr z)
  have e2:¬(c.1<b.1\/(c.1=b.1/\c.2<b.2)):=λz=>Bool.false_ne_true (e2.mpr z)
  have e3:=e3.mp rfl
  omega
theorem zuv (a b:Pr):(ple a b || ple b a)=true:=by
 unfold ple
 have e1:=zej b a
 have e2:=zej a b
 cases h1:plt b a
 ·rfl
 ·cases h2:plt a b
  ·rfl
  ·exfalso;have:=e1.mp h1;have:=e2.mp h2;omega
theorem zuw (a b:Pr) (h1:ple a b=true) (h2:ple b a=true):a=b:=by
 unfold ple at *
 simp only [Bool.not_eq_true'] at *
 by_cases e:a=b
 ·exact e
 ·rcases zlg a b e with z|z
  ·rw [z] at h2;cases h2
  ·rw [z] at h1;cases h1
theorem zux (l:List Pr):(sortP l).Pairwise λa b=>ple a b=true:=List.pairwise_mergeSort zuu zuv l
theorem sortP_perm (l:List Pr):(sortP l).Perm l:=List.mergeSort_perm l ple
theorem sortP_of {a l:List Pr}(h:a.Perm l) (s:a.Pairwise λx y=>ple x y=true):a=sortP l :=
 List.Perm.eq_of_pairwise (λa b _ _=>zuw a b) s (zux l) (h.trans (sortP_perm l).symm)
theorem zuy {ps:List Pr}(nd:ps.Nodup) {q:Array Nat}(hp:Pm ps.length q) (u:Up (rk ps) q ps.length):q.toList.map (λi=>ps.getD i (0,0))=sortP ps:=by
 have hq:=Array.perm_iff_toList_perm.mp hp
 refine sortP_of ?_ ?_
 ·have h1:=hq.map (λi=>ps.getD i (0,0))
  have e:(List.range ps.length).map (λi=>ps.getD i (0,0))=ps:=by
   apply List.ext_getElem
   ·simp
   ·intro i h1 h2
    simp [h2]
  have e2:((List.range ps.length).toArray).toList=List.range ps.length:=by simp
  rw [e2] at h1
  rw [e] at h1
  exact h1
 ·rw [List.pairwise_map,List.pairwise_iff_getElem]
  intro i j hi hj hij
  have hs:=hp.size
  have hi':i<ps.length:=by simpa [hs] using hi
  have hj':j<ps.length:=by simpa [hs] using hj
  have h1:=u i j hij hj'
  have g:∀k (hk:k<q.toList.length),q.toList[k]=q.getD k 0:=λk hk=>by
   have hk:k<q.size:=by simpa using hk
   simp [Array.getD,hk]
  rw [g,g]
  have l1:=zjw (ps:=ps) (hp.lt hi') (hp.lt hj')
  have l2:lt (rk ps) (q.getD i 0) (q.getD j 0)=true:=decide_eq_true h1
  rw [l2] at l1
  unfold ple
  cases h:plt (ps.getD (q.getD j 0) (0,0)) (ps.getD (q.getD i 0) (0,0))
  ·rfl
  ·have:=zn9 l1.symm h;rw [zlf] at this;cases this
section
variable {prog:Program}{w:World}{A:Around}{E:Value->Shared->Prop}{s:Shared}
theorem zuz {a:Addr}{vs:List Value}{ps:List Pr}{n:Nat}{P:PySem.Fin->Shared->Prop}(ho:s.heap.get? a=some (seqObj "list" vs.toArray n)) (t:Tp s.heap vs ps) {R0:Value->Pr->Prop} (t0:TR R0 vs ps) (nd:ps.Nodup) (h64:ps.length<64)
  (h:∀out:List Value,TR R0 out (sortP ps)->P (.done (.ret .none)) { s with heap:=sortedHeap s.heap a vs out.toArray }):wpAny (model prog w) A (Builtin.«list.sort» ⟨[.ref a],[]⟩) P E s:=by
 have hl:=t.length
 have old:∀(f:Array Value->Array Value) (b:Addr) (o:Obj),o.cls=.type "tuple"->s.heap.get? b=some o->(((s.heap.update a (Obj.mapSeq f)).push (seqObj "tuple" vs.toArray 0)).push (seqObj "list" #[] 0)).get? b=some o:=λf b o c e=>by
  have hb:b≠a:=λz=>by rw [z,ho] at e;cases e;injection c with c;exact absurd c (by decide)
  exact qps _ (qps _ ((Heap.get?_update_other _ _ (Ne.symm hb)).trans e))
 obtain ⟨c1,g1⟩:∃c1,(s.heap.update a (Obj.mapSeq λ_=>(#[]:Array Value))).get? a=some (seqObj "list" #[] c1):=⟨_,get?_update_seq ho λ_=>#[]⟩
 have g3:(((s.heap.update a (Obj.mapSeq λ_=>(#[]:Array Value))).push (seqObj "tuple" vs.toArray 0)).push (seqObj "list" #[] 0)).get? a=some (seqObj "list" #[] c1):=qps _ (qps _ g1)
 have fits:∀k,k<64->k<=sizeLine:=λk hk=>by rw [sizeLine_eq];omega
 rw [list_sort_plain]
 have hA:vs.toArray.size<=sizeLine:=by rw [List.size_toArray];exact fits _ (by omega)
 have hC:vs.toArray.toList.length<=sizeLine:=fits _ (by simpa [hl] using h64)
 refine qwb (listItems_at ho rfl (qwb (listUpdate_at ho rfl ?_ hA (Nat.zero_le _))))
 refine qwb (seqEpoch_at g1 rfl (qwb (wpAny_newTuple ?_ hC)))
 refine qwb (wpAny_newList (wpAny_holding ?_) (Nat.zero_le _))
 show wpAny (model prog w) A _ P E { s with heap:=((s.heap.update a (Obj.mapSeq λ_=>(#[]:Array Value))).push (seqObj "tuple" vs.toArray 0)).push (seqObj "list" #[] 0) }
 dsimp only
 have done:∀(out:Array Value) (st:SortSt),(arrOf st).map (·.2)=out->failedOf st=none->out.size=vs.length->TR R0 out.toList (sortP ps) ->
   wpAny (model prog w) A (do
    let touched:=(<-seqEpoch a) != c1
    Builtin.List.listUpdate (.ref a) λ_=>(arrOf st).map (·.2)
    if let some e:=failedOf st then rule "list.sort.comparison-raised";throw e
    if touched then rule "list.sort.modified";raiseError "ValueError" "list modified during sort"
    ret .none) P E { s with heap:=((s.heap.update a (Obj.mapSeq λ_=>(#[]:Array Value))).push (seqObj "tuple" vs.toArray 0)).push (seqObj "list" #[] 0) }:=λout st e1 e2 e3 e4=>by
  rw [e1,e2]
  refine qwb (seqEpoch_at g3 rfl (qwb (listUpdate_at g3 rfl ?_ (Nat.zero_le _) (by show out.size<=_;have:=fits vs.length (by omega);omega))))
  simp only [bne_self_eq_false,qbf,if_false]
  have:=h out.toList e4
  rw [Array.toArray_toList] at this
  exact qwp this
 by_cases h2:vs.toArray.size<2
 ·rw [if_pos h2,if_pos h2]
  refine qwb (qwp ?_)
  rw [StateT.run_pure]
  refine qwb (qwp ?_)
  refine done vs.toArray (SortSt.mk' general' (vs.toArray.zip vs.toArray) #[] 7 none) ?_ rfl (by simp) ?_
  ·apply Array.toList_inj.mp
   show ((vs.toArray.zip vs.toArray).map (·.2)).toList=vs
   rw [Array.toList_map]
   have:=pairsOf_toList vs
   unfold pairsOf at this
   rw [this,List.map_snd_zip (qlr _)]
  ·have:sortP ps=ps:=by
    refine (sortP_of (List.Perm.refl _) ?_).symm
    rw [List.size_toArray] at h2
    rw [List.pairwise_iff_getElem]
    intro i j hi hj hij
    omega
   rw [this]
   exact t0
 ·rw [if_neg h2,if_neg h2]
  rw [List.size_toArray] at h2
  have t':Tp (((s.heap.update a (Obj.mapSeq λ_=>(#[]:Array Value))).push (seqObj "tuple" vs.toArray 0)).push (seqObj "list" #[] 0)) vs ps:=t.imp λv p x=>x.kept (old _)
  refine qwb (zur (s:={ s with heap:=_ }) t' (by omega) ?_)
  refine qwb (wpAny_mono (kat_run (ks:=vs) (vs:=vs) (κ:=tuples' true) (E:=E) (Q:=λst s'=>s' = { s with heap:=((s.heap.update a (Obj.mapSeq λ_=>(#[]:Array Value))).push (seqObj "tuple" vs.toArray 0)).push (seqObj "list" #[] 0) }/\∃q:Array Nat,Pm ps.length q/\Up (rk ps) q ps.length/\arrOf st=q.map (kas_item (vs.toArray.zip vs.toArray))/\failedOf st=none)
   (G:=λq s'=>s' = { s with heap:=((s.heap.update a (Obj.mapSeq λ_=>(#[]:Array Value))).push (seqObj "tuple" vs.toArray 0)).push (seqObj "list" #[] 0) }/\Pm ps.length q/\Up (rk ps) q ps.length) rfl (by omega) (by omega) (λp st' s' a1 a2 a3 a4=>⟨a4.1,p,a4.2.1,a4.2.2,a2,a3⟩) ?_) ?_ λ_ _ e=>e)
  ·rw [hl]
   refine (sort (zut nd) (by omega)).wp (λi j C hi hj hC=>?_) λq hq=>⟨rfl,hq⟩
   refine zus (p:=ps.getD i (0,0)) (q:=ps.getD j (0,0)) (t'.get hi) (t'.get hj) ?_
   rw [<-zjw hi hj]
   exact hC
  ·rintro ⟨⟨⟩,st⟩ s' ⟨rfl,q,hq,hu,ha,hf⟩
   have hout:=kat_snds (ks:=vs) (vs:=vs) rfl ha
   refine done _ st hout hf (by rw [List.size_toArray,qlm,Array.length_toList,hq.size,hl]) ?_
   have eo:=zuy nd hq hu
   rw [<-eo]
   show TR R0 (q.toList.map λi=>vs.getD i Value.none) _
   have gen:∀l:List Nat,(∀i∈l,i<ps.length)->TR R0 (l.map λi=>vs.getD i Value.none) (l.map λi=>ps.getD i (0,0)):=λl=>by
    induction l with
    | nil=>intro _;exact .nil
    | cons i l ih=>intro hm;exact   .cons (t0.get (hm i (by simp))) (ih λk hk=>hm k (by simp [hk]))
   refine gen _ λi hi=>?_
   have:=(Array.perm_iff_toList_perm.mp hq).mem_iff (a:=i)
   simpa using this.mp hi
end
end SP
namespace L2
open PySem PySem.Spec PyProof.Rows
abbrev Key:=Sum Int Str
noncomputable def zgy:Key->Value->Bool
 | .inl k,v=>Value.isInt k v
 | .inr x,v=>Value.isStrOf x v
noncomputable def zu0 (w:World):Key->Int
 | .inl k=>hashInt k
 | .inr x=>hashStr w x
theorem zek:∀{k:Key}{v:Value},zgy k v=true->(∃i t,k=Sum.inl i/\v=Value.int i t)\/(∃x t,k=Sum.inr x/\v=Value.str x t)
 | .inl i,v,h=>by
  obtain ⟨t,e⟩:=Value.isInt_shape (k:=i) (v:=v) h
  exact .inl ⟨i,t,rfl,e⟩
 | .inr x,v,h=>by
  obtain ⟨t,e⟩:=Value.isStrOf_shape (x:=x) (v:=v) h
  exact .inr ⟨x,t,rfl,e⟩
theorem zu1 (i:Int) (t:Tok):zgy (.inl i) (.int i t)=true:=by simp [zgy,Value.isInt]
theorem zu2 (x:Str) (t:Tok):zgy (.inr x) (.str x t)=true:=by simp [zgy,Value.isStrOf]
theorem zu3 (a b:Int):decide ((Sum.inl a:Key)=Sum.inl b)=(a == b):=by
 by_cases e:a=b
 ·subst e;simp
 ·have h:¬(Sum.inl a:Key)=Sum.inl b:=λq=>e (Sum.inl.inj q)
  rw [decide_eq_false h]
  exact (beq_eq_false_iff_ne.mpr e).symm
theorem zu4 (a b:Str):decide ((Sum.inr a:Key)=Sum.inr b)=decide (a=b):=by
 by_cases e:a=b
 ·subst e;simp
 ·have h:¬(Sum.inr a:Key)=Sum.inr b:=λq=>e (Sum.inr.inj q)
  rw [decide_eq_false h,decide_eq_false e]
theorem zu5 (a:Int) (b:Str):decide ((Sum.inl a:Key)=Sum.inr b)=false:=decide_eq_false (λq=>nomatch q)
theorem zu6 (a:Str) (b:Int):decide ((Sum.inr a:Key)=Sum.inl b)=false:=decide_eq_false (λq=>nomatch q)
noncomputable def zc0 (prog:Program) (w:World):PySem.KeyKind prog w Key where
 is:=zgy
 hash:=zu0 w
 inj:=λv a b ha hb=>by
  rcases zek ha with ⟨i,t,rfl,rfl⟩|⟨x,t,rfl,rfl⟩
  ·rcases zek hb with ⟨j,u,rfl,e⟩|⟨y,u,rfl,e⟩
   ·injection e with e1 _;rw [e1]
   ·exact nomatch e
  ·rcases zek hb with ⟨j,u,rfl,e⟩|⟨y,u,rfl,e⟩
   ·exact nomatch e
   ·injection e with e1 _;rw [e1]
 byValue:=λk v h=>by
  rcases zek h with ⟨i,t,rfl,rfl⟩|⟨x,t,rfl,rfl⟩ <;> rfl
 pyHash:=λhv h=>by
  rcases zek hv with ⟨i,t,rfl,rfl⟩|⟨x,t,rfl,rfl⟩
  ·exact wpAny_pyHash_int h
  ·exact wpAny_pyHash_str h
 eqBool:=λhu hv h=>by
  rcases zek hu with ⟨i,t,rfl,rfl⟩|⟨x,t,rfl,rfl⟩
  ·rcases zek hv with ⟨j,u,rfl,rfl⟩|⟨y,u,rfl,rfl⟩
   ·rw [zu3] at h;exact wpAny_eqBool_int h
   ·rw [zu5] at h;exact SeqAt.EqAt.int_str i t y u _ _ _ _ h
  ·rcases zek hv with ⟨j,u,rfl,rfl⟩|⟨y,u,rfl,rfl⟩
   ·rw [zu6] at h;exact SeqAt.EqAt.str_int x t j u _ _ _ _ h
   ·rw [zu4] at h;exact wpAny_eqBool_str h
 «strs»:=λk x t v h=>by
  rcases zek h with ⟨i,u,rfl,e⟩|⟨y,u,rfl,e⟩
  ·exact nomatch e
  ·injection e with e1 _
   subst e1
   cases v <;> rfl
theorem zob (prog:Program) (w:World) (i:Int) (t:Tok):(zc0 prog w).is (.inl i) (.int i t)=true:=zu1 i t
theorem zu7 (prog:Program) (w:World) (x:Str) (t:Tok):(zc0 prog w).is (.inr x) (.str x t)=true:=zu2 x t
inductive V where
 | non|bl (b:Bool)|int (i:Int)|str (x:Str)|byt (b:Array UInt8)|flt (b:UInt64)|ref (a:Addr)|ty (n:String)
 deriving DecidableEq
def RelV:V->Value->Prop
 | .non,u=>u=Value.none
 | .bl b,u=>u=Value.bool b
 | .int i,u=>∃t,u=Value.int i t
 | .str x,u=>∃t,u=Value.str x t
 | .byt b,u=>∃t,u=Value.bytes b t
 | .flt b,u=>∃t,u=Value.float b t
 | .ref a,u=>u=Value.ref a
 | .ty n,u=>u=Value.type n
abbrev Vals:List V->List Value->Prop:=Paired RelV
theorem Vals.length {xs:List V}{us:List Value}(r:Vals xs us):xs.length=us.length:=Paired.length r
theorem Vals.get:∀{xs:List V}{us:List Value}{i:Nat}{x:V},Vals xs us->xs[i]? = some x->∃u,us[i]? = some u/\RelV x u
 | _,_,_,_,.nil,e=>by simp at e
 | _,_,0,_,.cons r _,e=>by simp at e;subst e;exact ⟨_,rfl,r⟩
 | _,_,i+1,x,.cons _ t,e=>by
  obtain ⟨u,h1,h2⟩:=Vals.get (i:=i) (x:=x) t (by simpa using e)
  exact ⟨u,by simpa using h1,h2⟩
theorem Vals.set {x:V}{u:Value}(r:RelV x u):∀{xs:List V}{us:List Value}(i:Nat),Vals xs us->Vals (xs.set i x) (us.set i u)
 | _,_,_,.nil=>.nil
 | _,_,0,.cons _ t=>.cons r t
 | _,_,i+1,.cons q t=>.cons q (Vals.set r i t)
theorem Vals.append:∀{xs ys:List V}{us ws:List Value},Vals xs us->Vals ys ws->Vals (xs++ys) (us++ws)
 | _,_,_,_,.nil,s=>s
 | _,_,_,_,.cons r t,s=>.cons r (Vals.append t s)
theorem Vals.take:∀{xs:List V}{us:List Value}(n:Nat),Vals xs us->Vals (xs.take n) (us.take n)
 | _,_,0,_=>.nil
 | _,_,_+1,.nil=>.nil
 | _,_,n+1,.cons r t=>.cons r (Vals.take n t)
theorem Vals.drop:∀{xs:List V}{us:List Value}(n:Nat),Vals xs us->Vals (xs.drop n) (us.drop n)
 | _,_,0,r=>r
 | _,_,_+1,.nil=>.nil
 | _,_,n+1,.cons _ t=>Vals.drop n t
def RelO:Option V->Option Value->Prop
 | some v,some u=>RelV v u
 | none,none=>True
 | _,_=>False
def KV {κ:Type}:List (κ × V)->List (κ × Value)->Prop:=Paired λ(p:κ × V) (q:κ × Value)=>p.1=q.1/\RelV p.2 q.2
noncomputable def kV:Key->V
 | .inl i=>.int i
 | .inr x=>.str x
inductive HO where
 | lst (xs:List V)
 | tup (xs:List V)
 | dK (kvs:List (Key × V))|dT (kvs:List (List Key × V))
 | set (S:Int->Bool) (n:Nat)
 | ins (C dx:Addr) (fs:List (Str × V))
 | own (x:Addr)
 | xd (fs:List (Str × V))
 | met (f x:Addr)
 | rng (lo hi:Int)
 | frz (o:Obj) (u:HO)
 | tbl (ps:Array Value)
 | ext (φ:Heap->Prop)
abbrev Hp:=Addr->Option HO
noncomputable def upd (H:Hp) (a:Addr) (o:HO):Hp:=λb=>if b=a then some o else H b
theorem zbw {H:Hp}{a:Addr}{o:HO}:upd H a o a=some o:=by unfold upd;rw [if_pos rfl]
theorem zap {H:Hp}{a b:Addr}{o:HO}(h:b≠a):upd H a o b=H b:=by unfold upd;rw [if_neg h]
theorem zd7 {H:Hp}{a b:Addr}{o u:HO}(h:H a=some o) (h':H b=some u) (d:o≠u):a≠b:=by
 intro e;subst e;rw [h] at h';exact d (qoi h')
theorem zbd {H:Hp}{a b:Addr}{o:HO}(h:H a=some o) (h':H b=none):a≠b:=by
 intro e;subst e;rw [h] at h';cases h'
def IsTD (h:Heap) (a:Addr) (items:Array Value):Prop:=∃o,h.get? a=some o/\o.cls=.type "tuple"/\∃n,o.data=.seq items n/\o.dict=none
theorem IsTD.tup {h:Heap}{a:Addr}{items:Array Value}(x:IsTD h a items):IsTup h a items:=by
 obtain ⟨o,e,c,n,d,_⟩:=x
 exact ⟨o,e,c,n,d⟩
theorem IsTD.new (h:Heap) (items:Array Value):IsTD (h.push { cls:=.type "tuple",data:=.seq items }) h.objs.size items:=⟨_,Heap.get?_push_size _ rfl,rfl,_,rfl,rfl⟩
section
variable (P:Program) (w:World)
def ObjOk (H:Hp) (h:Heap) (a:Addr):HO->Prop
 | .lst xs=>xs.length<=sizeLine/\∃(its:List Value) (n:Nat),Vals xs its/\h.get? a=some { cls:=.type "list",data:=.seq its.toArray n }
 | .tup xs=>xs.length<=sizeLine/\∃its:List Value,Vals xs its/\IsTD h a its.toArray
 | .dK kvs=>kvs.length<=sizeLine/\(a == sysModules)=false/\∃vs,KV kvs vs/\h.DictOf (zc0 P w) a vs
 | .dT kvs=>kvs.length<=sizeLine/\(a == sysModules)=false/\∃xs:List (List Key × Addr × Value),
   Paired (λ(p:List Key × V) (q:List Key × Addr × Value)=>p.1=q.1/\H q.2.1=some (.tup (p.1.map kV))/\RelV p.2 q.2.2) kvs xs /\
   ∃o es ep,h.get? a=some o/\o.ExactDict/\o.data=.dict es ep/\es.toList=xs.map (entryOfKey (tupleKind (zc0 P w)))/\(xs.map (·.1)).Nodup
 | .set S n=>h.SetOf (intKind P w) a S n
 | .ins C dx fs=>H dx=some (.own a)/\fs.length<=1000/\dx≠a/\h.get? a=some (PySem.W.instObj C dx) /\
   ∃mA,h.Ns1 dx mA/\(∀f,RelO (fs.lookup f) (mA f))/\PySem.Within mA (fs.map (·.1))
 | .own _=>∃o,h.get? a=some o
 | .xd fs=>∃mA,h.Ns1 a mA/\∀f,RelO (fs.lookup f) (mA f)
 | .rng lo hi=>∃t u v,h.get? a=some { cls:=.type "range",data:=.fields #[.int lo t,.int hi u,.int 1 v] }
 | .frz o u=>h.get? a=some o/\ObjOk H h a u
 | .tbl ps=>h.get? a=some { cls:=.none,data:=.fields ps }
 | .met f x=>h.get? a=some (PySem.W.methodObj (.ref f) (.ref x))
 | .ext φ=>φ h/\(∃o,h.get? a=some o)/\∀h1 h2:Heap,φ h1->(∀o,h1.get? a=some o->h2.get? a=some o)->φ h2
def HOk (H:Hp) (h:Heap):Prop:=∀a o,H a=some o->ObjOk P w H h a o
end
section
variable {P:Program}{w:World}{H H':Hp}{h h':Heap}{a:Addr}{o:HO}
theorem ObjOk.lt (x:ObjOk P w H h a o):a<h.objs.size:=by
 cases o with
 | lst xs=>obtain ⟨_,_,_,_,e⟩:=x;exact Heap.lt_size e
 | tup xs=>obtain ⟨_,_,_,p⟩:=x;exact p.tup.lt
 | dK kvs=>obtain ⟨_,_,_,_,o,_,_,e,_⟩:=x;exact Heap.lt_size e
 | dT kvs=>obtain ⟨_,_,_,_,o,_,_,e,_⟩:=x;exact Heap.lt_size e
 | set S n=>obtain ⟨o,_,_,_,e,_⟩:=x;exact Heap.lt_size e
 | ins C dx fs=>obtain ⟨_,_,_,e,_⟩:=x;exact Heap.lt_size e
 | own y=>obtain ⟨_,e⟩:=x;exact Heap.lt_size e
 | xd fs=>obtain ⟨_,⟨_,_,_,e,_⟩,_⟩:=x;exact Heap.lt_size e
 | rng lo hi=>obtain ⟨_,_,_,e⟩:=x;exact Heap.lt_size e
 | frz ob u=>obtain ⟨e,_⟩:=x;exact Heap.lt_size e
 | tbl ps=>exact Heap.lt_size (show h.get? a=some _ from x)
 | met f y=>exact Heap.lt_size (show h.get? a=some _ from x)
 | ext φ=>obtain ⟨_,⟨_,e⟩,_⟩:=x;exact Heap.lt_size e
theorem Paired.mapP {α β:Type}{F G:α->β->Prop}:∀{l₁:List α}{l₂:List β},Paired F l₁ l₂->(∀a b,F a b->G a b)->Paired G l₁ l₂
 | _,_,.nil,_=>.nil
 | _,_,.cons r t,f=>.cons (f _ _ r) (Paired.mapP t f)
theorem ObjOk.stay (x:ObjOk P w H h a o) (k:∀b u,(b=a\/H b=some (.own a))->h.get? b=some u->h'.get? b=some u)
  (ho:∀b,H b=some (.own a)->H' b=some (.own a)) (ht:∀b xs,H b=some (.tup xs)->H' b=some (.tup xs)):ObjOk P w H' h' a o:=by
 induction o with
 | lst xs=>obtain ⟨z,its,n,r,e⟩:=x;exact ⟨z,its,n,r,k _ _ (.inl rfl) e⟩
 | tup xs=>obtain ⟨z,its,r,ob,e,c⟩:=x;exact ⟨z,its,r,ob,k _ _ (.inl rfl) e,c⟩
 | dK kvs=>obtain ⟨z,y,vs,r,ob,es,ep,e,c⟩:=x;exact ⟨z,y,vs,r,ob,es,ep,k _ _ (.inl rfl) e,c⟩
 | dT kvs =>
  obtain ⟨z,y,xs,r,ob,es,ep,e,c⟩:=x
  exact ⟨z,y,xs,Paired.mapP r λp q z=>⟨z.1,ht _ _ z.2.1,z.2.2⟩,ob,es,ep,k _ _ (.inl rfl) e,c⟩
 | set S n=>obtain ⟨ob,es,ep,t,e,c⟩:=x;exact ⟨ob,es,ep,t,k _ _ (.inl rfl) e,c⟩
 | ins C dx fs =>
  obtain ⟨d,z,ne,e,mA,⟨od,es,ep,e2,c⟩,r⟩:=x
  exact ⟨ho _ d,z,ne,k _ _ (.inl rfl) e,mA,⟨od,es,ep,k _ _ (.inr d) e2,c⟩,r⟩
 | own y=>obtain ⟨ob,e⟩:=x;exact ⟨ob,k _ _ (.inl rfl) e⟩
 | xd fs=>obtain ⟨mA,⟨od,es,ep,e,c⟩,r⟩:=x;exact ⟨mA,⟨od,es,ep,k _ _ (.inl rfl) e,c⟩,r⟩
 | rng lo hi=>obtain ⟨t,u,v,e⟩:=x;exact ⟨t,u,v,k _ _ (.inl rfl) e⟩
 | frz ob u ih=>obtain ⟨e,q⟩:=x;exact ⟨k _ _ (.inl rfl) e,ih q⟩
 | tbl ps =>
  have e:h.get? a=some { cls:=.none,data:=.fields ps }:=x
  show h'.get? a=some { cls:=.none,data:=.fields ps }
  exact k a _ (.inl rfl) e
 | met f y =>
  have e:h.get? a=some (PySem.W.methodObj (.ref f) (.ref y)):=x
  show h'.get? a=some (PySem.W.methodObj (.ref f) (.ref y))
  exact k a _ (.inl rfl) e
 | ext φ=>obtain ⟨p,⟨o,e⟩,st⟩:=x;exact ⟨st _ _ p λo q=>k _ _ (.inl rfl) q,⟨o,k _ _ (.inl rfl) e⟩,st⟩
theorem HOk.lt (x:HOk P w H h) (e:H a=some o):a<h.objs.size:=(x a o e).lt
theorem HOk.fresh (x:HOk P w H h) (e:h.objs.size<=a):H a=none:=by
 cases q:H a with
 | none=>rfl
 | some u=>exact absurd (Nat.lt_of_lt_of_le (x.lt q) e) (Nat.lt_irrefl _)
theorem HOk.kept (x:HOk P w H h) (k:∀b u,h.get? b=some u->h'.get? b=some u):HOk P w H h':=λa o e =>
 (x a o e).stay (λb u _ q=>k b u q) (λ_ q=>q) λ_ _ q=>q
theorem HOk.laid (x:HOk P w H h) (k:∀b u,h.get? b=some u->h'.get? b=some u) (hp:h.objs.size<=a) (new:ObjOk P w (upd H a o) h' a o):HOk P w (upd H a o) h':=λb u e=>by
 have hn:=x.fresh hp
 by_cases hb:b=a
 ·subst hb;rw [zbw] at e;cases e;exact new
 ·rw [zap hb] at e
  exact (x b u e).stay (λc v _ q=>k c v q) (λc q=>by rw [zap (zbd q hn)];exact q) λc xs q=>by rw [zap (zbd q hn)];exact q
end
def Rd (H:Hp) (a:Addr) (u:HO):Prop:=H a=some u\/∃o,H a=some (.frz o u)
theorem Rd.ok {P:Program}{w:World}{H:Hp}{h:Heap}{a:Addr}{u:HO}(r:Rd H a u) (x:HOk P w H h):ObjOk P w H h a u:=by
 rcases r with r|⟨o,r⟩
 ·exact x a u r
 ·obtain ⟨_,q⟩:=x a _ r
  exact q
def Mut:Option HO->Prop
 | some (.lst _)=>True
 | some (.dK _)=>True
 | some (.dT _)=>True
 | some (.set _ _)=>True
 | some (.ins _ _ _)=>True
 | some (.ext _)=>True
 | _=>False
section
variable {P:Program}{w:World}{H:Hp}{h h':Heap}{x e:Addr}{o':HO}
theorem HOk.write (ok:HOk P w H h) (mu:Mut (H x)) (he:e=x\/H e=some (.own x)) (k:∀b u,b≠e->h.get? b=some u->h'.get? b=some u) (heo:∃u,h'.get? e=some u)
  (new:ObjOk P w (upd H x o') h' x o'):HOk P w (upd H x o') h':=λb u q=>by
 have nown:∀c y,H c=some (.own y)->c≠x:=λc y r z=>by subst z;rw [r] at mu;exact mu
 have ntup:∀c xs,H c=some (.tup xs)->c≠x:=λc xs r z=>by subst z;rw [r] at mu;exact mu
 by_cases hb:b=x
 ·subst hb;rw [zbw] at q;cases q;exact new
 ·rw [zap hb] at q
  by_cases hbe:b=e
  ·have q':H b=some (.own x):=by
    rcases he with z|z
    ·exact absurd (hbe.trans z) hb
    ·rw [hbe];exact z
   rw [q] at q';cases q'
   obtain ⟨v,hv⟩:=heo
   exact ⟨v,by rw [hbe];exact hv⟩
  ·refine (ok b u q).stay (λc v hc r=>k c v ?_ r) (λc r=>by rw [zap (nown c b r)];exact r) λc xs r=>by rw [zap (ntup c xs r)];exact r
   rcases hc with rfl|hc
   ·exact hbe
   ·rintro rfl
    rcases he with z|z
    ·exact nown c b hc z
    ·rw [hc] at z;cases z;exact hb rfl
end
structure Un (fs ex:List Addr) (H H':Hp) (h h':Heap):Prop where
 keep:∀b o,h.get? b=some o->H b=none->b ∉ fs->b ∉ ex->h'.get? b=some o
 slot:∀b o,h.get? b=some o->H b=none->b∈fs->b ∉ ex->∃sl,h'.get? b=some { o with slots:=sl }
 free:∀b o,h.get? b=some o->H b=none->b ∉ ex->H' b=none
 there:∀b o,h.get? b=some o->b ∉ ex->∃o',h'.get? b=some o'
 tups:∀b xs,H b=some (.tup xs)->H' b=some (.tup xs)
 frzs:∀b o u,H b=some (.frz o u)->H' b=some (.frz o u)
 tbls:∀b ps,H b=some (.tbl ps)->∃more,H' b=some (.tbl (ps++more))
section
variable {fs fs' ex ex':List Addr}{H H1 H2:Hp}{h h1 h2 h':Heap}{a x e:Addr}{o:HO}
theorem Un.any (u:Un fs ex H H1 h h1) {b:Addr}{ob:Obj}(q:h.get? b=some ob) (n:H b=none) (hx:b ∉ ex):∃sl,h1.get? b=some { ob with slots:=sl }:=by
 by_cases hb:b∈fs
 ·exact u.slot b ob q n hb hx
 ·exact ⟨ob.slots,u.keep b ob q n hb hx⟩
theorem Un.kept (k:∀b u,h.get? b=some u->h'.get? b=some u):Un fs ex H H h h' :=
 ⟨λb ob q _ _ _=>k b ob q,λb ob q _ _ _=>⟨ob.slots,k b ob q⟩,λ_ _ _ n _=>n,λb ob q _=>⟨ob,k b ob q⟩,λ_ _ q=>q,λ_ _ _ q=>q,λ_ ps q=>⟨#[],by rw [q];simp⟩⟩
theorem Un.refl:Un fs ex H H h h:=Un.kept λ_ _ q=>q
theorem Un.laid (k:∀b u,h.get? b=some u->h'.get? b=some u) (hp:h.objs.size<=a) (hn:H a=none):Un fs ex H (upd H a o) h h' where
 keep:=λb u q _ _ _=>k b u q
 slot:=λb u q _ _ _=>⟨u.slots,k b u q⟩
 free:=λb u q n _=>by rw [zap (Nat.ne_of_lt (Nat.lt_of_lt_of_le (Heap.lt_size q) hp))];exact n
 there:=λb u q _=>⟨u,k b u q⟩
 tups:=λb xs q=>by rw [zap (zbd q hn)];exact q
 frzs:=λb u xs q=>by rw [zap (zbd q hn)];exact q
 tbls:=λb ps q=>⟨#[],by rw [zap (zbd q hn),q];simp⟩
theorem Un.write (mu:Mut (H x)) (he:e=x\/H e=some (.own x)) (k:∀b u,b≠e->h.get? b=some u->h'.get? b=some u) (heo:∃u,h'.get? e=some u):Un fs ex H (upd H x o) h h':=by
 have hx:∀b,H b=none->b≠x:=λb n z=>by subst z;rw [n] at mu;exact mu
 have hb:∀b,H b=none->b≠e:=λb n z=>by
  subst z
  rcases he with r|r
  ·exact hx b n r
  ·rw [n] at r;cases r
 have hm:∀b u,H b=some u->¬Mut (some u)->b≠x:=λb u q nm z=>by subst z;rw [q] at mu;exact nm mu
 refine ⟨λb u q n _ _=>k b u (hb b n) q,λb u q n _ _=>⟨u.slots,k b u (hb b n) q⟩,λb u q n _=>by rw [zap (hx b n)];exact n,λb u q _=>?_,
  λb xs q=>by rw [zap (hm b _ q λz=>z)];exact q,λb u xs q=>by rw [zap (hm b _ q λz=>z)];exact q,λb ps q=>⟨#[],by rw [zap (hm b _ q λz=>z),q];simp⟩⟩
 by_cases hbe:b=e
 ·subst hbe;exact heo
 ·exact ⟨u,k b u hbe q⟩
end
noncomputable def trk (h:Heap) (H:Hp):List Addr:=(List.range h.objs.size).filter λa=>(H a).isSome
noncomputable def zel (h:Heap) (H:Hp):Heap:=PySem.W.hideAll h (trk h H)
theorem zu8 (h:Heap) (H:Hp):(zel h H).objs.size=h.objs.size:=PySem.W.hideAll_size _ _
theorem zu9 {h:Heap}{H:Hp}{b:Addr}{o:Obj}(e:h.get? b=some o) (n:H b=none):(zel h H).get? b=some o :=
 PySem.W.hideAll_get _ e λhm=>by
  have q:(H b).isSome=true:=(List.mem_filter.mp hm).2
  rw [n] at q;simp at q
theorem zva {h:Heap}{H:Hp}{b:Addr}{o:Obj}(e:(zel h H).get? b=some o):h.get? b=some o/\H b=none:=by
 have e':h.get? b=some o:=PySem.W.of_hideAll (trk h H) e
 refine ⟨e',?_⟩
 cases q:H b with
 | none=>rfl
 | some x =>
  have hm:b∈trk h H:=List.mem_filter.mpr ⟨List.mem_range.mpr (Heap.lt_size e'),by simp [q]⟩
  have z:(zel h H).get? b=none:=PySem.W.hideAll_none (trk h H) hm
  rw [z] at e;cases e
noncomputable def zvb (g h:Heap) (L:Addr):List (Addr × Obj):=(List.range h.objs.size).filterMap λa=>if a=L\/(g.get? a).isSome=true then none else (h.get? a).map λo=>(a,o)
noncomputable def rest (g h:Heap) (L d:Addr):List (Addr × Obj):=(zvb g h L).filter λp=>decide (p.1≠d)
structure Mod (K:QFg) (mg:Str->Option Value) (base:Heap):Prop where
 kin:K.In base
 glob:base.Ns mainGlobals mg
 blt:∃mb,base.Ns builtinsNs mb/\∀x:Str,x≠"__name__"->mb x=bootBuiltins x
 nolimit:base.NoLimit
structure Cx where
 prog:Program
 w:World
 K:QFg
 mg:Str->Option Value
 base:Heap
 A:Around
 N:List Str
 s₀:Shared
 H₀:Hp
 env:Env
 outer:List Env
 stack:List Env
 ex:List Addr
 fn:Str->Bool
 calm:Bool
 pn:List (Addr × Obj)
 xe:Value->Shared->Prop
noncomputable def frs (l:List Env):List Addr:=l.filterMap (·.frame)
noncomputable abbrev Cx.fs (X:Cx):List Addr:=frs X.outer
def Vis (sc:Scope) (x:Str):Prop:=sc.names.lookup x=some .local\/sc.names.lookup x=some .cell\/sc.names.lookup x=some .free
def Loc (sc:Scope) (x:Str):Prop:=sc.names.lookup x=some .local\/sc.names.lookup x=some .cell
def zvc (env:Env) (h:Heap) (m:Str->Option Value) (x:Str) (u:Value):Prop :=
 (env.kindOf x=some .local/\m x=some u)\/((env.kindOf x=some .cell\/env.kindOf x=some .free)/\∃c,env.cells.lookup x=some c/\h.IsCell c (some u))
structure Cx.Ok (X:Cx):Prop where
 mod:Mod X.K X.mg X.base
 kind:X.env.scope.kind=.function
 glob:X.env.globals=mainGlobals
 blt:X.env.builtins=builtinsNs
 above:X.s₀.heap.objs.size<=X.env.locals
 inj:∀x y c,X.env.cells.lookup x=some c->X.env.cells.lookup y=some c->x=y
 has:∀x,(X.env.kindOf x=some .cell\/X.env.kindOf x=some .free)->∃c,X.env.cells.lookup x=some c
 cab:∀x c,X.fn x=true->X.env.cells.lookup x=some c->X.s₀.heap.objs.size<=c
 hd:X.calm=true->X.A.handled=none
 frames:X.A.frames=some X.stack
 stk:X.stack=X.outer\/(X.stack=X.env :: X.outer/\X.env.frame=some X.env.locals)
 exf:∀b∈X.ex,b≠X.env.locals/\∀x c,X.env.cells.lookup x=some c->c≠b
 bs:∀b o,X.base.get? b=some o->X.s₀.heap.get? b=some o/\X.H₀ b=none
 bsz:X.base.objs.size<=X.s₀.heap.objs.size
 noex:∀b o,X.base.get? b=some o->b ∉ X.ex
 exfs:∀b∈X.ex,b ∉ X.fs
 funs:X.s₀.heap.FunFrames X.base X.outer
 frf:∀b∈X.fs,X.H₀ b=none
structure Inv (X:Cx) (pins:List (Addr × Obj)) (σ:List (Option V)) (H:Hp) (s:Shared):Prop where
 ok:X.Ok
 os:s.os=X.s₀.os
 bare:AllBare s.gens
 base:Un X.fs X.ex X.H₀ H X.s₀.heap s.heap
 loc:∃m,s.heap.Ns X.env.locals m/\∀(i:Nat) (x:Str) (v:V),X.N[i]? = some x->σ[i]? = some (some v)->Vis X.env.scope x->∃u,RelV v u/\zvc X.env s.heap m x u
 cell:∀x c,X.env.cells.lookup x=some c->∃v,s.heap.IsCell c v
 free:H X.env.locals=none
 freeC:∀x c,X.env.cells.lookup x=some c->H c=none
 pin:∀p∈X.pn++pins,s.heap.get? p.1=some p.2/\H p.1=none/\p.1≠X.env.locals/\p.1 ∉ X.fs/\∀v,p.2.data≠.cell v
 hok:HOk X.prog X.w H s.heap
 len:σ.length=X.N.length
section
variable {X:Cx}{pins:List (Addr × Obj)}{σ:List (Option V)}{H H':Hp}{s:Shared}{h':Heap}
theorem Cx.Ok.nofr (ok:X.Ok) {b:Addr}{o:Obj}(e:X.base.get? b=some o):b ∉ X.fs:=λhb=>by
 have:=(ok.funs.mem hb).1
 rw [e] at this;cases this
theorem Inv.bs (I:Inv X pins σ H s):∀b o,X.base.get? b=some o->s.heap.get? b=some o/\H b=none:=λb o e =>
 ⟨I.base.keep b o (I.ok.bs b o e).1 (I.ok.bs b o e).2 (I.ok.nofr e) (I.ok.noex b o e),I.base.free b o (I.ok.bs b o e).1 (I.ok.bs b o e).2 (I.ok.noex b o e)⟩
theorem Inv.bk (I:Inv X pins σ H s):∀b o,X.base.get? b=some o->s.heap.get? b=some o:=λb o e=>(I.bs b o e).1
theorem Inv.mod (I:Inv X pins σ H s):Mod X.K X.mg X.base:=I.ok.mod
theorem Inv.kIn (I:Inv X pins σ H s):X.K.In s.heap:=I.ok.mod.kin.keeps I.bk
theorem Inv.lt (I:Inv X pins σ H s):X.env.locals<s.heap.objs.size:=let ⟨_,hn,_⟩:=I.loc;hn.lt
theorem Inv.sz (I:Inv X pins σ H s):X.s₀.heap.objs.size<=s.heap.objs.size:=Nat.le_trans I.ok.above (Nat.le_of_lt I.lt)
theorem Inv.nofs (I:Inv X pins σ H s) {a:Addr}(h:s.heap.objs.size<=a):a ∉ X.fs:=λhb=>by
 obtain ⟨_,o,ho,_⟩:=I.ok.funs.mem hb
 exact absurd (Nat.lt_of_lt_of_le (Heap.lt_size ho) (Nat.le_trans I.sz h)) (Nat.lt_irrefl _)
theorem Inv.cne (I:Inv X pins σ H s):∀x c,X.env.cells.lookup x=some c->c≠X.env.locals:=λx c e z=>by
 obtain ⟨v,o,ho,hd⟩:=I.cell x c e
 obtain ⟨m,⟨o',es,ep,ho',hd',_⟩,_⟩:=I.loc
 rw [z,ho'] at ho;cases ho;rw [hd'] at hd;cases hd
theorem Inv.funs (I:Inv X pins σ H s):s.heap.FunFrames X.base X.outer:=by
 have all:∀(l:List Env),(∀b∈frs l,b∈X.fs)->X.s₀.heap.FunFrames X.base l->s.heap.FunFrames X.base l:=by
  intro l
  induction l with
  | nil=>intro _ _;trivial
  | cons env r ih =>
   intro hs hl
   obtain ⟨hk,⟨L,o,hf,hn,ho,hd⟩,hr⟩:=hl
   have hL:L∈X.fs:=hs L (by unfold frs;rw [List.filterMap_cons,hf];exact List.mem_cons_self)
   obtain ⟨sl,e⟩:=I.base.slot L o ho (I.ok.frf L hL) hL λz=>I.ok.exfs L z hL
   exact ⟨hk,⟨L,_,hf,hn,e,hd⟩,ih (λb hb=>hs b (by unfold frs;rw [List.filterMap_cons,hf];exact List.mem_cons_of_mem _ hb)) hr⟩
 exact all X.outer (λ_ hb=>hb) I.ok.funs
theorem Inv.stack (I:Inv X pins σ H s):s.heap.FunFrames X.base X.stack:=by
 rcases I.ok.stk with e|⟨e,hf⟩
 ·rw [e];exact I.funs
 ·rw [e]
  obtain ⟨m,hn,_⟩:=I.loc
  refine .cons (by rw [I.ok.kind];decide) hf hn ?_ I.funs
  exact Heap.get?_none_of_le (Nat.le_trans I.ok.bsz I.ok.above)
theorem Inv.stkSub (I:Inv X pins σ H s):∀b∈frs X.stack,b∈X.env.locals :: X.fs:=λb hb=>by
 rcases I.ok.stk with e|⟨e,hf⟩
 ·rw [e] at hb;exact List.mem_cons_of_mem _ hb
 ·rw [e] at hb
  unfold frs at hb
  rw [List.filterMap_cons,hf] at hb
  exact hb
theorem Inv.stkFree (I:Inv X pins σ H s):∀b∈frs X.stack,H b=none:=λb hb=>by
 rcases List.mem_cons.mp (I.stkSub b hb) with e|hb
 ·rw [e];exact I.free
 ·obtain ⟨_,o,ho,_⟩:=I.ok.funs.mem hb
  exact I.base.free b o ho (I.ok.frf b hb) λz=>I.ok.exfs b z hb
theorem Inv.step {g':Array GenState}{t':Nat}{d':Drawn}{ch:List Addr}(I:Inv X pins σ H s)
  (hch:∀b∈ch,(b∈X.ex\/X.s₀.heap.objs.size<=b)/\b≠X.env.locals/\(∀x c,X.env.cells.lookup x=some c->c≠b)/\∀p∈X.pn++pins,p.1≠b)
  (keep:∀b o,b≠X.env.locals->b ∉ X.fs->b ∉ ch->s.heap.get? b=some o->H b=none->h'.get? b=some o)
  (slot:∀b o,b≠X.env.locals->b∈X.fs->b ∉ ch->s.heap.get? b=some o->H b=none->∃sl,h'.get? b=some { o with slots:=sl }) (free:∀b o,b ∉ ch->s.heap.get? b=some o->H b=none->H' b=none)
  (there:∀b o,b ∉ ch->s.heap.get? b=some o->∃o',h'.get? b=some o')
  (tups:∀b xs,H b=some (.tup xs)->H' b=some (.tup xs)) (frzs:∀b o u,H b=some (.frz o u)->H' b=some (.frz o u)) (tbls:∀b ps,H b=some (.tbl ps)->∃more,H' b=some (.tbl (ps++more)))
  (ns:∀m,s.heap.Ns X.env.locals m->h'.Ns X.env.locals m) (hok:HOk X.prog X.w H' h') (hg:AllBare g') :
  Inv X pins σ H' { s with heap:=h',gens:=g',drawn:=d',toks:=t' }:=by
 have neL:∀b o,X.s₀.heap.get? b=some o->b≠X.env.locals:=λb o e=>Nat.ne_of_lt (Nat.lt_of_lt_of_le (Heap.lt_size e) I.ok.above)
 have neC:∀b o,X.s₀.heap.get? b=some o->b ∉ X.ex->b ∉ ch:=λb o e hx hb=>by
  rcases (hch b hb).1 with z|z
  ·exact hx z
  ·exact absurd (Nat.lt_of_lt_of_le (Heap.lt_size e) z) (Nat.lt_irrefl _)
 have cellK:∀x c,X.env.cells.lookup x=some c->∀v,s.heap.IsCell c v->h'.IsCell c v:=λx c e v hx1_=>by
  obtain ⟨o,ho,hd⟩:=hx1_
  have nch:c ∉ ch:=λz=>(hch c z).2.2.1 x c e rfl
  by_cases hc:c∈X.fs
  ·obtain ⟨sl,q⟩:=slot c o (I.cne x c e) hc nch ho (I.freeC x c e)
   exact ⟨_,q,hd⟩
  ·exact ⟨o,keep c o (I.cne x c e) hc nch ho (I.freeC x c e),hd⟩
 refine ⟨I.ok,I.os,hg,⟨λb o e n hb hx=>?_,λb o e n hb hx=>?_,λb o e n hx=>?_,λb o e hx=>?_,λb xs e=>tups b xs (I.base.tups b xs e),λb o xs e=>frzs b o xs (I.base.frzs b o xs e),λb ps e=>?_⟩,?_,λx c e=>?_,?_,λx c e=>?_,λp hp=>?_,hok,I.len⟩
 ·exact keep b o (neL b o e) hb (neC b o e hx) (I.base.keep b o e n hb hx) (I.base.free b o e n hx)
 ·obtain ⟨sl,e1⟩:=I.base.slot b o e n hb hx
  obtain ⟨sl',e2⟩:=slot b _ (neL b o e) hb (neC b o e hx) e1 (I.base.free b o e n hx)
  exact ⟨sl',e2⟩
 ·obtain ⟨o',e1⟩:=I.base.there b o e hx
  exact free b o' (neC b o e hx) e1 (I.base.free b o e n hx)
 ·obtain ⟨o',e1⟩:=I.base.there b o e hx
  exact there b o' (neC b o e hx) e1
 ·obtain ⟨m1,e1⟩:=I.base.tbls b ps e
  obtain ⟨m2,e2⟩:=tbls b _ e1
  exact ⟨m1++m2,by rw [e2,Array.append_assoc]⟩
 ·obtain ⟨m,hn,hl⟩:=I.loc
  refine ⟨m,ns m hn,λi x v e1 e2 e3=>?_⟩
  obtain ⟨u,r,l⟩:=hl i x v e1 e2 e3
  refine ⟨u,r,?_⟩
  rcases l with l|⟨k,c,e,z⟩
  ·exact .inl l
  ·exact .inr ⟨k,c,e,cellK x c e _ z⟩
 ·obtain ⟨v,z⟩:=I.cell x c e
  exact ⟨v,cellK x c e v z⟩
 ·obtain ⟨m,⟨o,_,_,ho,_⟩,_⟩:=I.loc
  exact free _ o (λz=>(hch _ z).2.1 rfl) ho I.free
 ·obtain ⟨v,o,ho,hd⟩:=I.cell x c e
  exact free c o (λz=>(hch c z).2.2.1 x c e rfl) ho (I.freeC x c e)
 ·obtain ⟨e,n,ne,nf,d⟩:=I.pin p hp
  have nch:p.1 ∉ ch:=λz=>(hch p.1 z).2.2.2 p hp rfl
  exact ⟨keep p.1 p.2 ne nf nch e n,free p.1 p.2 nch e n,ne,nf,d⟩
theorem Inv.un {t':Nat}(I:Inv X pins σ H s) (u:Un X.fs [] H H' s.heap h') (hok:HOk X.prog X.w H' h'):Inv X pins σ H' { s with heap:=h',toks:=t' }:=by
 obtain ⟨m,⟨o,es,ep,ho,r⟩,_⟩:=id I.loc
 obtain ⟨sl,hL⟩:=u.any ho I.free (by simp)
 exact I.step (g':=s.gens) (d':=s.drawn) (ch:=[]) (λ_ z=>nomatch z) (λb o _ hb _ e n=>u.keep b o e n hb (by simp)) (λb o _ hb _ e n=>u.slot b o e n hb (by simp)) (λb o _ e n=>u.free b o e n (by simp)) (λb o _ e=>u.there b o e (by simp)) u.tups u.frzs u.tbls (λm' hm=>by
  obtain ⟨o',es',ep',ho',r'⟩:=hm
  rw [ho] at ho';cases ho'
  exact ⟨_,es',ep',hL,r'⟩) hok I.bare
theorem Inv.call {g':Array GenState}{t':Nat}{d':Drawn}{ch:List Addr}(I:Inv X pins σ H s) (u:Un (frs X.stack) ch H H' s.heap h') (hok:HOk X.prog X.w H' h') (hg:AllBare g')
  (hch:∀b∈ch,(b∈X.ex\/X.s₀.heap.objs.size<=b)/\b≠X.env.locals/\(∀x c,X.env.cells.lookup x=some c->c≠b)/\∀p∈X.pn++pins,p.1≠b) :
  Inv X pins σ H' { s with heap:=h',gens:=g',drawn:=d',toks:=t' }:=by
 obtain ⟨m,⟨o,es,ep,ho,r⟩,_⟩:=id I.loc
 obtain ⟨sl,hL⟩:=u.any ho I.free λz=>(hch _ z).2.1 rfl
 exact I.step (ch:=ch) hch (λb o hL hb hc e n=>u.keep b o e n (λz=>(List.mem_cons.mp (I.stkSub b z)).elim hL hb) hc) (λb o _ _ hc e n=>u.any e n hc) (λb o hc e n=>u.free b o e n hc) (λb o hc e=>u.there b o e hc) u.tups u.frzs u.tbls (λm' hm=>by
  obtain ⟨o',es',ep',ho',r'⟩:=hm
  rw [ho] at ho';cases ho'
  exact ⟨_,es',ep',hL,r'⟩) hok hg
theorem Inv.turned {t':Nat}{it:Addr}(I:Inv X pins σ H s) (k:∀b o,b≠it->s.heap.get? b=some o->h'.get? b=some o) (hn:H it=none) (hL:it≠X.env.locals)
  (h1:it∈X.ex\/X.s₀.heap.objs.size<=it) (h2:∀x c,X.env.cells.lookup x=some c->c≠it) (h3:∀p∈X.pn++pins,p.1≠it):Inv X pins σ H { s with heap:=h',toks:=t' }:=by
 have nit:∀b u,H b=some u->b≠it:=λb u e z=>by rw [z,hn] at e;cases e
 refine I.step (g':=s.gens) (d':=s.drawn) (ch:=[it]) (λb hb=>?_) (λb o _ _ hc e _=>k b o (λz=>hc (by simp [z])) e) (λb o _ _ hc e _=>⟨o.slots,k b o (λz=>hc (by simp [z])) e⟩) (λ_ _ _ _ n=>n)
  (λb o hc e=>⟨o,k b o (λz=>hc (by simp [z])) e⟩) (λ_ _ e=>e) (λ_ _ _ e=>e) (λb ps e=>⟨#[],by rw [e];simp⟩) (λm hm=>?_) (λb u e=>?_) I.bare
 ·have e:b=it:=by simpa using hb
  subst e
  exact ⟨h1,hL,h2,h3⟩
 ·obtain ⟨o,es,ep,ho,r⟩:=hm
  exact ⟨o,es,ep,k _ o (Ne.symm hL) ho,r⟩
 ·refine (I.hok b u e).stay (λc v hc q=>k c v ?_ q) (λ_ q=>q) λ_ _ q=>q
  rcases hc with z|z
  ·rw [z];exact nit b u e
  ·exact nit c _ z
theorem Inv.tok (I:Inv X pins σ H s) (t:Nat):Inv X pins σ H { s with toks:=t }:=I.un (h':=s.heap) (t':=t) Un.refl I.hok
theorem Inv.kept {t':Nat}(I:Inv X pins σ H s) (k:∀b u,s.heap.get? b=some u->h'.get? b=some u):Inv X pins σ H { s with heap:=h',toks:=t' }:=I.un (Un.kept k) (I.hok.kept k)
theorem Inv.laid {a:Addr}{o:HO}{t':Nat}(I:Inv X pins σ H s) (k:∀b u,s.heap.get? b=some u->h'.get? b=some u) (hp:s.heap.objs.size<=a) (new:ObjOk X.prog X.w (upd H a o) h' a o) :
  Inv X pins σ (upd H a o) { s with heap:=h',toks:=t' }:=I.un (Un.laid k hp (I.hok.fresh hp)) (I.hok.laid k hp new)
theorem Inv.write {x e:Addr}{o:HO}{t':Nat}(I:Inv X pins σ H s) (mu:Mut (H x)) (he:e=x\/H e=some (.own x)) (k:∀b u,b≠e->s.heap.get? b=some u->h'.get? b=some u) (heo:∃u,h'.get? e=some u)
  (new:ObjOk X.prog X.w (upd H x o) h' x o):Inv X pins σ (upd H x o) { s with heap:=h',toks:=t' }:=I.un (Un.write mu he k heo) (I.hok.write mu he k heo new)
theorem Inv.pins_of {pins':List (Addr × Obj)}(I:Inv X pins σ H s) (h:∀p∈pins',s.heap.get? p.1=some p.2/\H p.1=none/\p.1≠X.env.locals/\p.1 ∉ X.fs/\∀v,p.2.data≠.cell v):Inv X pins' σ H s :=
 ⟨I.ok,I.os,I.bare,I.base,I.loc,I.cell,I.free,I.freeC,λp hp=>(List.mem_append.mp hp).elim (λz=>I.pin p (List.mem_append_left _ z)) (h p),I.hok,I.len⟩
theorem zlh {N:List Str}(hN:N.Nodup) {i j:Nat}{x:Str}(a:N[i]? = some x) (b:N[j]? = some x):i=j:=by
 obtain ⟨h1,e1⟩:=qme a
 obtain ⟨h2,e2⟩:=qme b
 exact (List.getElem_inj hN).mp (e1.trans e2.symm)
theorem zoc {M:Model}{A:Around}{E:Value->Shared->Prop}{i:Nat}{x:Str}{v:V}{u:Value}{Q:Unit->Shared->Prop}(I:Inv X pins σ H s) (hN:X.N.Nodup) (hi:X.N[i]? = some x) (hx:Loc X.env.scope x) (r:RelV v u)
  (h:∀s',Inv X pins (σ.set i (some v)) H s'->(∃a,Heap.SameBut a s.heap s'.heap/\(a=X.env.locals\/X.env.cells.lookup x=some a))->Q () s') (hf:X.fn x=true\/X.env.scope.names.lookup x=some .local:=by first|exact .inl rfl|exact .inr rfl|assumption):wpAny M A (storeName X.env x u) Q E s:=by
 obtain ⟨m,hn,hl⟩:=id I.loc
 have hcls:(X.env.scope.kind == .class || (X.env.scope.kind == .module && X.env.locals != X.env.globals))=false:=by rw [I.ok.kind];rfl
 have hiσ:i<σ.length:=by rw [I.len];exact (qme hi).1
 have cne:=I.cne
 have tracked:∀{a:Addr} {h':Heap},(∃o,s.heap.get? a=some o/\H a=none)->Heap.SameBut a s.heap h'->HOk X.prog X.w H h':=λ{a h'} ha hs b ob e=>by
  obtain ⟨_,_,hfree⟩:=ha
  refine (I.hok b ob e).stay (λc w' hc q=>(hs.2 c ?_).trans q) (λ_ q=>q) λ_ _ q=>q
  rintro rfl
  rcases hc with rfl|hc
  ·rw [hfree] at e;cases e
  ·rw [hfree] at hc;cases hc
 rcases hx with hk|hk
 ·refine wpAny_storeName_local hk hn (λh' hn' hs=>?_) hcls
  obtain ⟨oL,_,_,hoL,_⟩:=id hn
  refine h _ ⟨I.ok,I.os,I.bare,⟨λb o e n hb hx=>?_,λb o e n hb hx=>?_,I.base.free,λb o e hx=>?_,I.base.tups,I.base.frzs,I.base.tbls⟩,⟨_,hn',λj y v' e1 e2 e3=>?_⟩,λy c e=>?_,I.free,I.freeC,λp hp=>?_,tracked ⟨oL,hoL,I.free⟩ hs,by simpa using I.len⟩ ⟨_,hs,.inl rfl⟩
  ·exact (hs.2 b (Nat.ne_of_lt (Nat.lt_of_lt_of_le (Heap.lt_size e) I.ok.above))).trans (I.base.keep b o e n hb hx)
  ·obtain ⟨sl,e1⟩:=I.base.slot b o e n hb hx
   exact ⟨sl,(hs.2 b (Nat.ne_of_lt (Nat.lt_of_lt_of_le (Heap.lt_size e) I.ok.above))).trans e1⟩
  ·obtain ⟨o',e1⟩:=I.base.there b o e hx
   exact ⟨o',(hs.2 b (Nat.ne_of_lt (Nat.lt_of_lt_of_le (Heap.lt_size e) I.ok.above))).trans e1⟩
  ·by_cases hj:j=i
   ·subst hj
    rw [hi] at e1;cases e1
    rw [List.getElem?_set_self hiσ] at e2
    cases e2
    exact ⟨u,r,.inl ⟨hk,by simp⟩⟩
   ·rw [List.getElem?_set_ne (Ne.symm hj)] at e2
    obtain ⟨u',r',q⟩:=hl j y v' e1 e2 e3
    refine ⟨u',r',?_⟩
    rcases q with ⟨k,e⟩|⟨k,c,e,z⟩
    ·refine .inl ⟨k,?_⟩
     have:y≠x:=λe=>hj (zlh hN e1 (e ▸ hi))
     simp [this,e]
    ·exact .inr ⟨k,c,e,z.sameBut hs (cne y c e)⟩
  ·obtain ⟨w',z⟩:=I.cell y c e
   exact ⟨w',z.sameBut hs (cne y c e)⟩
  ·obtain ⟨e,n,ne,nf,d⟩:=I.pin p hp
   exact ⟨(hs.2 p.1 ne).trans e,n,ne,nf,d⟩
 ·have hfn:X.fn x=true:=by
   rcases hf with z|z
   ·exact z
   ·rw [z] at hk;cases hk
  obtain ⟨c,hc⟩:=I.ok.has x (.inl hk)
  obtain ⟨w',z⟩:=I.cell x c hc
  refine wpAny_storeName_cell I.ok.kind hk hc z (λh' hc' hs=>?_)
  obtain ⟨oc,hoc,hocd⟩:=id z
  refine h { s with heap:=h' } ⟨I.ok,I.os,I.bare,⟨λb o e n hb hx=>?_,λb o e n hb hx=>?_,I.base.free,λb o e hx=>?_,I.base.tups,I.base.frzs,I.base.tbls⟩,⟨m,hn.sameBut hs (Ne.symm (cne x c hc)),λj y v' e1 e2 e3=>?_⟩,λy c' e=>?_,I.free,I.freeC,λp hp=>?_,tracked ⟨oc,hoc,I.freeC x c hc⟩ hs,by simpa using I.len⟩ ⟨c,hs,.inr hc⟩
  ·exact (hs.2 b (Nat.ne_of_lt (Nat.lt_of_lt_of_le (Heap.lt_size e) (I.ok.cab x c hfn hc)))).trans (I.base.keep b o e n hb hx)
  ·obtain ⟨sl,e1⟩:=I.base.slot b o e n hb hx
   exact ⟨sl,(hs.2 b (Nat.ne_of_lt (Nat.lt_of_lt_of_le (Heap.lt_size e) (I.ok.cab x c hfn hc)))).trans e1⟩
  ·obtain ⟨o',e1⟩:=I.base.there b o e hx
   exact ⟨o',(hs.2 b (Nat.ne_of_lt (Nat.lt_of_lt_of_le (Heap.lt_size e) (I.ok.cab x c hfn hc)))).trans e1⟩
  ·by_cases hj:j=i
   ·subst hj
    rw [hi] at e1;cases e1
    rw [List.getElem?_set_self hiσ] at e2
    cases e2
    exact ⟨u,r,.inr ⟨.inl hk,c,hc,hc'⟩⟩
   ·rw [List.getElem?_set_ne (Ne.symm hj)] at e2
    obtain ⟨u',r',q⟩:=hl j y v' e1 e2 e3
    refine ⟨u',r',?_⟩
    rcases q with q|⟨k,c',e,z'⟩
    ·exact .inl q
    ·refine .inr ⟨k,c',e,z'.sameBut hs ?_⟩
     rintro rfl
     exact hj (zlh hN e1 (I.ok.inj _ _ _ e hc ▸ hi))
  ·by_cases hcc:c' = c
   ·subst hcc;exact ⟨_,hc'⟩
   ·obtain ⟨w2,z2⟩:=I.cell y c' e
    exact ⟨w2,z2.sameBut hs hcc⟩
  ·obtain ⟨e,n,ne,nf,d⟩:=I.pin p hp
   refine ⟨(hs.2 p.1 ?_).trans e,n,ne,nf,d⟩
   intro q
   rw [q,hoc] at e
   have q':oc=p.2:=qoi e
   exact d w' (by rw [<-q'];exact hocd)
theorem zjx {M:Model}{A:Around}{E:Value->Shared->Prop}{i:Nat}{x:Str}{v:V}{u:Value}{Q:Unit->Shared->Prop}(I:Inv X pins σ H s) (hN:X.N.Nodup) (hi:X.N[i]? = some x) (hx:Loc X.env.scope x) (r:RelV v u)
  (h:∀s',Inv X pins (σ.set i (some v)) H s'->Q () s') (hf:X.fn x=true\/X.env.scope.names.lookup x=some .local:=by first|exact .inl rfl|exact .inr rfl|assumption):wpAny M A (storeName X.env x u) Q E s :=
 zoc I hN hi hx r (λs' I' _=>h s' I') hf
theorem Inv.call' {s':Shared}{ch:List Addr}(I:Inv X pins σ H s) (ho:s'.os=s.os) (u:Un (frs X.stack) ch H H' s.heap s'.heap) (hok:HOk X.prog X.w H' s'.heap) (hg:AllBare s'.gens)
  (hch:∀b∈ch,(b∈X.ex\/X.s₀.heap.objs.size<=b)/\b≠X.env.locals/\(∀x c,X.env.cells.lookup x=some c->c≠b)/\∀p∈X.pn++pins,p.1≠b):Inv X pins σ H' s':=by
 obtain ⟨h',g',d',t',o'⟩:=s'
 have e:o' = s.os:=ho
 subst e
 exact I.call (g':=g') (t':=t') (d':=d') u hok hg hch
end
abbrev XK:=Value->Option Addr->Hp->Prop
abbrev St:=List (Option V)
abbrev VK:=V->Hp->Prop
abbrev TE:=St->Hp->VK->Prop
abbrev TT:=St->Hp->(Bool->Hp->Prop)->Prop
abbrev TA:=St->Hp->(List V->Hp->Prop)->Prop
structure Ends where
 nx:St->Hp->Prop
 rt:VK
 bk:St->Hp->Prop:=λ_ _=>False
 ct:St->Hp->Prop:=λ_ _=>False
abbrev TS:=Ends->St->Hp->Prop
def EP (X:Cx) (pins:List (Addr × Obj)) (σ:St) (Q:VK) (u:Value) (s':Shared):Prop:=∃v H',Inv X pins σ H' s'/\RelV v u/\Q v H'
def TP (X:Cx) (pins:List (Addr × Obj)) (σ:St) (Q:Bool->Hp->Prop) (b:Bool) (s':Shared):Prop:=∃H',Inv X pins σ H' s'/\Q b H'
def AP (X:Cx) (pins:List (Addr × Obj)) (σ:St) (Q:List V->Hp->Prop) (us:List Value) (s':Shared):Prop:=∃vs H',Inv X pins σ H' s'/\Vals vs us/\Q vs H'
def SP (X:Cx) (pins:List (Addr × Obj)) (D:Ends) (f:Flow) (s':Shared):Prop :=
 match f with
 | .next=>∃σ' H',Inv X pins σ' H' s'/\D.nx σ' H'
 | .brk=>∃σ' H',Inv X pins σ' H' s'/\D.bk σ' H'
 | .cont=>∃σ' H',Inv X pins σ' H' s'/\D.ct σ' H'
 | .ret u=>∃v σ' H',Inv X pins σ' H' s'/\RelV v u/\D.rt v H'
def PE (X:Cx) (e:Expr) (t:TE):Prop :=
 ∀(pins:List (Addr × Obj)) (s:Shared) (σ:St) (H:Hp) (Q:VK),Inv X pins σ H s->t σ H Q->wpAny (model X.prog X.w) X.A (eval e X.env) (EP X pins σ Q) X.xe s
def PT (X:Cx) (e:Expr) (t:TT):Prop :=
 ∀(pins:List (Addr × Obj)) (s:Shared) (σ:St) (H:Hp) (Q:Bool->Hp->Prop),Inv X pins σ H s->t σ H Q->wpAny (model X.prog X.w) X.A (isTrue e X.env (eval e X.env)) (TP X pins σ Q) X.xe s
def PW (X:Cx) (e:Expr) (t:TT):Prop :=
 ∀(whole:Sem Value) (pins:List (Addr × Obj)) (s:Shared) (σ:St) (H:Hp) (Q:Bool->Hp->Prop),Inv X pins σ H s->t σ H Q->wpAny (model X.prog X.w) X.A (isTrue e X.env whole) (TP X pins σ Q) X.xe s
theorem PW.pt {X:Cx}{e:Expr}{t:TT}(h:PW X e t):PT X e t:=h _
def PA (X:Cx) (es:List Expr) (t:TA):Prop :=
 ∀(pos:Pos) (pins:List (Addr × Obj)) (s:Shared) (σ:St) (H:Hp) (Q:List V->Hp->Prop),Inv X pins σ H s->t σ H Q->wpAny (model X.prog X.w) X.A (spliced (backTo pos (starEach es X.env))) (AP X pins σ Q) X.xe s
def PS (X:Cx) (st:Stmt) (t:TS):Prop :=
 ∀(pins:List (Addr × Obj)) (s:Shared) (σ:St) (H:Hp) (D:Ends),Inv X pins σ H s->t D σ H->wpAny (model X.prog X.w) X.A (exec st X.env) (SP X pins D) X.xe s
def PSs (X:Cx) (st:List Stmt) (t:TS):Prop :=
 ∀(pins:List (Addr × Obj)) (s:Shared) (σ:St) (H:Hp) (D:Ends),Inv X pins σ H s->t D σ H->wpAny (model X.prog X.w) X.A (execs st X.env) (SP X pins D) X.xe s
theorem thn {α:Type}{t:Sem α}{Q Q':α->Shared->Prop}{M:Model}{A:Around}{E:Value->Shared->Prop}{s:Shared}(h:wpAny M A t Q E s) (hQ:∀a s,Q a s->Q' a s):wpAny M A t Q' E s:=wpAny_mono h hQ λ_ _ x=>x
section
variable {X:Cx}
theorem bin {a b:Expr}{ta tb:TE}(ha:PE X a ta) (hb:PE X b tb) {pins:List (Addr × Obj)}{s:Shared}{σ:St}{H:Hp}{R:V->V->Hp->Prop}(I:Inv X pins σ H s) (h:ta σ H λx H1=>tb σ H1 λy H2=>R x y H2)
  {α:Type} {Q:α->Shared->Prop} {f:Value->Value->Sem α}
  (hf:∀v u s2 x y H2,Inv X pins σ H2 s2->RelV x v->RelV y u->R x y H2->wpAny (model X.prog X.w) X.A (f v u) Q X.xe s2) :
  wpAny (model X.prog X.w) X.A (eval a X.env) (λv s₁=>wpAny (model X.prog X.w) X.A (eval b X.env) (λu s₂=>wpAny (model X.prog X.w) X.A (f v u) Q X.xe s₂) X.xe s₁) X.xe s:=by
 refine thn (ha pins s σ H _ I h) λv s1 ⟨x,H1,I1,r1,q1⟩=>?_
 refine thn (hb pins s1 σ H1 _ I1 q1) λu s2 ⟨y,H2,I2,r2,q2⟩=>?_
 exact hf v u s2 x y H2 I2 r1 r2 q2
def zvd (i:Nat):TE:=λσ H Q=>∃v,σ[i]? = some (some v)/\Q v H
def tC (v:V):TE:=λ_ H Q=>Q v H
theorem zve {i:Nat}{x:Str}{pos:Pos}(hN:X.N[i]? = some x) (hv:Vis X.env.scope x) (hd:(x == ("__debug__":Str))=false:=by decide) (hcd:(x == ("__classdict__":Str))=false:=by decide):PE X (.Name x pos) (zvd i):=by
 intro pins s σ H Q I h
 obtain ⟨v,e,h⟩:=h
 obtain ⟨m,hn,hl⟩:=I.loc
 obtain ⟨u,r,l⟩:=hl i x v hN e hv
 have fin:EP X pins σ Q u s:=⟨v,H,I,r,h⟩
 rcases l with ⟨hk,hm⟩|⟨hk,c,hc,hcell⟩
 ·exact wpAny_Name (wpAny_loadName_local I.ok.kind hk hn hm fin) hd
 ·rcases hk with hk|hk
  ·exact wpAny_Name (wpAny_loadName_cell I.ok.kind hk hc hcell fin) hd
  ·exact wpAny_Name (wpAny_loadName_free I.ok.kind hk hc hcell fin hcd) hd
theorem zvf {i j pos}:PE X (.Constant (.int i) j pos) (tC (.int i)):=λ_ _ _ H _ I h=>wpAny_Constant_int ⟨.int i,H,I.tok _,⟨_,rfl⟩,h⟩
theorem zvg {b j pos}:PE X (.Constant (.bool b) j pos) (tC (.bl b)):=λ_ _ _ H _ I h=>Constant_bool ⟨.bl b,H,I,rfl,h⟩
theorem zvh {j pos}:PE X (.Constant .none j pos) (tC .non):=λ_ _ _ H _ I h=>Constant_none ⟨.non,H,I,rfl,h⟩
theorem zod {x j pos}:PE X (.Constant (.str x) j pos) (tC (.str x)):=λ_ _ _ H _ I h=>Calls.Constant_str ⟨.str x,H,I.tok _,⟨_,rfl⟩,h⟩
def Gl (X:Cx) (x:Str):Prop:=X.env.kindOf x=some .globalImplicit
theorem zib {E:Value->Shared->Prop}{pins:List (Addr × Obj)}{s:Shared}{σ:St}{H:Hp}{x:Str}{u:Value}{pos:Pos}{Q:Value->Shared->Prop}(I:Inv X pins σ H s) (hg:Gl X x) (hm:X.mg x=some u) (h:Q u s)
  (hd:(x == ("__debug__":Str))=false:=by decide):wpAny (model X.prog X.w) X.A (eval (.Name x pos) X.env) Q E s :=
 Calls.Name_function_global I.ok.kind hg (Calls.loadGlobal_global (by rw [I.ok.glob];exact I.mod.glob.keeps I.bk) hm h) hd
theorem zem {E:Value->Shared->Prop}{pins:List (Addr × Obj)}{s:Shared}{σ:St}{H:Hp}{x:Str}{u:Value}{pos:Pos}{Q:Value->Shared->Prop}(I:Inv X pins σ H s) (hg:Gl X x) (hm:X.mg x=none) (hv:bootBuiltins x=some u) (h:Q u s)
  (hn:x≠"__name__":=by decide) (hd:(x == ("__debug__":Str))=false:=by decide):wpAny (model X.prog X.w) X.A (eval (.Name x pos) X.env) Q E s:=by
 obtain ⟨mb,h1,h2⟩:=I.mod.blt
 exact Calls.Name_function_global I.ok.kind hg (Calls.loadGlobal_builtin (by rw [I.ok.glob];exact I.mod.glob.keeps I.bk) hm (by rw [I.ok.blt];exact h1.keeps I.bk) ((h2 x hn).trans hv) h) hd
theorem zvi {x:Str}{v:V}{u:Value}{pos:Pos}(hg:Gl X x) (hm:X.mg x=none) (hv:bootBuiltins x=some u) (r:RelV v u) (hn:x≠"__name__":=by decide) (hd:(x == ("__debug__":Str))=false:=by decide):PE X (.Name x pos) (tC v) :=
 λ_ _ _ H _ I h=>zem I hg hm hv ⟨v,H,I,r,h⟩ hn hd
variable {a b:Expr}{ta tb:TE}{pos:Pos}
def tB (t:TE):TT:=λσ H Q=>t σ H λx H1=>∃c,x=.bl c/\Q c H1
theorem zvj {e:Expr}{t:TE}(h:PE X e t) (he:∀whole,isTrue e X.env whole=(do let v <-whole;standAt e.pos;holding [v] (truthy v)):=by intro _;rfl):PT X e (tB t):=by
 intro pins s σ H Q I hw
 refine isTrue_plain (thn (h pins s σ H _ I hw) λv s1 ⟨x,H1,I1,r1,q1⟩=>?_) (he _)
 obtain ⟨d,rfl,q⟩:=q1
 cases r1
 exact wpAny_truthy_bool ⟨H1,I1,q⟩
variable {tA tB':TT}{rest:List Expr}
def tAnd (t u:TT):TT:=λσ H Q=>t σ H λc H1=>if c=true then u σ H1 Q else Q false H1
def tOr (t u:TT):TT:=λσ H Q=>t σ H λc H1=>if c=true then Q true H1 else u σ H1 Q
theorem zvk (ha:PT X a tA):PW X (.BoolOp .And [a] pos) tA:=by
 intro wh pins s σ H Q I h
 refine isTrue_and (thn (ha pins s σ H Q I h) λc s1 e=>?_)
 cases c with
 | true=>exact isTrue_and_nil e
 | false=>exact e
theorem zvl (ha:PT X a tA):PW X (.BoolOp .Or [a] pos) tA:=by
 intro wh pins s σ H Q I h
 refine isTrue_or (thn (ha pins s σ H Q I h) λc s1 e=>?_)
 cases c with
 | false=>exact isTrue_or_nil e
 | true=>exact e
theorem zvm (ha:PT X a tA) (hb:PW X (.BoolOp .And (b :: rest) pos) tB'):PW X (.BoolOp .And (a :: b :: rest) pos) (tAnd tA tB'):=by
 intro wh pins s σ H Q I h
 refine isTrue_and (thn (ha pins s σ H _ I h) λc s1 ⟨H1,I1,q1⟩=>?_)
 cases c with
 | true=>exact hb wh pins s1 σ H1 Q I1 q1
 | false=>exact ⟨H1,I1,q1⟩
theorem zvn (ha:PT X a tA) (hb:PW X (.BoolOp .Or (b :: rest) pos) tB'):PW X (.BoolOp .Or (a :: b :: rest) pos) (tOr tA tB'):=by
 intro wh pins s σ H Q I h
 refine isTrue_or (thn (ha pins s σ H _ I h) λc s1 ⟨H1,I1,q1⟩=>?_)
 cases c with
 | true=>exact ⟨H1,I1,q1⟩
 | false=>exact hb wh pins s1 σ H1 Q I1 q1
def zvo (ta tb:TE):TE:=λσ H Q=>ta σ H λx H1=>∃c,x=.bl c/\if c=true then Q (.bl true) H1 else tb σ H1 Q
def zvp (ta:TE):TE:=λσ H Q=>ta σ H λx H1=>∃c,x=.bl c/\Q (.bl (!c)) H1
theorem zvq {op}{t:TE}(h:PE X a t):PE X (.BoolOp op [a] pos) t:=λpins s σ H Q I hw=>BoolOp_one (h pins s σ H Q I hw)
theorem zvr (ha:PE X a ta) (hb:PE X (.BoolOp .Or (b :: rest) pos) tb):PE X (.BoolOp .Or (a :: b :: rest) pos) (zvo ta tb):=by
 intro pins s σ H Q I h
 refine BoolOp_or (thn (ha pins s σ H _ I h) λv s1 ⟨x,H1,I1,r1,q1⟩=>?_)
 obtain ⟨c,rfl,q1⟩:=q1
 cases r1
 refine wpAny_truthy_bool ?_
 cases c with
 | false=>exact hb pins s1 σ H1 Q I1 q1
 | true=>exact ⟨.bl true,H1,I1,rfl,q1⟩
theorem zvs (ha:PE X a ta):PE X (.UnaryOp .Not a pos) (zvp ta):=by
 intro pins s σ H Q I h
 refine UnaryOp_ (thn (ha pins s σ H _ I h) λv s1 ⟨x,H1,I1,r1,q1⟩=>?_)
 obtain ⟨c,rfl,q1⟩:=q1
 cases r1
 exact not_of (wpAny_truthy_bool ⟨.bl (!c),H1,I1,rfl,q1⟩)
def tIf (t:TT) (ta tb:TE):TE:=λσ H Q=>t σ H λc H1=>if c=true then ta σ H1 Q else tb σ H1 Q
theorem zvt {c:Expr}(hc:PT X c tA) (ha:PE X a ta) (hb:PE X b tb):PE X (.IfExp c a b pos) (tIf tA ta tb):=by
 intro pins s σ H Q I h
 refine wpAny_IfExp (thn (hc pins s σ H _ I h) λd s1 ⟨H1,I1,q1⟩=>?_)
 cases d with
 | true=>exact ha pins s1 σ H1 Q I1 q1
 | false=>exact hb pins s1 σ H1 Q I1 q1
end
def SqL (K:QFg) (H:Hp) (a:Addr) (xs:List V):Prop :=
 Rd H a (.lst xs) \/
  ∃(o:Obj) (its:Array Value) (n:Nat),K.lookup a=some o/\o.cls=.type "list"/\o.dict=none/\o.data=.seq its n/\its.size<=sizeLine/\Vals xs its.toList
def SqT (K:QFg) (H:Hp) (a:Addr) (xs:List V):Prop :=
 Rd H a (.tup xs) \/
  ∃(o:Obj) (its:Array Value) (n:Nat),K.lookup a=some o/\o.cls=.type "tuple"/\o.data=.seq its n/\its.size<=sizeLine/\Vals xs its.toList
noncomputable def zvu:Value->Option V
 | .none=>some .non
 | .bool b=>some (.bl b)
 | .int i _=>some (.int i)
 | .str x _=>some (.str x)
 | .bytes b _=>some (.byt b)
 | .float b _=>some (.flt b)
 | .ref a=>some (.ref a)
 | .type n=>some (.ty n)
 | _=>none
theorem RelV.abs {x:V}{u:Value}(r:RelV x u):zvu u=some x:=by
 cases x with
 | non=>cases r;rfl
 | bl _=>cases r;rfl
 | int _=>obtain ⟨t,rfl⟩:=r;rfl
 | str _=>obtain ⟨t,rfl⟩:=r;rfl
 | byt _=>obtain ⟨t,rfl⟩:=r;rfl
 | flt _=>obtain ⟨t,rfl⟩:=r;rfl
 | ref _=>cases r;rfl
 | ty _=>cases r;rfl
theorem RelV.inj {x y:V}{u:Value}(r:RelV x u) (q:RelV y u):x=y:=qoi (r.abs.symm.trans q.abs)
theorem Vals.inj:∀{xs ys:List V}{us:List Value},Vals xs us->Vals ys us->xs=ys
 | _,_,_,.nil,.nil=>rfl
 | _,_,_,.cons r t,.cons r' t'=>by rw [r.inj r',Vals.inj t t']
section
variable {X:Cx}{pins:List (Addr × Obj)}{σ:St}{H:Hp}{s:Shared}{a:Addr}{xs ys:List V}
theorem SqT.of {K:QFg}(h:H a=some (.tup xs)):SqT K H a xs:=.inl (.inl h)
theorem Inv.list (I:Inv X pins σ H s) (h:SqL X.K H a xs):∃its:List Value,Vals xs its/\PlainL s.heap a its.toArray/\xs.length<=sizeLine:=by
 rcases h with h|⟨o,its,n,hk,hc,hd,hs,hz,r⟩
 ·obtain ⟨z,its,n,r,e⟩:=h.ok I.hok
  exact ⟨its,r,⟨_,n,e,rfl,rfl,rfl⟩,z⟩
 ·refine ⟨its.toList,r,⟨o,n,I.kIn a o hk,hc,hd,by simpa using hs⟩,?_⟩
  have e:=r.length
  simp only [Array.length_toList] at e
  omega
theorem Inv.tuple (I:Inv X pins σ H s) (h:SqT X.K H a xs):∃its:List Value,Vals xs its/\IsTup s.heap a its.toArray/\xs.length<=sizeLine:=by
 rcases h with h|⟨o,its,n,hk,hc,hs,hz,r⟩
 ·obtain ⟨z,its,r,p⟩:=h.ok I.hok
  exact ⟨its,r,p.tup,z⟩
 ·refine ⟨its.toList,r,⟨o,I.kIn a o hk,hc,n,by simpa using hs⟩,?_⟩
  have e:=r.length
  simp only [Array.length_toList] at e
  omega
theorem Inv.list_inj (I:Inv X pins σ H s) (h:SqL X.K H a xs) (h':SqL X.K H a ys):xs=ys:=by
 obtain ⟨its,r,⟨o,n,e,_,_,d⟩,_⟩:=I.list h
 obtain ⟨its',r',⟨o',n',e',_,_,d'⟩,_⟩:=I.list h'
 rw [e] at e';cases e'
 rw [d] at d'
 injection d' with d1 _
 have:its=its':=by simpa using congrArg Array.toList d1
 subst this
 exact r.inj r'
theorem Inv.tuple_inj (I:Inv X pins σ H s) (h:SqT X.K H a xs) (h':SqT X.K H a ys):xs=ys:=by
 obtain ⟨its,r,⟨o,e,_,n,d⟩,_⟩:=I.tuple h
 obtain ⟨its',r',⟨o',e',_,n',d'⟩,_⟩:=I.tuple h'
 rw [e] at e';cases e'
 rw [d] at d'
 injection d' with d1 _
 have:its=its':=by simpa using congrArg Array.toList d1
 subst this
 exact r.inj r'
end
noncomputable abbrev Cx.wish (X:Cx) (E:Value->Shared->Prop):Cx:={ X with xe:=E }
noncomputable abbrev Cx.nox (X:Cx):Cx:=X.wish λ_ _=>False
theorem Cx.Ok.wish {X:Cx}(ok:X.Ok) (E:Value->Shared->Prop):(X.wish E).Ok :=
 ⟨ok.mod,ok.kind,ok.glob,ok.blt,ok.above,ok.inj,ok.has,ok.cab,ok.hd,ok.frames,ok.stk,ok.exf,ok.bs,ok.bsz,ok.noex,ok.exfs,ok.funs,ok.frf⟩
theorem Cx.Ok.unwish {X:Cx}{E:Value->Shared->Prop}(ok:(X.wish E).Ok):X.Ok :=
 ⟨ok.mod,ok.kind,ok.glob,ok.blt,ok.above,ok.inj,ok.has,ok.cab,ok.hd,ok.frames,ok.stk,ok.exf,ok.bs,ok.bsz,ok.noex,ok.exfs,ok.funs,ok.frf⟩
section
variable {X:Cx}{pins:List (Addr × Obj)}{σ:St}{H:Hp}{s:Shared}{E:Value->Shared->Prop}
theorem Inv.wish (I:Inv X pins σ H s) (E:Value->Shared->Prop):Inv (X.wish E) pins σ H s:=⟨I.ok.wish E,I.os,I.bare,I.base,I.loc,I.cell,I.free,I.freeC,I.pin,I.hok,I.len⟩
theorem Inv.unwish (I:Inv (X.wish E) pins σ H s):Inv X pins σ H s:=⟨I.ok.unwish,I.os,I.bare,I.base,I.loc,I.cell,I.free,I.freeC,I.pin,I.hok,I.len⟩
theorem SP.unwish {D:Ends}{f:Flow}{s':Shared}(h:SP (X.wish E) pins D f s'):SP X pins D f s':=by
 cases f with
 | next=>obtain ⟨σ',H',I,q⟩:=h;exact ⟨σ',H',I.unwish,q⟩
 | brk=>obtain ⟨σ',H',I,q⟩:=h;exact ⟨σ',H',I.unwish,q⟩
 | cont=>obtain ⟨σ',H',I,q⟩:=h;exact ⟨σ',H',I.unwish,q⟩
 | ret u=>obtain ⟨v,σ',H',I,r,q⟩:=h;exact ⟨v,σ',H',I.unwish,r,q⟩
theorem PSs.nox {st:List Stmt}{t:TS}(h:PSs X.nox st t):PSs X st t:=λpins s σ H D I hw =>
 wpAny_mono (h pins s σ H D (I.wish _) hw) (λ_ _ q=>q.unwish) λ_ _ z=>False.elim z
end
section
variable {X:Cx}{st:Stmt}{rest:List Stmt}{t u:TS}{e:Expr}{te:TE}{pos:Pos}
def zvv:TS:=λD σ H=>D.nx σ H
def zvw (t u:TS):TS:=λD σ H=>t { D with nx:=u D } σ H
theorem zvx:PSs X [] zvv:=λ_ _ σ H _ I h=>wpAny_execs_nil ⟨σ,H,I,h⟩
theorem zoe (h1:PS X st t) (h2:PSs X rest u):PSs X (st :: rest) (zvw t u):=by
 intro pins s σ H D I h
 refine wpAny_execs_cons (thn (h1 pins s σ H { D with nx:=u D } I h) λf s1 q=>?_)
 cases f with
 | next =>
  obtain ⟨σ',H',I',q⟩:=q
  exact h2 pins s1 σ' H' D I' q
 | ret v=>exact q
 | brk=>exact q
 | cont=>exact q
theorem zvy (h1:PS X st t):PSs X [st] t:=by
 intro pins s σ H D I h
 refine wpAny_execs_cons (thn (h1 pins s σ H D I h) λf s1 q=>?_)
 cases f with
 | next=>exact wpAny_execs_nil q
 | ret v=>exact q
 | brk=>exact q
 | cont=>exact q
theorem Inv.quiet {pins:List (Addr × Obj)}{σ:St}{H:Hp}{s:Shared}(I:Inv X pins σ H s):interactive X.env=false:=by simp [interactive,I.ok.kind]
def zvz (te:TE):TS:=λD σ H=>te σ H λ_ H1=>D.nx σ H1
theorem zv0 (he:PE X e te) (hs:swapsWith e none pos.line X.env=pure false:=by rfl):PS X (.Expr e pos) (zvz te):=by
 intro pins s σ H D I h
 exact wpAny_Expr_any (thn (he pins s σ H _ I h) λv s1 ⟨x,H1,I1,r1,q1⟩=>⟨σ,H1,I1,q1⟩) I.quiet hs
def zv1 (te:TE):TS:=λD σ H=>te σ H D.rt
theorem zv2 (he:PE X e te):PS X (.Return (some e) pos) (zv1 te):=by
 intro pins s σ H D I h
 exact wpAny_Return_some (thn (he pins s σ H _ I h) λv s1 ⟨x,H1,I1,r1,q1⟩=>⟨x,σ,H1,I1,r1,q1⟩)
def zv3 (c:TT) (t u:TS):TS:=λD σ H=>c σ H λb H1=>if b=true then t D σ H1 else u D σ H1
theorem zof {c:Expr}{a b:List Stmt}{tc:TT}(hc:PT X c tc) (ha:PSs X a t) (hb:PSs X b u):PS X (.If c a b pos) (zv3 tc t u):=by
 intro pins s σ H D I h
 refine wpAny_If (thn (hc pins s σ H _ I h) λd s1 ⟨H1,I1,q1⟩=>?_)
 cases d with
 | true=>exact ha pins s1 σ H1 D I1 q1
 | false=>exact hb pins s1 σ H1 D I1 q1
def zv4:TS:=λ_ _ _=>False
theorem zv5:PS X st zv4:=λ_ _ _ _ _ _ h=>h.elim
end
abbrev TG:=V->St->Hp->(St->Hp->Prop)->Prop
abbrev TGs:=List V->St->Hp->(St->Hp->Prop)->Prop
def PG (X:Cx) (target:Expr) (t:TG):Prop :=
 ∀(pins:List (Addr × Obj)) (s:Shared) (σ:St) (H:Hp) (v:V) (u:Value) (Q:St->Hp->Prop),Inv X pins σ H s->RelV v u->t v σ H Q ->
  wpAny (model X.prog X.w) X.A (assign target X.env u) (λ_ s'=>∃σ' H',Inv X pins σ' H' s'/\Q σ' H') X.xe s
def PGs (X:Cx) (ts:List Expr) (t:TGs):Prop :=
 ∀(pins:List (Addr × Obj)) (s:Shared) (σ:St) (H:Hp) (vs:List V) (us:List Value) (Q:St->Hp->Prop),Inv X pins σ H s->Vals vs us->t vs σ H Q ->
  wpAny (model X.prog X.w) X.A (assignInOrder ((assignEach ts X.env).map (·.2)) us) (λ_ s'=>∃σ' H',Inv X pins σ' H' s'/\Q σ' H') X.xe s
abbrev TSet:=V->V->V->Hp->(Hp->Prop)->Prop
def zog (X:Cx) (t:TSet):Prop :=
 ∀(pins:List (Addr × Obj)) (s:Shared) (σ:St) (H:Hp) (o i v:V) (ov iv u:Value) (Q:Hp->Prop),Inv X pins σ H s->RelV o ov->RelV i iv->RelV v u->t o i v H Q ->
  wpAny (model X.prog X.w) X.A (setItem ov iv u) (λ_ s'=>∃H',Inv X pins σ H' s'/\Q H') X.xe s
abbrev TIp:=V->V->Hp->VK->Prop
def PIp (X:Cx) (op:Operator) (t:TIp):Prop :=
 ∀(pins:List (Addr × Obj)) (s:Shared) (σ:St) (H:Hp) (x y:V) (v u:Value) (Q:VK),Inv X pins σ H s->RelV x v->RelV y u->t x y H Q ->
  wpAny (model X.prog X.w) X.A (inplaceOp op v u) (EP X pins σ Q) X.xe s
section
variable {X:Cx}{pos:Pos}
def zli (i:Nat):TG:=λv σ H Q=>Q (σ.set i (some v)) H
theorem zv6 {i:Nat}{x:Str}(hN:X.N.Nodup) (hi:X.N[i]? = some x) (hx:Loc X.env.scope x) (hf:X.fn x=true\/X.env.scope.names.lookup x=some .local:=by first|exact .inl rfl|exact .inr rfl|assumption):PG X (.Name x pos) (zli i):=by
 intro pins s σ H v u Q I r h
 exact wpAny_assign_Name (zjx I hN hi hx r (λs' I'=>⟨_,H,I',h⟩) hf)
def zv7:TGs:=λvs σ H Q=>vs=[]/\Q σ H
def zv8 (t:TG) (u:TGs):TGs:=λvs σ H Q=>∃v r,vs=v :: r/\t v σ H λσ' H'=>u r σ' H' Q
theorem zv9:PGs X [] zv7:=by
 intro pins s σ H vs us Q I r h
 obtain ⟨e,h⟩:=h
 subst e
 cases r
 exact assignInOrder_nil ⟨σ,H,I,h⟩
theorem zwa {e:Expr}{es:List Expr}{t:TG}{u:TGs}(h1:PG X e t) (h2:PGs X es u)
  (hs:(assignEach (e :: es) X.env).map (·.2)=assign e X.env :: (assignEach es X.env).map (·.2):=by rfl):PGs X (e :: es) (zv8 t u):=by
 intro pins s σ H vs us Q I r h
 obtain ⟨v,vr,e1,h⟩:=h
 subst e1
 cases r with
 | cons r rr =>
  rw [hs]
  refine assignInOrder_cons (thn (h1 pins s σ H _ _ _ I r h) λ_ s1 ⟨σ1,H1,I1,q1⟩=>?_)
  exact h2 pins s1 σ1 H1 _ _ Q I1 rr q1
def zwb (K:QFg) (n:Nat) (t:TGs):TG:=λv σ H Q=>∃a xs,v=.ref a/\SqT K H a xs/\xs.length=n/\t xs σ H Q
theorem zoh {es:List Expr}{k:Nat}{t:TGs}{n:Nat}(hc:X.calm=true) (h:PGs X es t)
  (hn:(assignEach es X.env).length=n:=by rfl) (hst:(assignEach es X.env).findIdx? (·.1)=none:=by rfl):PG X (.Tuple es k pos) (zwb X.K n t):=by
 intro pins s σ H v u Q I r hw
 obtain ⟨a,xs,e1,hq,hl,hw⟩:=hw
 subst e1
 cases r
 obtain ⟨its,rv,ht,hz⟩:=I.tuple hq
 refine assign_Tuple_tuple (I.ok.hd hc) ht (by simp [hn,<-hl,rv.length]) hst λh' hx=>?_
 have I1:Inv X pins σ H { s with heap:=h' }:=I.kept (t':=s.toks) λb o e=>hx b o (Nat.ne_of_lt (Heap.lt_size e)) e
 exact h pins _ σ H xs _ Q I1 (by simpa using rv) hw
def zwc (to ti:TE) (t:TSet):TG:=λv σ H Q=>to σ H λo H1=>ti σ H1 λi H2=>t o i v H2 λH3=>Q σ H3
theorem zwd {o i:Expr}{to ti:TE}{t:TSet}(ho:PE X o to) (hi:PE X i ti) (hs:zog X t)
  (ha:∀v,assign (.Subscript o i pos) X.env v=(do
   let ov <-holding [v] (eval o X.env)
   let iv <-holding [v,ov] (eval i X.env)
   standAt pos
   holding [v,ov,iv] (setItem ov iv v)
   release [v,ov,iv] []):=by intro _;rfl):PG X (.Subscript o i pos) (zwc to ti t):=by
 intro pins s σ H v u Q I r h
 rw [ha]
 refine qwb (wpAny_holding (thn (ho pins s σ H _ I h) λov s1 ⟨x,H1,I1,r1,q1⟩=>?_))
 refine qwb (wpAny_holding (thn (hi pins s1 σ H1 _ I1 q1) λiv s2 ⟨y,H2,I2,r2,q2⟩=>?_))
 refine qwb (wpAny_standAt (qwb (wpAny_holding (thn (hs pins s2 σ H2 x y v ov iv u _ I2 r1 r2 r q2) λ_ s3 ⟨H3,I3,q3⟩=>?_))))
 exact wpAny_release ⟨σ,H3,I3,q3⟩
def zlj (te:TE) (g:TG):TS:=λD σ H=>te σ H λx H1=>g x σ H1 D.nx
theorem zwe {tg e:Expr}{te:TE}{g:TG}(he:PE X e te) (hg:PG X tg g) (hs:swapsWithSole [tg] e pos.line X.env=pure false:=by rfl) (hw:swappedStores [tg] e X.env=pure none:=by rfl)
  (h1:(assignEach [tg] X.env).map (·.2)=[assign tg X.env]:=by rfl):PS X (.Assign [tg] e pos) (zlj te g):=by
 intro pins s σ H D I h
 refine wpAny_Assign_stores (thn (he pins s σ H _ I h) λv s1 ⟨x,H1,I1,r1,q1⟩=>?_) hs hw
 rw [h1]
 exact thn (hg pins s1 σ H1 x v _ I1 r1 q1) λ_ s2 q=>q
theorem zwf {i:Nat}{x:Str}{e:Expr}{te:TE}{pos':Pos}(hN:X.N.Nodup) (hi:X.N[i]? = some x) (hx:Loc X.env.scope x) (he:PE X e te) (hs:swapsWith e (some (.Name x pos')) pos.line X.env=pure false:=by rfl) (hf:X.fn x=true\/X.env.scope.names.lookup x=some .local:=by first|exact .inl rfl|exact .inr rfl|assumption) :
  PS X (.Assign [.Name x pos'] e pos) (zlj te (zli i)):=by
 intro pins s σ H D I h
 refine wpAny_Assign_Name (thn (he pins s σ H _ I h) λv s1 ⟨y,H1,I1,r1,q1⟩=>?_) hs
 exact zjx I1 hN hi hx r1 (λs2 I2=>⟨_,H1,I2,q1⟩) hf
def zwg (i:Nat) (te:TE) (ti:TIp):TS:=λD σ H=>∃x,σ[i]? = some (some x)/\te σ H λy H1=>ti x y H1 λz H2=>D.nx (σ.set i (some z)) H2
theorem zwh {i:Nat}{x:Str}{e:Expr}{te:TE}{op:Operator}{ti:TIp}{pos':Pos}(hN:X.N.Nodup) (hi:X.N[i]? = some x) (hx:Loc X.env.scope x) (he:PE X e te) (ho:PIp X op ti) (hf:X.fn x=true\/X.env.scope.names.lookup x=some .local:=by first|exact .inl rfl|exact .inr rfl|assumption) :
  PS X (.AugAssign (.Name x pos') op e pos) (zwg i te ti):=by
 intro pins s σ H D I h
 obtain ⟨v,e1,h⟩:=h
 obtain ⟨m,hn,hl⟩:=I.loc
 have vis:Vis X.env.scope x:=by rcases hx with k|k;exact .inl k;exact .inr (.inl k)
 obtain ⟨u,r,l⟩:=hl i x v hi e1 vis
 refine wpAny_AugAssign_Name ?_
 have go:wpAny (model X.prog X.w) X.A (eval e X.env) (λw s₂=>wpAny (model X.prog X.w) X.A (inplaceOp op u w) (λr s₃=>wpAny (model X.prog X.w) X.A (storeName X.env x r) (λ_=>SP X pins D .next) X.xe s₃) X.xe s₂) X.xe s:=by
  refine thn (he pins s σ H _ I h) λw s1 ⟨y,H1,I1,r1,q1⟩=>?_
  refine thn (ho pins s1 σ H1 v y u w _ I1 r r1 q1) λz s2 ⟨zv,H2,I2,r2,q2⟩=>?_
  exact zjx I2 hN hi hx r2 (λs3 I3=>⟨_,H2,I3,q2⟩) hf
 rcases l with ⟨hk,hm⟩|⟨hk,c,hc,hcell⟩
 ·exact wpAny_loadName_local I.ok.kind hk hn hm go
 ·rcases hk with hk|hk
  ·exact wpAny_loadName_cell I.ok.kind hk hc hcell go
  ·rcases hx with k|k
   ·have:X.env.scope.names.lookup x=some .free:=hk
    rw [k] at this;cases this
   ·have:X.env.scope.names.lookup x=some .free:=hk
    rw [k] at this;cases this
def ipI (f:Int->Int->Int):TIp:=λx y H Q=>∃i j,x=.int i/\y=.int j/\Q (.int (f i j)) H
theorem zwi:PIp X .Add (ipI λi j=>i+j):=by
 intro pins s σ H x y v u Q I r1 r2 h
 obtain ⟨i,j,e1,e2,q⟩:=h
 subst e1;subst e2
 obtain ⟨t,rfl⟩:=r1
 obtain ⟨t',rfl⟩:=r2
 exact iadd_int ⟨.int _,H,I.tok _,⟨_,rfl⟩,q⟩
end
section
variable {X:Cx}{pos:Pos}
def zwj (c:TT) (tb:TS):TS:=λD σ H=>∃W:Nat->St->Hp->Prop,(∃m,W m σ H)/\∀m σ H,W m σ H ->
 c σ H λb H1=>if b=true then ∃N:St->Hp->Prop,(∀σ' H',N σ' H'->∃m',m' < m/\W m' σ' H')/\tb { D with nx:=N,ct:=N,bk:=D.nx } σ H1 else D.nx σ H1
theorem zwk {c:Expr}{body:List Stmt}{tc:TT}{tb:TS}(hp:PassesOwn (model X.prog X.w) X.A X.env X.xe) (hc:PT X c tc) (hb:PSs X body tb):PS X (.While c body [] pos) (zwj tc tb):=by
 intro pins s σ H D I h
 obtain ⟨W,⟨m0,w0⟩,turn⟩:=h
 refine wpAny_While (codeAny_whileLoop (λn s'=>∃σ' H',Inv X pins σ' H' s'/\W n σ' H') ?_ m0 ⟨σ,H,I,w0⟩)
 rintro n s1 ⟨σ1,H1,I1,w1⟩
 refine wpAny_passesOwn hp (thn (hc pins s1 σ1 H1 _ I1 (turn n σ1 H1 w1)) λb s2 ⟨H2,I2,q2⟩=>?_)
 cases b with
 | true =>
  obtain ⟨N,hN,q2⟩:=q2
  rw [if_pos rfl]
  refine wpAny_passesOwn hp (thn (hb pins s2 σ1 H2 _ I2 q2) λf s3 q3=>?_)
  cases f with
  | next =>
   obtain ⟨σ3,H3,I3,n3⟩:=q3
   obtain ⟨m',hm,w3⟩:=hN σ3 H3 n3
   exact ⟨m',hm,σ3,H3,I3,w3⟩
  | cont =>
   obtain ⟨σ3,H3,I3,n3⟩:=q3
   obtain ⟨m',hm,w3⟩:=hN σ3 H3 n3
   exact ⟨m',hm,σ3,H3,I3,w3⟩
  | brk=>exact q3
  | ret v=>exact q3
 | false =>
  rw [if_neg Bool.false_ne_true]
  exact wpAny_execs_nil ⟨σ1,H2,I2,q2⟩
end
structure It where
 go:Nat->Hp->Prop
 yld:Nat->Hp->V->Hp->Prop
 stop:Nat->Hp->Prop
def zdo (X:Cx) (pins:List (Addr × Obj)) (H:Hp) (b:Addr):Prop :=
 H b=none/\b≠X.env.locals/\b ∉ X.fs/\(b∈X.ex\/X.s₀.heap.objs.size<=b)/\(∀x c,X.env.cells.lookup x=some c->c≠b)/\∀p∈X.pn++pins,p.1≠b
theorem Inv.fpOk {X:Cx}{pins:List (Addr × Obj)}{σ:St}{H H':Hp}{s:Shared}{b:Addr}(I:Inv X pins σ H s) (hb:s.heap.objs.size<=b) (hn:H' b=none):zdo X pins H' b:=by
 refine ⟨hn,Nat.ne_of_gt (Nat.lt_of_lt_of_le I.lt hb),I.nofs hb,.inr (Nat.le_trans I.sz hb),λx c e z=>?_,λp hp z=>?_⟩
 ·obtain ⟨v,q⟩:=I.cell x c e
  exact absurd (Nat.lt_of_lt_of_le q.lt (by rw [z];exact hb)) (Nat.lt_irrefl _)
 ·exact absurd (Nat.lt_of_lt_of_le (Heap.lt_size (I.pin p hp).1) (by rw [z];exact hb)) (Nat.lt_irrefl _)
structure Turn (P:Program) (w:World) (K:QFg) (tg:Expr) (J:It) (fp:List Addr) (it:Addr) (tn:Nat->Heap->Prop):Prop where
 mem:it∈fp
 obj:∀i h,tn i h->∀b∈fp,∃o,h.get? b=some o/\∀v,o.data≠.cell v
 keep:∀i h h',tn i h->(∀b∈fp,∀o,h.get? b=some o->h'.get? b=some o)->tn i h'
 item:∀(X:Cx),X.prog=P->X.w=w->X.K=K->X.calm=true->∀(i:Nat) (pins:List (Addr × Obj)) (s:Shared) (σ:St) (H:Hp) (E:Value->Shared->Prop),Inv X pins σ H s->(∀b∈fp,zdo X pins H b)->tn i s.heap->J.go i H ->
  wpAny (model P w) X.A (pyNext (.ref it)) (λr s1=>∃u,r=some u /\
   wpAny (model P w) X.A (letOwnedTupleGo tg (.ref it) u) (λ_ s2=>∃x H',Inv X pins σ H' s2/\RelV x u/\J.yld i H x H'/\tn (i+1) s2.heap/\∀b∈fp,H' b=none) E s1) E s
 done:∀(X:Cx),X.prog=P->X.w=w->X.K=K->X.calm=true->∀(i:Nat) (pins:List (Addr × Obj)) (s:Shared) (σ:St) (H:Hp) (E:Value->Shared->Prop),Inv X pins σ H s->(∀b∈fp,zdo X pins H b)->tn i s.heap->J.stop i H ->
  wpAny (model P w) X.A (pyNext (.ref it)) (λr s1=>r=none/\Inv X pins σ H s1) E s
 self:∀(A:Around) (i:Nat) (s:Shared) (Q:Value->Shared->Prop) (E:Value->Shared->Prop),tn i s.heap->Q (.ref it) s->wpAny (model P w) A (pyIter (.ref it)) Q E s
abbrev TI:=St->Hp->(It->Hp->Prop)->Prop
def PIE (X:Cx) (pins:List (Addr × Obj)) (σ:St) (tg:Expr) (R:It->Hp->Prop) (itv:Value) (s2:Shared):Prop :=
 ∃(it:Addr) (fp:List Addr) (tn:Nat->Heap->Prop) (J:It) (H':Hp),itv=.ref it/\Inv X pins σ H' s2/\Turn X.prog X.w X.K tg J fp it tn/\tn 0 s2.heap/\(∀b∈fp,zdo X pins H' b)/\R J H'
def PI (X:Cx) (tg iter:Expr) (wi:TI):Prop :=
 ∀(pins:List (Addr × Obj)) (s:Shared) (σ:St) (H:Hp) (R:It->Hp->Prop),Inv X pins σ H s->wi σ H R ->
  wpAny (model X.prog X.w) X.A (eval iter X.env) (λv s1=>wpAny (model X.prog X.w) X.A (pyIter v) (PIE X pins σ tg R) X.xe s1) X.xe s
theorem zlk {M:Model}{A:Around}{E:Value->Shared->Prop}{s:Shared}{tg:Expr}{it:Addr}{u:Value}{o:Obj}{n:String}{vs:Array Value}{Q:Unit->Shared->Prop}(ho:s.heap.get? it=some o) (hc:o.cls=.type n) (hd:o.data=.fields vs)
  (hn:["enumerate","zip","dict_itemiterator","dict_reverseitemiterator","odict_iterator","itertools.zip_longest","itertools.pairwise"].contains n=false) (hQ:Q () s):wpAny M A (letOwnedTupleGo tg (.ref it) u) Q E s:=by
 unfold letOwnedTupleGo
 cases tg <;> first
  | exact qwp hQ
  | (cases u <;> first
    | exact qwp hQ
    | (refine qwb (wpAny_load ho ?_)
       rw [hc,hd]
       show wpAny M A (if (["enumerate","zip","dict_itemiterator","dict_reverseitemiterator","odict_iterator","itertools.zip_longest","itertools.pairwise"].contains n && vs[0]? == some (rawInt _))=true then _ else _) Q E s
       rw [if_neg (by intro h;rw [hn,Bool.false_and] at h;cases h)]
       exact qwp hQ))
noncomputable def Itl (K:QFg) (a:Addr):It :=
 ⟨λi H=>∃xs x,SqL K H a xs/\xs[i]? = some x,λi H x H'=>H' = H/\∀xs,SqL K H a xs->xs[i]? = some x,λi H=>∃xs,SqL K H a xs/\xs.length<=i⟩
noncomputable def Itt (K:QFg) (a:Addr):It :=
 ⟨λi H=>∃xs x,SqT K H a xs/\xs[i]? = some x,λi H x H'=>H' = H/\∀xs,SqT K H a xs->xs[i]? = some x,λi H=>∃xs,SqT K H a xs/\xs.length<=i⟩
noncomputable def Itr (lo:Int) (n:Nat):It:=⟨λi _=>i<n,λi H x H'=>H' = H/\x=.int (lo+i),λi _=>n<=i⟩
theorem zwl {P:Program}{w:World}{K:QFg}{tg:Expr}(a it:Addr):Turn P w K tg (Itl K a) [it] it (λi h=>h.IsListIter it a i) where
 mem:=by simp
 obj:=λi h st b hb=>by
  have e:b=it:=by simpa using hb
  subst e
  obtain ⟨o,e,c,d⟩:=st
  exact ⟨o,e,λv z=>by rw [d] at z;cases z⟩
 keep:=λi h h' st k=>st.at λo e=>k it (by simp) o e
 item:=by
  intro X hP hw hK hc i pins s σ H E I hf st hg
  subst hP hw hK
  obtain ⟨xs,x,hq,hx⟩:=hg
  obtain ⟨its,rv,p,hz⟩:=I.list hq
  obtain ⟨u,hu,ru⟩:=rv.get hx
  obtain ⟨f0,f1,f2,f3,f4,f5⟩:=hf it (by simp)
  refine wpAny_pyNext_list_item st p.isList (x:=u) (by simpa using hu) λh' st' sb=>?_
  have I1:Inv X pins σ H { s with heap:=h' }:=I.turned (t':=s.toks) (λb o hb e=>(sb.2 b hb).trans e) f0 f1 f3 f4 f5
  obtain ⟨o,e,c,d⟩:=id st'
  exact ⟨u,rfl,zlk (s:={ s with heap:=h' }) e c d (by decide) ⟨x,H,I1,ru,⟨rfl,λys hy=>by rw [I.list_inj hy hq];exact hx⟩,st',λb hb=>(hf b hb).1⟩⟩
 done:=by
  intro X hP hw hK hc i pins s σ H E I hf st hg
  subst hP hw hK
  obtain ⟨xs,hq,hx⟩:=hg
  obtain ⟨its,rv,p,hz⟩:=I.list hq
  obtain ⟨f0,f1,f2,f3,f4,f5⟩:=hf it (by simp)
  have hl:=rv.length
  exact wpAny_pyNext_list_end (I.ok.hd hc) st p.isList (by simp;omega) λh' eb=>⟨rfl,I.turned (t':=s.toks) (λb o hb e=>eb b o hb e) f0 f1 f3 f4 f5⟩
 self:=λ_ _ _ _ _ st h=>wpAny_pyIter_listiter st h
theorem zwm {P:Program}{w:World}{K:QFg}{tg:Expr}(a it:Addr):Turn P w K tg (Itt K a) [it] it (λi h=>h.IsTupleIter it a i) where
 mem:=by simp
 obj:=λi h st b hb=>by
  have e:b=it:=by simpa using hb
  subst e
  obtain ⟨o,e,c,d⟩:=st
  exact ⟨o,e,λv z=>by rw [d] at z;cases z⟩
 keep:=λi h h' st k=>st.at λo e=>k it (by simp) o e
 item:=by
  intro X hP hw hK hc i pins s σ H E I hf st hg
  subst hP hw hK
  obtain ⟨xs,x,hq,hx⟩:=hg
  obtain ⟨its,rv,p,hz⟩:=I.tuple hq
  obtain ⟨u,hu,ru⟩:=rv.get hx
  obtain ⟨f0,f1,f2,f3,f4,f5⟩:=hf it (by simp)
  refine wpAny_pyNext_tuple_item st (show s.heap.IsTuple a its.toArray from p) (x:=u) (by simpa using hu) λh' st' sb=>?_
  have I1:Inv X pins σ H { s with heap:=h' }:=I.turned (t':=s.toks) (λb o hb e=>(sb.2 b hb).trans e) f0 f1 f3 f4 f5
  obtain ⟨o,e,c,d⟩:=id st'
  exact ⟨u,rfl,zlk (s:={ s with heap:=h' }) e c d (by decide) ⟨x,H,I1,ru,⟨rfl,λys hy=>by rw [I.tuple_inj hy hq];exact hx⟩,st',λb hb=>(hf b hb).1⟩⟩
 done:=by
  intro X hP hw hK hc i pins s σ H E I hf st hg
  subst hP hw hK
  obtain ⟨xs,hq,hx⟩:=hg
  obtain ⟨its,rv,p,hz⟩:=I.tuple hq
  obtain ⟨f0,f1,f2,f3,f4,f5⟩:=hf it (by simp)
  have hl:=rv.length
  exact wpAny_pyNext_tuple_end (I.ok.hd hc) st (show s.heap.IsTuple a its.toArray from p) (by simp;omega) λh' eb=>⟨rfl,I.turned (t':=s.toks) (λb o hb e=>eb b o hb e) f0 f1 f3 f4 f5⟩
 self:=λ_ _ _ _ _ st h=>wpAny_pyIter_tupleiter st h
theorem zwn {P:Program}{w:World}{K:QFg}{tg:Expr}(it:Addr) (lo:Int) (n:Nat):Turn P w K tg (Itr lo n) [it] it (λi h=>IsRangeIter h it (lo+(i:Nat)*1) ((n:Int)-(i:Nat)) 1) where
 mem:=by simp
 obj:=λi h st b hb=>by
  have e:b=it:=by simpa using hb
  subst e
  exact ⟨_,st,λv z=>by
   have z':Data.fields _=Data.cell v:=z
   cases z'⟩
 keep:=λi h h' st k=>k it (by simp) _ st
 item:=by
  intro X hP hw hK hc i pins s σ H E I hf st hg
  subst hP hw hK
  obtain ⟨f0,f1,f2,f3,f4,f5⟩:=hf it (by simp)
  have W:=Walks.range (prog:=X.prog) (w:=X.w) (I.ok.hd hc) it lo 1 n
  refine W.item i s _ _ hg st λv h' tk hv st' kk=>?_
  obtain ⟨t,rfl⟩:=hv
  have I1:Inv X pins σ H { s with heap:=h',toks:=tk }:=I.turned (λb o hb e=>kk b o (by simpa using hb) e) f0 f1 f3 f4 f5
  refine ⟨_,rfl,zlk (s:={ s with heap:=h',toks:=tk }) (n:="range_iterator") st' rfl rfl (by decide) ⟨.int (lo+i),H,I1,⟨t,?_⟩,⟨rfl,rfl⟩,st',λb hb=>(hf b hb).1⟩⟩
  rw [Int.mul_one]
 done:=by
  intro X hP hw hK hc i pins s σ H E I hf st hg
  subst hP hw hK
  obtain ⟨f0,f1,f2,f3,f4,f5⟩:=hf it (by simp)
  exact wpAny_pyNext_range_end (I.ok.hd hc) st (by have:n<=i:=hg;omega) λh' eb=>⟨rfl,I.turned (t':=s.toks) (λb o hb e=>eb b o hb e) f0 f1 f3 f4 f5⟩
 self:=λ_ _ _ _ _ st h=>wpAny_pyIter_rangeiter st h
section
variable {X:Cx}{tg:Expr}
def zwo (K:QFg) (tl:TE):TI:=λσ H R=>tl σ H λx H1=>∃a,x=.ref a/\(∃xs,SqL K H1 a xs)/\R (Itl K a) H1
def zwp (K:QFg) (tl:TE):TI:=λσ H R=>tl σ H λx H1=>∃a,x=.ref a/\(∃xs,SqT K H1 a xs)/\R (Itt K a) H1
theorem zoi {l:Expr}{tl:TE}(hl:PE X l tl):PI X tg l (zwo X.K tl):=by
 intro pins s σ H R I h
 refine thn (hl pins s σ H _ I h) λv s1 ⟨x,H1,I1,r1,q1⟩=>?_
 obtain ⟨a,e,⟨xs,hq⟩,q⟩:=q1
 subst e
 cases r1
 obtain ⟨its,rv,p,hz⟩:=I1.list hq
 refine wpAny_pyIter_list p.isList ?_
 refine ⟨s1.heap.objs.size,[s1.heap.objs.size],_,_,H1,rfl,I1.kept (t':=s1.toks) λb o e=>qps _ e,zwl a _,⟨_,Heap.get?_push_size _ rfl,rfl,rfl⟩,λb hb=>?_,q⟩
 have e:b=s1.heap.objs.size:=by simpa using hb
 subst e
 exact I1.fpOk (qlr _) (I1.hok.fresh (qlr _))
theorem zll {l:Expr}{tl:TE}(hl:PE X l tl):PI X tg l (zwp X.K tl):=by
 intro pins s σ H R I h
 refine thn (hl pins s σ H _ I h) λv s1 ⟨x,H1,I1,r1,q1⟩=>?_
 obtain ⟨a,e,⟨xs,hq⟩,q⟩:=q1
 subst e
 cases r1
 obtain ⟨its,rv,p,hz⟩:=I1.tuple hq
 refine wpAny_pyIter_tuple (show s1.heap.IsTuple a its.toArray from p) ?_
 refine ⟨s1.heap.objs.size,[s1.heap.objs.size],_,_,H1,rfl,I1.kept (t':=s1.toks) λb o e=>qps _ e,zwm a _,⟨_,Heap.get?_push_size _ rfl,rfl,rfl⟩,λb hb=>?_,q⟩
 have e:b=s1.heap.objs.size:=by simpa using hb
 subst e
 exact I1.fpOk (qlr _) (I1.hok.fresh (qlr _))
theorem zoj {pins:List (Addr × Obj)}{σ:St}{H:Hp}{s:Shared}{R:It->Hp->Prop}{E:Value->Shared->Prop}{lo hi:Int}{t u v:Tok}{tk:Nat}(I:Inv X pins σ H s) (h1:-(2 ^ 62)<=lo) (h2:lo<2 ^ 62) (h3:-(2 ^ 62)<=hi) (h4:hi<2 ^ 62)
  (q:R (Itr lo (hi-lo).toNat) H):wpAny (model X.prog X.w) X.A (pyIter (.ref s.heap.objs.size)) (PIE X pins σ tg R) E { s with heap:=s.heap.push { cls:=.type "range",data:=.fields #[.int lo t,.int hi u,.int 1 v] },toks:=tk }:=by
 refine wpAny_pyIter_range (IsRange.new ..) (small_one h1 h2 h3 h4) ?_
 have I1:Inv X pins σ H { s with heap:=s.heap.push { cls:=.type "range",data:=.fields #[.int lo t,.int hi u,.int 1 v] },toks:=tk }:=I.kept λb o e=>qps _ e
 refine ⟨(s.heap.push { cls:=.type "range",data:=.fields #[.int lo t,.int hi u,.int 1 v] }).objs.size,[(s.heap.push { cls:=.type "range",data:=.fields #[.int lo t,.int hi u,.int 1 v] }).objs.size],_,_,H,rfl,
  I1.kept (t':=tk) λb o e=>qps _ e,zwn _ lo (hi-lo).toNat,?_,λb hb=>?_,q⟩
 ·have e1:lo+((0:Nat):Int)*1=lo:=by simp
  have e2:(((hi-lo).toNat:Nat):Int)-((0:Nat):Int)=Builtin.Range.rangeSize lo hi 1:=by rw [rangeSize_one];split <;> omega
  show IsRangeIter _ _ (lo+((0:Nat):Int)*1) ((((hi-lo).toNat:Nat):Int)-((0:Nat):Int)) 1
  rw [e1,e2]
  exact Heap.get?_push_size _ rfl
 ·have e:b=(s.heap.push { cls:=.type "range",data:=.fields #[.int lo t,.int hi u,.int 1 v] }).objs.size:=by simpa using hb
  subst e
  exact I1.fpOk (qlr _) (I1.hok.fresh (qlr _))
def zwq (ta:TA):TI:=λσ H R=>ta σ H λvs H1=>∃j:Int,vs=[.int j]/\-(2 ^ 62)<=j/\j<2 ^ 62/\R (Itr 0 j.toNat) H1
def zwr (ta:TA):TI:=λσ H R=>ta σ H λvs H1=>∃i j:Int,vs=[.int i,.int j]/\(-(2 ^ 62)<=i/\i<2 ^ 62/\-(2 ^ 62)<=j/\j<2 ^ 62)/\R (Itr i (j-i).toNat) H1
theorem zok {a:Expr}{ta:TA}{p pos:Pos}(hg:Gl X "range") (hm:X.mg "range" = none) (ha:PA X [a] ta) (hs:starEach [a] X.env=[(false,eval a X.env)]:=by rfl):PI X tg (.Call (.Name "range" p) [a] [] pos) (zwq ta):=by
 intro pins s σ H R I h
 refine Call_ (zem I hg hm boot_range (PyProof.Rows.callWith_type1 (thn (ha pos pins s σ H _ I h) λus s1 ⟨vs,H1,I1,r1,q1⟩=>?_) hs rfl))
 obtain ⟨j,e,q1,q2,q⟩:=q1
 subst e
 cases r1 with
 | cons r rr =>
  cases rr
  obtain ⟨t,rfl⟩:=r
  exact call_range_1 (zoj I1 (by omega) (by omega) q1 q2 (by simpa using q))
theorem zws {a b:Expr}{ta:TA}{p pos:Pos}(hg:Gl X "range") (hm:X.mg "range" = none) (ha:PA X [a,b] ta) (hs:starEach [a,b] X.env=[(false,eval a X.env),(false,eval b X.env)]:=by rfl) (hs2:starEach [b] X.env=[(false,eval b X.env)]:=by rfl) :
  PI X tg (.Call (.Name "range" p) [a,b] [] pos) (zwr ta):=by
 intro pins s σ H R I h
 refine Call_ (zem I hg hm boot_range (PyProof.Rows.callWith_type1 (thn (ha pos pins s σ H _ I h) λus s1 ⟨vs,H1,I1,r1,q1⟩=>?_) (by rw [hs,hs2]) (by rw [hs2];rfl)))
 obtain ⟨i,j,e,⟨q1,q2,q3,q4⟩,q⟩:=q1
 subst e
 cases r1 with
 | cons r rr =>
  cases rr with
  | cons r' rr =>
   cases rr
   obtain ⟨t,rfl⟩:=r
   obtain ⟨t',rfl⟩:=r'
   exact call_range_2 (zoj I1 q1 q2 q3 q4 q)
def zwt (wi:TI) (g:TG) (tb:TS):TS:=λD σ H=>wi σ H λJ H1=>∃W:Nat->Nat->St->Hp->Prop,(∃m,W 0 m σ H1)/\∀i m σ H,W i m σ H ->
 (J.stop i H/\D.nx σ H)\/(J.go i H/\∃N:St->Hp->Prop,(∀σ' H',N σ' H'->∃m',m' < m/\W (i+1) m' σ' H')/\∀x H',J.yld i H x H'->g x σ H' λσ2 H2=>tb { D with nx:=N,ct:=N,bk:=D.nx } σ2 H2)
noncomputable def zic (fp:List Addr) (h:Heap):List (Addr × Obj):=fp.filterMap λb=>(h.get? b).map λo=>(b,o)
theorem zjy {fp:List Addr}{h:Heap}{b:Addr}{o:Obj}(hb:b∈fp) (e:h.get? b=some o):(b,o)∈zic fp h:=List.mem_filterMap.mpr ⟨b,hb,by rw [e];rfl⟩
theorem zwu {fp:List Addr}{h:Heap}{p:Addr × Obj}(hp:p∈zic fp h):p.1∈fp/\h.get? p.1=some p.2:=by
 obtain ⟨b,hb,e⟩:=List.mem_filterMap.mp hp
 cases q:h.get? b with
 | none=>rw [q] at e;cases e
 | some o =>
  rw [q] at e
  have e':(b,o)=p:=qoi e
  subst e'
  exact ⟨hb,q⟩
theorem Inv.pinned {pins:List (Addr × Obj)}{σ:St}{H:Hp}{s:Shared}{fp:List Addr}(I:Inv X pins σ H s) (hf:∀b∈fp,zdo X pins H b) (ho:∀b∈fp,∃o,s.heap.get? b=some o/\∀v,o.data≠.cell v):Inv X (pins++zic fp s.heap) σ H s :=
 I.pins_of λp hp=>(List.mem_append.mp hp).elim (λz=>I.pin p (List.mem_append_right _ z)) λz=>by
  obtain ⟨hb,e⟩:=zwu z
  obtain ⟨f0,f1,f2,_⟩:=hf p.1 hb
  obtain ⟨o,e',d⟩:=ho p.1 hb
  rw [e] at e';cases e'
  exact ⟨e,f0,f1,f2,d⟩
theorem Inv.unpinned {pins pl:List (Addr × Obj)}{σ:St}{H:Hp}{s:Shared}(I:Inv X (pins++pl) σ H s):Inv X pins σ H s:=I.pins_of λp hp=>I.pin p (List.mem_append_right _ (List.mem_append_left _ hp))
theorem zid {iter:Expr}{body:List Stmt}{wi:TI}{g:TG}{tb:TS}{pos:Pos}(hp:PassesOwn (model X.prog X.w) X.A X.env X.xe) (hc:X.calm=true) (hi:PI X tg iter wi) (hg:PG X tg g) (hb:PSs X body tb)
  (hs:∀x,foldedSetIterable iter X.env x=pure x:=by intro _;rfl):PS X (.For tg iter body [] pos) (zwt wi g tb):=by
 intro pins s σ H D I h
 refine wpAny_For (thn (hi pins s σ H _ I h) λv s1 h1=>thn h1 λitv s2 h2=>?_) hs
 obtain ⟨it,fp,tn,J,H2,e,I2,T,st2,f2,W,⟨m0,w0⟩,turn⟩:=h2
 subst e
 have stat:∀{H':Hp},(∀b∈fp,H' b=none)->∀b∈fp,zdo X pins H' b:=λhn b hb=>⟨hn b hb,(f2 b hb).2⟩
 refine codeAny_forLoop_any (λn s'=>∃i σ' H',Inv X pins σ' H' s'/\tn i s'.heap/\(∀b∈fp,H' b=none)/\W i n σ' H') ?_ m0 ⟨0,σ,H2,I2,st2,λb hb=>(f2 b hb).1,w0⟩
 rintro n s3 ⟨i,σ3,H3,I3,st3,fr3,w3⟩
 rcases turn i n σ3 H3 w3 with ⟨stop,qn⟩|⟨go,N,hN,step⟩
 ·refine wpAny_passesOwn hp (thn (T.done X rfl rfl rfl hc i pins s3 σ3 H3 X.xe I3 (stat fr3) st3 stop) λr s4 ⟨hr,I4⟩=>?_)
  subst hr
  exact wpAny_execs_nil ⟨σ3,H3,I4,qn⟩
 ·refine wpAny_passesOwn hp (thn (T.item X rfl rfl rfl hc i pins s3 σ3 H3 X.xe I3 (stat fr3) st3 go) λr s4 ⟨u,hr,h4⟩=>?_)
  subst hr
  refine wpAny_passesOwn hp (thn h4 λ_ s5 ⟨x,H5,I5,r5,y5,st5,fr5⟩=>?_)
  have I5':=I5.pinned (stat fr5) (T.obj _ _ st5)
  refine wpAny_passesOwn hp (thn (hg _ s5 σ3 H5 x u _ I5' r5 (step x H5 y5)) λ_ s6 ⟨σ6,H6,I6,q6⟩=>?_)
  refine wpAny_passesOwn hp (thn (hb _ s6 σ6 H6 _ I6 q6) λf s7 q7=>?_)
  have again:∀{σ7:St} {H7:Hp},Inv X (pins++zic fp s5.heap) σ7 H7 s7->N σ7 H7->∃m,m<n/\∃i σ' H',Inv X pins σ' H' s7/\tn i s7.heap/\(∀b∈fp,H' b=none)/\W i m σ' H':=λ{σ7 H7} I7 n7=>by
   obtain ⟨m',hm,w7⟩:=hN σ7 H7 n7
   refine ⟨m',hm,i+1,σ7,H7,I7.unpinned,T.keep _ _ _ st5 λb hb o e=>(I7.pin (b,o) (List.mem_append_right _ (List.mem_append_right _ (zjy hb e)))).1,λb hb=>?_,w7⟩
   obtain ⟨o,e,d⟩:=T.obj _ _ st5 b hb
   exact (I7.pin (b,o) (List.mem_append_right _ (List.mem_append_right _ (zjy hb e)))).2.1
  cases f with
  | next=>obtain ⟨σ7,H7,I7,n7⟩:=q7;exact again I7 n7
  | cont=>obtain ⟨σ7,H7,I7,n7⟩:=q7;exact again I7 n7
  | brk=>obtain ⟨σ7,H7,I7,q7⟩:=q7;exact ⟨σ7,H7,I7.unpinned,q7⟩
  | ret v=>obtain ⟨x7,σ7,H7,I7,r7,q7⟩:=q7;exact ⟨x7,σ7,H7,I7.unpinned,r7,q7⟩
end
abbrev R2:=V->V->Hp->VK->Prop
def OpR (X:Cx) (f:Value->Value->Sem Value) (r:R2):Prop :=
 ∀(pins:List (Addr × Obj)) (s:Shared) (σ:St) (H:Hp) (x y:V) (v u:Value) (Q:VK),Inv X pins σ H s->RelV x v->RelV y u->r x y H Q ->
  wpAny (model X.prog X.w) X.A (f v u) (EP X pins σ Q) X.xe s
def CallR (X:Cx) (f:Value) (r:List V->Hp->VK->Prop):Prop :=
 ∀(pins:List (Addr × Obj)) (s:Shared) (σ:St) (H:Hp) (xs:List V) (us:List Value) (Q:VK),Inv X pins σ H s->Vals xs us->r xs H Q ->
  wpAny (model X.prog X.w) X.A (call f us) (EP X pins σ Q) X.xe s
def tOp (r:R2) (ta tb:TE):TE:=λσ H Q=>ta σ H λx H1=>tb σ H1 λy H2=>r x y H2 Q
def rI (C:Int->Int->Prop) (g:Int->Int->V):R2:=λx y H Q=>∃i j,x=.int i/\y=.int j/\C i j/\Q (g i j) H
def rI0 (g:Int->Int->V):R2:=λx y H Q=>∃i j,x=.int i/\y=.int j/\Q (g i j) H
section
variable {X:Cx}{a b c:Expr}{ta tb tc:TE}{pos:Pos}
theorem zlm (ha:PE X a ta) (hb:PE X b tb) {pins:List (Addr × Obj)}{s:Shared}{σ:St}{H:Hp}{R:V->V->Hp->Prop}(I:Inv X pins σ H s)
  (h:ta σ H λx H1=>tb σ H1 λy H2=>R x y H2) {Q:Value->Shared->Prop} {f:Value->Value->Sem Value}
  (hf:∀v u s2 x y H2,Inv X pins σ H2 s2->RelV x v->RelV y u->R x y H2->wpAny (model X.prog X.w) X.A (f v u) Q X.xe s2) :
  wpAny (model X.prog X.w) X.A (eval a X.env) (λv s₁=>wpAny (model X.prog X.w) X.A (eval b X.env) (λu s₂=>wpAny (model X.prog X.w) X.A (f v u) Q X.xe s₂) X.xe s₁) X.xe s:=by
 refine thn (ha pins s σ H _ I h) λv s1 ⟨x,H1,I1,r1,q1⟩=>?_
 refine thn (hb pins s1 σ H1 _ I1 q1) λu s2 ⟨y,H2,I2,r2,q2⟩=>?_
 exact hf v u s2 x y H2 I2 r1 r2 q2
theorem zwv {op:Operator}{r:R2}(ho:OpR X (binaryOp op) r) (ha:PE X a ta) (hb:PE X b tb):PE X (.BinOp a op b pos) (tOp r ta tb):=by
 intro pins s σ H Q I h
 exact wpAny_BinOp (zlm ha hb I h λv u s2 x y H2 I2 rx ry q=>ho pins s2 σ H2 x y v u Q I2 rx ry q)
theorem opI {f:Value->Value->Sem Value}{C:Int->Int->Prop}{g:Int->Int->Int}
  (rule:∀(i j:Int) (t u:Tok) (s:Shared) (Q:Value->Shared->Prop) (E:Value->Shared->Prop),C i j->Q (.int (g i j) s.toks) { s with toks:=s.toks+1 }->wpAny (model X.prog X.w) X.A (f (.int i t) (.int j u)) Q E s) :
  OpR X f (rI C λi j=>.int (g i j)):=by
 intro pins s σ H x y v u Q I rx ry h
 obtain ⟨i,j,rfl,rfl,hc,q⟩:=h
 obtain ⟨t,rfl⟩:=rx
 obtain ⟨t',rfl⟩:=ry
 exact rule i j t t' s _ _ hc ⟨.int (g i j),H,I.tok _,⟨_,rfl⟩,q⟩
theorem zol {f:Value->Value->Sem Value}{g:Int->Int->Int}
  (rule:∀(i j:Int) (t u:Tok) (s:Shared) (Q:Value->Shared->Prop) (E:Value->Shared->Prop),Q (.int (g i j) s.toks) { s with toks:=s.toks+1 }->wpAny (model X.prog X.w) X.A (f (.int i t) (.int j u)) Q E s) :
  OpR X f (rI0 λi j=>.int (g i j)):=by
 intro pins s σ H x y v u Q I rx ry h
 obtain ⟨i,j,rfl,rfl,q⟩:=h
 obtain ⟨t,rfl⟩:=rx
 obtain ⟨t',rfl⟩:=ry
 exact rule i j t t' s _ _ ⟨.int (g i j),H,I.tok _,⟨_,rfl⟩,q⟩
theorem zln {f:Value->Value->Sem Value}{g:Int->Int->Bool}
  (rule:∀(i j:Int) (t u:Tok) (s:Shared) (Q:Value->Shared->Prop) (E:Value->Shared->Prop),Q (.bool (g i j)) s->wpAny (model X.prog X.w) X.A (f (.int i t) (.int j u)) Q E s) :
  OpR X f (rI0 λi j=>.bl (g i j)):=by
 intro pins s σ H x y v u Q I rx ry h
 obtain ⟨i,j,rfl,rfl,q⟩:=h
 obtain ⟨t,rfl⟩:=rx
 obtain ⟨t',rfl⟩:=ry
 exact rule i j t t' s _ _ ⟨.bl (g i j),H,I,rfl,q⟩
def zjz (i j:Int):Prop:=0<j/\j<1073741824
def zj0 (i j:Int):Prop:=0<=j/\j<=1000000/\i.natAbs<2 ^ 64
def CMul (i j:Int):Prop:=(-(2 ^ 64)<i/\i<2 ^ 64)\/(-(2 ^ 64)<j/\j<2 ^ 64)
theorem CMul.ok {i j:Int}(h:CMul i j):IntMulOk i j:=by
 rcases h with ⟨h1,h2⟩|⟨h1,h2⟩
 ·exact .of_left (intBits_le_64 h1 h2)
 ·exact .of_right (intBits_le_64 h1 h2)
theorem op_add:OpR X (binaryOp .Add) (rI0 λi j=>.int (i+j)):=zol λ_ _ _ _ _ _ _ q=>add_int q
theorem zww:OpR X (binaryOp .Sub) (rI0 λi j=>.int (i-j)):=zol λ_ _ _ _ _ _ _ q=>sub_int q
theorem op_mul:OpR X (binaryOp .Mult) (rI CMul λi j=>.int (i*j)):=opI λ_ _ _ _ _ _ _ hc q=>mul_int q hc.ok
theorem zwx:OpR X (binaryOp .FloorDiv) (rI zjz λi j=>.int (i / j)):=opI λi j _ _ _ _ _ hc q=>by
 have h1:(0:Int)<j:=hc.1
 have h2:j<1073741824:=hc.2
 exact floordiv_int (by omega) (by rw [Int.fdiv_eq_ediv_of_nonneg i (by omega)];exact q) (.inl (PyProof.noPylong_small (by omega)))
theorem zwy:OpR X (binaryOp .Mod) (rI (λ_ j=>0<j) λi j=>.int (i % j)):=opI λi j _ _ _ _ _ hc q=>by
 have h1:(0:Int)<j:=hc
 exact mod_int' (by omega) (by rw [Int.fmod_eq_emod_of_nonneg i (by omega)];exact q)
theorem zwz:OpR X (binaryOp .Pow) (rI zj0 λi j=>.int (i ^ j.toNat)):=opI λ_ _ _ _ _ _ _ hc q=>pow_int_small hc.1 hc.2.1 hc.2.2 q
end
noncomputable def zlo:V->V->Bool
 | .non,.non=>true | .non,.int _=>true | .int _,.non=>true | .non,.bl _=>true | .bl _,.non=>true | .non,.str _=>true | .str _,.non=>true
 | .int _,.int _=>true | .bl _,.bl _=>true | .str _,.str _=>true | .byt _,.byt _=>true
 | .int _,.str _=>true | .str _,.int _=>true | .bl _,.str _=>true | .str _,.bl _=>true
 | _,_=>false
def rEq:R2:=λx y H Q=>zlo x y=true/\Q (.bl (decide (x=y))) H
def rNe:R2:=λx y H Q=>zlo x y=true/\Q (.bl (!decide (x=y))) H
theorem zom {i j:Int}:decide (V.int i=V.int j)=(i == j):=by
 rw [Bool.eq_iff_iff]
 simp
theorem zon {i j:Bool}:decide (V.bl i=V.bl j)=(i == j):=by
 rw [Bool.eq_iff_iff]
 simp
theorem zoo {i j:Str}:decide (V.str i=V.str j)=(i == j):=by
 rw [Bool.eq_iff_iff]
 simp
theorem zop {i j:Array UInt8}:decide (V.byt i=V.byt j)=(i.toList == j.toList):=by
 rw [Bool.eq_iff_iff]
 cases i
 cases j
 simp
section
variable {X:Cx}{a b c:Expr}{ta tb tc:TE}{pos:Pos}
theorem zbe {pins:List (Addr × Obj)}{σ:St}{H:Hp}{s:Shared}{Q:VK}{k k':Bool}(I:Inv X pins σ H s) (q:Q (.bl k) H) (e:k=k'):EP X pins σ Q (.bool k') s:=by
 subst e
 exact ⟨.bl k,H,I,rfl,q⟩
theorem zw0:OpR X (compareOp .Eq) rEq:=by
 intro pins s σ H x y v u Q I rx ry h
 obtain ⟨hs,q⟩:=h
 cases x with
 | non =>
  cases rx
  cases y with
  | non=>cases ry;exact PySem.EqNone.eq_none_none (zbe I q (by simp))
  | bl j=>cases ry;exact PySem.EqNone.eq_none_bool (zbe I q (by simp))
  | int j=>obtain ⟨t',rfl⟩:=ry;exact PySem.EqNone.eq_none_int (zbe I q (by simp))
  | str j=>obtain ⟨t',rfl⟩:=ry;exact PySem.EqNone.eq_none_str (zbe I q (by simp))
  | _=>exact absurd (show false=true from hs) Bool.false_ne_true
 | bl i =>
  cases rx
  cases y with
  | non=>cases ry;exact PySem.EqNone.eq_bool_none (zbe I q (by simp))
  | bl j=>cases ry;exact eq_bool (zbe I q zon)
  | str j=>obtain ⟨t',rfl⟩:=ry;exact PySem.EqMixed.eq_bool_str (zbe I q (by simp))
  | _=>exact absurd (show false=true from hs) Bool.false_ne_true
 | int i =>
  obtain ⟨t,rfl⟩:=rx
  cases y with
  | non=>cases ry;exact PySem.EqNone.eq_int_none (zbe I q (by simp))
  | int j=>obtain ⟨t',rfl⟩:=ry;exact eq_int (zbe I q zom)
  | str j=>obtain ⟨t',rfl⟩:=ry;exact PySem.EqMixed.eq_int_str (zbe I q (by simp))
  | _=>exact absurd (show false=true from hs) Bool.false_ne_true
 | str i =>
  obtain ⟨t,rfl⟩:=rx
  cases y with
  | non=>cases ry;exact PySem.EqNone.eq_str_none (zbe I q (by simp))
  | bl j=>cases ry;exact PySem.EqMixed.eq_str_bool (zbe I q (by simp))
  | int j=>obtain ⟨t',rfl⟩:=ry;exact PySem.EqMixed.eq_str_int (zbe I q (by simp))
  | str j=>obtain ⟨t',rfl⟩:=ry;exact eq_str (zbe I q zoo)
  | _=>exact absurd (show false=true from hs) Bool.false_ne_true
 | byt i =>
  obtain ⟨t,rfl⟩:=rx
  cases y with
  | byt j=>obtain ⟨t',rfl⟩:=ry;exact PySem.W.eq_bytes (zbe I q zop)
  | _=>exact absurd (show false=true from hs) Bool.false_ne_true
 | _=>cases y <;> exact absurd (show false=true from hs) Bool.false_ne_true
theorem zoq:OpR X (compareOp .NotEq) rNe:=by
 intro pins s σ H x y v u Q I rx ry h
 obtain ⟨hs,q⟩:=h
 cases x with
 | non =>
  cases rx
  cases y with
  | non=>cases ry;exact PySem.EqNone.ne_none_none (zbe I q (by simp))
  | bl j=>cases ry;exact PySem.EqNone.ne_none_bool (zbe I q (by simp))
  | int j=>obtain ⟨t',rfl⟩:=ry;exact PySem.EqNone.ne_none_int (zbe I q (by simp))
  | str j=>obtain ⟨t',rfl⟩:=ry;exact PySem.EqNone.ne_none_str (zbe I q (by simp))
  | _=>exact absurd (show false=true from hs) Bool.false_ne_true
 | bl i =>
  cases rx
  cases y with
  | non=>cases ry;exact PySem.EqNone.ne_bool_none (zbe I q (by simp))
  | bl j=>cases ry;exact ne_bool (zbe I q (congrArg not zon))
  | str j=>obtain ⟨t',rfl⟩:=ry;exact PySem.EqMixed.ne_bool_str (zbe I q (by simp))
  | _=>exact absurd (show false=true from hs) Bool.false_ne_true
 | int i =>
  obtain ⟨t,rfl⟩:=rx
  cases y with
  | non=>cases ry;exact PySem.EqNone.ne_int_none (zbe I q (by simp))
  | int j=>obtain ⟨t',rfl⟩:=ry;exact ne_int (zbe I q (congrArg not zom))
  | str j=>obtain ⟨t',rfl⟩:=ry;exact PySem.EqMixed.ne_int_str (zbe I q (by simp))
  | _=>exact absurd (show false=true from hs) Bool.false_ne_true
 | str i =>
  obtain ⟨t,rfl⟩:=rx
  cases y with
  | non=>cases ry;exact PySem.EqNone.ne_str_none (zbe I q (by simp))
  | bl j=>cases ry;exact PySem.EqMixed.ne_str_bool (zbe I q (by simp))
  | int j=>obtain ⟨t',rfl⟩:=ry;exact PySem.EqMixed.ne_str_int (zbe I q (by simp))
  | str j=>obtain ⟨t',rfl⟩:=ry;exact ne_str (zbe I q (congrArg not zoo))
  | _=>exact absurd (show false=true from hs) Bool.false_ne_true
 | byt i =>
  obtain ⟨t,rfl⟩:=rx
  cases y with
  | byt j=>obtain ⟨t',rfl⟩:=ry;exact PySem.W.ne_bytes (zbe I q (congrArg not zop))
  | _=>exact absurd (show false=true from hs) Bool.false_ne_true
 | _=>cases y <;> exact absurd (show false=true from hs) Bool.false_ne_true
theorem zw1:OpR X (compareOp .Lt) (rI0 λi j=>.bl (decide (i<j))):=zln λ_ _ _ _ _ _ _ q=>lt_int q
theorem zw2:OpR X (compareOp .Gt) (rI0 λi j=>.bl (decide (j<i))):=zln λ_ _ _ _ _ _ _ q=>gt_int q
theorem zw3:OpR X (compareOp .GtE) (rI0 λi j=>.bl (decide (j<=i))):=zln λ_ _ _ _ _ _ _ q=>ge_int q
theorem zor:OpR X (compareOp .Is) (λx y H Q=>y=.non/\Q (.bl (decide (x=.non))) H):=by
 intro pins s σ H x y v u Q I rx ry h
 obtain ⟨rfl,q⟩:=h
 cases ry
 refine is_none_gen (zbe I q ?_)
 cases x <;> first
  | (cases rx;rfl)
  | (obtain ⟨t,rfl⟩:=rx;rfl)
theorem zw4:OpR X (compareOp .IsNot) (λx y H Q=>y=.non/\Q (.bl (!decide (x=.non))) H):=by
 intro pins s σ H x y v u Q I rx ry h
 obtain ⟨rfl,q⟩:=h
 cases ry
 refine isnot_none_gen (zbe I q ?_)
 cases x <;> first
  | (cases rx;rfl)
  | (obtain ⟨t,rfl⟩:=rx;rfl)
theorem OpR.or {f:Value->Value->Sem Value}{r r':R2}(h:OpR X f r) (h':OpR X f r'):OpR X f (λx y H Q=>r x y H Q\/r' x y H Q):=by
 intro pins s σ H x y v u Q I rx ry q
 rcases q with q|q
 ·exact h pins s σ H x y v u Q I rx ry q
 ·exact h' pins s σ H x y v u Q I rx ry q
theorem zdp (b:Expr) {op:CmpOp}(h:op≠.In:=by decide) (h2:op≠.NotIn:=by decide):behindInMarks op b=false:=by
 have e1:(op == CmpOp.In)=false:=by cases op <;> first|rfl|exact absurd rfl h
 have e2:(op == CmpOp.NotIn)=false:=by cases op <;> first|rfl|exact absurd rfl h2
 cases b <;> simp [behindInMarks,e1,e2]
theorem zw5 {op:CmpOp}{r:R2}(ho:OpR X (compareOp op) r) (ha:PE X a ta) (hb:PE X b tb) (hm:behindInMarks op b=false):PE X (.Compare a [op] [b] pos) (tOp r ta tb):=by
 intro pins s σ H Q I h
 exact wpAny_Compare1 (zlm ha hb I h λv u s2 x y H2 I2 rx ry q=>ho pins s2 σ H2 x y v u Q I2 rx ry q) hm
def zw6 (t:TE):TT:=λσ H Q=>t σ H λx H'=>∃k,x=.bl k/\Q k H'
theorem zw7 {op:CmpOp}{r:R2}(ho:OpR X (compareOp op) r) (ha:PE X a ta) (hb:PE X b tb) (hm:behindInMarks op b=false):PT X (.Compare a [op] [b] pos) (zw6 (tOp r ta tb)):=by
 intro pins s σ H Q I h
 refine wpAny_isTrue_Compare1 (thn (ha pins s σ H _ I h) λv s1 ⟨x,H1,I1,r1,q1⟩=>thn (hb pins s1 σ H1 _ I1 q1) λu s2 ⟨y,H2,I2,r2,q2⟩ =>
  thn (ho pins s2 σ H2 x y v u _ I2 r1 r2 q2) λc s3 ⟨z,H3,I3,r3,k,e,q3⟩=>?_) hm
 subst e
 cases r3
 exact wpAny_truthy_bool ⟨H3,I3,q3⟩
theorem zgz:(sizeLine:Nat)<2 ^ 63:=by rw [sizeLine_eq];decide
theorem op_add_str:OpR X (binaryOp .Add) (λx y H Q=>∃i j,x=.str i/\y=.str j/\i.length+j.length<=sizeLine/\Q (.str (i++j)) H):=by
 intro pins s σ H x y v u Q I rx ry h
 obtain ⟨i,j,rfl,rfl,hz,q⟩:=h
 obtain ⟨t,rfl⟩:=rx
 obtain ⟨t',rfl⟩:=ry
 exact add_str (λt' tk=>⟨.str (i++j),H,I.tok _,⟨_,rfl⟩,q⟩) hz
theorem zdq {x:V}{us:List Value}(r:Vals [x] us):∃u,us=[u]/\RelV x u:=by
 cases r with
 | cons r1 r2=>cases r2;exact ⟨_,rfl,r1⟩
theorem zw8:CallR X (.builtin "abs") (λxs H Q=>∃i,xs=[.int i]/\Q (.int (if i<0 then -i else i)) H):=by
 intro pins s σ H xs us Q I r h
 obtain ⟨i,rfl,q⟩:=h
 obtain ⟨u,rfl,t,rfl⟩:=zdq r
 exact call_abs_int λu tk=>⟨.int (if i<0 then -i else i),H,I.tok _,⟨_,rfl⟩,q⟩
theorem zw9:CallR X (.type "int") (λxs H Q=>(∃i,xs=[.int i]/\Q (.int i) H)\/∃k,xs=[.bl k]/\Q (.int (if k then 1 else 0)) H):=by
 intro pins s σ H xs us Q I r h
 rcases h with ⟨i,rfl,q⟩|⟨k,rfl,q⟩
 ·obtain ⟨u,rfl,t,rfl⟩:=zdq r
  exact call_int_int ⟨.int i,H,I,⟨_,rfl⟩,q⟩
 ·obtain ⟨u,rfl,r1⟩:=zdq r
  cases r1
  exact call_int_bool ⟨.int (if k then 1 else 0),H,I.tok _,⟨_,rfl⟩,q⟩
end
section
variable {prog:Program}{w:World}{A:Around}{E:Value->Shared->Prop}{s:Shared}{K:QFg}{x dx C f:Addr}{mA:Str->Option Value}{name:Str}{v:Value}
end
theorem RelO.some_of {v:V}{o:Option Value}(r:RelO (some v) o):∃u,o=some u/\RelV v u:=by
 cases o with
 | none=>exact (show False from r).elim
 | some u=>exact ⟨u,rfl,r⟩
section
variable {P:Program}{w:World}{H H':Hp}{h h':Heap}{a C dx:Addr}{fs fs':List (Str × V)}
end
section
variable {X:Cx}{pins:List (Addr × Obj)}{σ:St}{H:Hp}{s:Shared}{a C dx:Addr}{fs:List (Str × V)}{f:Str}{v:V}{A:Around}{E:Value->Shared->Prop}
end
section
variable {X:Cx}{o e value:Expr}{f:Str}{pos pos' tpos:Pos}{ta tv:TE}
def rAdd:V->V->Hp->VK->Prop:=λx y H Q=>∃i j,x=.int i/\y=.int j/\Q (.int (i+j)) H
end
section
variable {X:Cx}{pins:List (Addr × Obj)}{σ:St}{H:Hp}{s:Shared}{A:Around}{E:Value->Shared->Prop}{Q:Value->Shared->Prop}{c:Value}{b:Bool}
end
structure Room (k:Nat) (A:Around):Prop where
 hd:A.handled=none
 dp:A.depth+3*k+5<recursionLimit
 un:A.units+16*k+200<cLine
 gd:A.guards=some []
theorem Room.mono {j k:Nat}{A:Around}(r:Room k A) (h:j<=k):Room j A:=⟨r.hd,by have:=r.dp;omega,by have:=r.un;omega,r.gd⟩
theorem Room.deeper {k:Nat}{A:Around}(r:Room (k+1) A) (env:Env):Room k (A.deeper env) :=
 ⟨r.hd,by have:=r.dp;show A.depth+1+3*k+5<_;omega,by have:=r.un;show A.units+3+16*k+200<_;omega,r.gd⟩
theorem Room.depth {k:Nat}{A:Around}(r:Room k A):A.depth<recursionLimit:=by have:=r.dp;omega
def zxa:TA:=λ_ H Q=>Q [] H
def zxb (ta:TE) (tr:TA):TA:=λσ H Q=>ta σ H λx H1=>tr σ H1 λxs H2=>Q (x :: xs) H2
section
variable {X:Cx}{e:Expr}{es:List Expr}{te:TE}{t:TA}{pos:Pos}
theorem zg0:PA X [] zxa:=λ_ _ _ _ H Q I h=>Calls.spliced_nil ⟨[],H,I,.nil,h⟩
theorem zfa (ha:PE X e te) (hr:PA X es t) (hs:starEach (e :: es) X.env=(false,eval e X.env) :: starEach es X.env:=by rfl):PA X (e :: es) (zxb te t):=by
 intro pos pins s σ H Q I h
 rw [hs]
 show wpAny _ _ (spliced ((false,eval e X.env) :: backTo pos (starEach es X.env))) _ _ s
 refine Calls.spliced_cons (thn (ha pins s σ H _ I h) λu s1 ⟨x,H1,I1,r1,q1⟩=>?_)
 exact thn (hr pos pins s1 σ H1 _ I1 q1) λus s2 ⟨xs,H2,I2,r2,q2⟩=>⟨x :: xs,H2,I2,.cons r1 r2,q2⟩
def zxc (t:TA):TE:=λσ H Q=>t σ H λxs H1=>xs.length<=sizeLine/\∀p,H1 p=none->Q (.ref p) (upd H1 p (.tup xs))
def zxd (t:TA):TE:=λσ H Q=>t σ H λxs H1=>xs.length<=sizeLine/\∀p,H1 p=none->Q (.ref p) (upd H1 p (.lst xs))
theorem zxe {x1}(h:PA X es t):PE X (.Tuple es x1 pos) (zxc t):=by
 intro pins s σ H Q I hq
 refine wpAny_Tuple_spliced (thn (h pos pins s σ H _ I hq) λus s1 ⟨xs,H1,I1,r,z,q⟩=>⟨by rw [<-r.length];exact z,?_⟩)
 have hf:H1 s1.heap.objs.size=none:=I1.hok.fresh (qlr _)
 refine ⟨.ref s1.heap.objs.size,upd H1 s1.heap.objs.size (.tup xs),I1.laid (t':=s1.toks) (λb u e=>qps _ e) (qlr _) ?_,rfl,q _ hf⟩
 exact ⟨z,us,r,IsTD.new _ _⟩
theorem zxf (h:PA X es t):PE X (.List es pos) (zxd t):=by
 intro pins s σ H Q I hq
 refine wpAny_List_spliced (thn (h pos pins s σ H _ I hq) λus s1 ⟨xs,H1,I1,r,z,q⟩=>⟨by rw [<-r.length];exact z,?_⟩)
 have hf:H1 s1.heap.objs.size=none:=I1.hok.fresh (qlr _)
 refine ⟨.ref s1.heap.objs.size,upd H1 s1.heap.objs.size (.lst xs),I1.laid (t':=s1.toks) (λb u e=>qps _ e) (qlr _) ?_,rfl,q _ hf⟩
 exact ⟨z,us,0,r,Heap.get?_push_size _ rfl⟩
end
abbrev Sp:=List V->Hp->VK->XK->Prop
abbrev CXT:=List Env->Hp->Shared->XK->Value->Shared->Prop
structure Env0 (P:Program) (w:World) (K:QFg) (mg:Str->Option Value) (base:Heap) (A:Around) (outer:List Env) (s:Shared) (H:Hp):Prop where
 frames:A.frames=some outer
 mod:Mod K mg base
 bs:∀b o,base.get? b=some o->s.heap.get? b=some o/\H b=none
 bsz:base.objs.size<=s.heap.objs.size
 funs:s.heap.FunFrames base outer
 frf:∀b∈frs outer,H b=none
 hok:HOk P w H s.heap
 bare:AllBare s.gens
def CE (outer:List Env) (P:Program) (w:World) (H:Hp) (s:Shared) (Q:VK) (u:Value) (s':Shared):Prop :=
 ∃v H',s'.os=s.os/\AllBare s'.gens/\Un (frs outer) [] H H' s.heap s'.heap/\HOk P w H' s'.heap/\RelV v u/\Q v H'
def CR (CX:CXT) (outer:List Env) (P:Program) (w:World) (H:Hp) (s:Shared) (Q:VK) (E:XK) (r:Result) (s':Shared):Prop :=
 match r with
 | .ok (.ret u)=>CE outer P w H s Q u s'
 | .ok _=>False
 | .error e=>CX outer H s E e s'
structure FnOk (P:Program) (w:World) (K:QFg) (mg:Str->Option Value) (base:Heap) (CX:CXT) (k:Nat) (f:Addr) (fd:FuncData) (ps:List Str) (sp:Sp):Prop where
 len:∀vs H Q E,sp vs H Q E->vs.length=ps.length
 run:∀(A:Around) (outer:List Env) (s:Shared) (H:Hp) (args:Args) (us:List Value) (vs:List V) (Q:VK) (E:XK),Room k A->Env0 P w K mg base A outer s H->BindsTo s fd args (ps.zip us)->Vals vs us->sp vs H Q E ->
  codeAny (model P w) A (.call (.ref f) args) (CR CX outer P w H s Q E) s
section
variable {X:Cx}{pins:List (Addr × Obj)}{σ:St}{H:Hp}{s s':Shared}
theorem Inv.env0 (I:Inv X pins σ H s):Env0 X.prog X.w X.K X.mg X.base X.A X.stack s H :=
 ⟨I.ok.frames,I.ok.mod,I.bs,Nat.le_trans I.ok.bsz I.sz,I.stack,I.stkFree,I.hok,I.bare⟩
theorem Inv.after {Q:VK}{u:Value}(I:Inv X pins σ H s) (h:CE X.stack X.prog X.w H s Q u s'):EP X pins σ Q u s':=by
 obtain ⟨v,H',os,bare,un,hok,r,q⟩:=h
 obtain ⟨hh,g,d,t,os'⟩:=s'
 obtain rfl:os' = s.os:=os
 exact ⟨v,H',I.call (h':=hh) (g':=g) (d':=d) (t':=t) (ch:=[]) un hok bare (λb z=>absurd z (by simp)),r,q⟩
end
def zos (sp:Sp) (dvs:List V) (E:XK) (t:TA):TE:=λσ H Q=>t σ H λvs H1=>sp (vs++dvs) H1 Q E
def Binds (K:QFg) (fd:FuncData) (ps:List Str) (ds:List Value):Prop :=
 ∀(s:Shared) (us:List Value),K.In s.heap->(us++ds).length=ps.length->BindsTo s fd ⟨us,[]⟩ (ps.zip (us++ds))
theorem Binds.all {K:QFg}{fd:FuncData}{ps:List Str}(h:∀us:List Value,us.length=ps.length->bindArgs fd ⟨us,[]⟩=pure (ps.zip us)):Binds K fd ps []:=λs us _ hl=>by
 rw [List.append_nil] at hl ⊢
 exact .of_eq (h us hl)
def zlp (CX:CXT) (X:Cx) (E:XK):Prop:=∀(pins:List (Addr × Obj)) (σ:St) (H:Hp) (s:Shared) (e:Value) (s':Shared),Inv X pins σ H s->CX X.stack H s E e s'->X.xe e s'
section
variable {X:Cx}{CX:CXT}{k:Nat}{f C:Addr}{fd:FuncData}{ps:List Str}{sp:Sp}{dvs:List V}{ds:List Value}{E:XK}{x m:Str}{p pos apos:Pos}{e o:Expr}{es:List Expr}{ta:TE}{t:TA}
theorem zot {pins:List (Addr × Obj)}{σ:St}{H:Hp}{s:Shared}{Q:VK}{us:List Value}{vs:List V}(F:FnOk X.prog X.w X.K X.mg X.base CX k f fd ps sp) (hr:Room k X.A) (hb:Binds X.K fd ps ds) (hd:Vals dvs ds) (hx:zlp CX X E)
  (I:Inv X pins σ H s) (r:Vals vs us) (h:sp (vs++dvs) H Q E):wpAny (model X.prog X.w) X.A (call (.ref f) us) (EP X pins σ Q) X.xe s:=by
 have r2:Vals (vs++dvs) (us++ds):=r.append hd
 have hl:(us++ds).length=ps.length:=by rw [<-r2.length];exact F.len _ _ _ _ h
 refine wpAny_call (codeAny_mono (F.run X.A X.stack s H ⟨us,[]⟩ (us++ds) (vs++dvs) Q E hr I.env0 (hb s us I.kIn hl) r2 h) λr s' hq=>?_)
 cases r with
 | error e=>exact hx pins σ H s e s' I hq
 | ok fl =>
  cases fl with
  | ret u=>exact I.after hq
  | next=>exact False.elim hq
  | brk=>exact False.elim hq
  | cont=>exact False.elim hq
theorem zxg (F:FnOk X.prog X.w X.K X.mg X.base CX k f fd ps sp) (hr:Room k X.A) (hg:Gl X x) (hm:X.mg x=some (.ref f)) (hk:PySem.W.keepIn X.K (.ref f)=true) (hb:Binds X.K fd ps ds) (hd:Vals dvs ds) (hx:zlp CX X E)
  (ha:PA X (e :: es) t) (hdb:(x == ("__debug__":Str))=false:=by decide) (he:starEach (e :: es) X.env=(false,eval e X.env) :: starEach es X.env:=by rfl) (hpl:(backTo pos (starEach es X.env)).any (·.1)=false:=by rfl) :
  PE X (.Call (.Name x p) (e :: es) [] pos) (zos sp dvs E t):=by
 intro pins s σ H Q I h
 refine wpAny_Call_Name_kw (zib I hg hm ?_ hdb)
 refine PySem.W.callWith_K (h₀:=X.base) I.ok.mod.kin hk (thn (ha pos pins s σ H _ I h) λus s1 ⟨vs,H1,I1,r,q⟩=>⟨I1.kIn,?_⟩) he hpl
 exact zot F hr hb hd hx I1 r q
end
section
variable {X:Cx}{CX:CXT}{k:Nat}{f C:Addr}{fd:FuncData}{ps ks:List Str}{sp:Sp}{E:XK}{x m:Str}{p pos apos kpos:Pos}{e o:Expr}{es:List Expr}{kws:List Keyword}{te ta:TE}{t tk:TA}{nm:Option Str}
variable {g:List Value->List Value->List Value}{gV:List V->List V->List V}
end
structure FnScope (N P:List Str) (sc:Scope):Prop where
 kind:sc.kind=.function
 co:sc.isCoroutine=false
 gen:sc.isGenerator=false
 nd:N.Nodup
 pre:N.take P.length=P
 par:∀x∈P,sc.names.lookup x=some .local\/sc.names.lookup x=some .cell
 nofree:∀y∈sc.names,y.2≠.free
theorem zou {kindOf:Str->Option NameKind}{x:Str}:∀{binds:List (Str × Value)}{m:Str->Option Value},(∀v,(x,v) ∉ binds)->bindL kindOf binds m x=m x
 | [],_,_=>rfl
 | (n,v) :: r,m,h=>by
  unfold bindL
  rw [zou λw hw=>h w (List.mem_cons_of_mem _ hw)]
  split
  ·have:x≠n:=by rintro rfl;exact h v List.mem_cons_self
   simp [this]
  ·rfl
theorem zov {kindOf:Str->Option NameKind}{x:Str}:∀{binds:List (Str × Value)}{m:Str->Option Value},(∀v,(x,v) ∉ binds)->bindC kindOf binds m x=m x
 | [],_,_=>rfl
 | (n,v) :: r,m,h=>by
  unfold bindC
  rw [zov λw hw=>h w (List.mem_cons_of_mem _ hw)]
  split
  ·rfl
  ·have:x≠n:=by rintro rfl;exact h v List.mem_cons_self
   simp [this]
theorem zow {kindOf:Str->Option NameKind}{x:Str}{v:Value}:∀{P:List Str}{vs:List Value}{i:Nat}{m:Str->Option Value},P.Nodup->P[i]? = some x->vs[i]? = some v->kindOf x=some .local ->
  bindL kindOf (P.zip vs) m x=some v
 | [],_,_,_,_,h,_,_=>by simp at h
 | _ :: _,[],_,_,_,_,h,_=>by simp at h
 | p :: P,w :: vs,0,m,nd,h1,h2,hk=>by
  simp at h1 h2;subst h1;subst h2
  show bindL kindOf ((p,w) :: P.zip vs) m p=_
  unfold bindL
  rw [zou λv hv=>(List.nodup_cons.mp nd).1 (List.of_mem_zip hv).1,if_pos hk]
  simp
 | p :: P,w :: vs,i+1,m,nd,h1,h2,hk=>by
  show bindL kindOf ((p,w) :: P.zip vs) m x=_
  unfold bindL
  exact zow (i:=i) (List.nodup_cons.mp nd).2 (by simpa using h1) (by simpa using h2) hk
theorem zox {kindOf:Str->Option NameKind}{x:Str}{v:Value}:∀{P:List Str}{vs:List Value}{i:Nat}{m:Str->Option Value},P.Nodup->P[i]? = some x->vs[i]? = some v->kindOf x≠some .local ->
  bindC kindOf (P.zip vs) m x=some v
 | [],_,_,_,_,h,_,_=>by simp at h
 | _ :: _,[],_,_,_,_,h,_=>by simp at h
 | p :: P,w :: vs,0,m,nd,h1,h2,hk=>by
  simp at h1 h2;subst h1;subst h2
  show bindC kindOf ((p,w) :: P.zip vs) m p=_
  unfold bindC
  rw [zov λv hv=>(List.nodup_cons.mp nd).1 (List.of_mem_zip hv).1,if_neg hk]
  simp
 | p :: P,w :: vs,i+1,m,nd,h1,h2,hk=>by
  show bindC kindOf ((p,w) :: P.zip vs) m x=_
  unfold bindC
  exact zox (i:=i) (List.nodup_cons.mp nd).2 (by simpa using h1) (by simpa using h2) hk
noncomputable def start (N:List Str) (vs:List V):St:=vs.map some++List.replicate (N.length-vs.length) none
noncomputable def zb1 (CX:CXT) (P:Program) (w:World) (K:QFg) (mg:Str->Option Value) (base:Heap) (N:List Str) (qual:Str) (scope:Scope) (f:Addr) (cd:Value) (A:Around) (outer:List Env) (s:Shared) (H:Hp) (E:XK):Cx where
 prog:=P
 w:=w
 K:=K
 mg:=mg
 base:=base
 A:=A.deeper (envOfC qual scope s.heap.objs.size f cd)
 N:=N
 s₀:=s
 H₀:=H
 env:=envOfC qual scope s.heap.objs.size f cd
 outer:=outer
 stack:=envOfC qual scope s.heap.objs.size f cd :: outer
 ex:=[]
 calm:=true
 fn:=λ_=>true
 pn:=[]
 xe:=λe s'=>wpAny (model P w) (A.deeper (envOfC qual scope s.heap.objs.size f cd)) (leaving (envOfC qual scope s.heap.objs.size f cd) e) (λ_ s''=>CX outer H s E e s'') (λe' s''=>CX outer H s E e' s'') s'
theorem zoy {sc:Scope}{n:Nat}{x:Str}(h:sc.names.lookup x=some .cell):∃c,(cellsFrom n sc.names []).lookup x=some c:=by
 have q:=PySem.W.cellsFrom_some sc.names n [] (.inl h)
 exact Option.isSome_iff_exists.mp q
theorem zxh {CX:CXT}{P:Program}{w:World}{K:QFg}{mg:Str->Option Value}{base:Heap}{N ps:List Str}{qual:Str}{scope:Scope}{f:Addr}{cd:Value}{A:Around}{outer:List Env}{s s1:Shared}{H:Hp}{E:XK}{us:List Value}{vs:List V}
  (S:FnScope N ps scope) (hd:A.handled=none) (e0:Env0 P w K mg base A outer s H) (hl:vs.length=ps.length) (r:Vals vs us)
  (x:InCallC s s.heap.objs.size (bindL (envOfC qual scope s.heap.objs.size f cd).kindOf (ps.zip us) λ_=>none) (cellsFrom (s.heap.objs.size+1) scope.names []) (bindC (envOfC qual scope s.heap.objs.size f cd).kindOf (ps.zip us) λ_=>none) s1) :
  Inv (zb1 CX P w K mg base N qual scope f cd A outer s H E) [] (start N vs) H s1:=by
 have hpl:ps.length<=N.length:=by have:=congrArg List.length S.pre;rw [List.length_take] at this;omega
 obtain ⟨h1,tk,rfl,hk⟩:=x.done
 have noA:∀b:Addr,b ∉ (zb1 CX P w K mg base N qual scope f cd A outer s H E).ex:=λb z=>absurd (show b∈([]:List Addr) from z) (by simp)
 refine ⟨⟨e0.mod,S.kind,rfl,rfl,qlr _,λy z c h1 h2=>?_,λy hy=>?_,λy c _ h=>?_,λ_=>hd,Around.frames_deeper e0.frames,.inr ⟨rfl,rfl⟩,λb z=>absurd z (noA b),e0.bs,e0.bsz,λb _ _=>noA b,λb z=>absurd z (noA b),e0.funs,e0.frf⟩,
  rfl,e0.bare,Un.kept hk,⟨_,x.toInCall.ns,λi y v h1 h2 h3=>?_⟩,λy c h=>⟨_,x.cell y c h⟩,e0.hok.fresh (qlr _),λy c h=>?_,λp hp=>absurd (show p∈([]:List (Addr × Obj)) from hp) (by simp),e0.hok.kept hk,?_⟩
 ·exact name_of_addr x.apart (PySem.mem_of_lookup h1) (PySem.mem_of_lookup h2)
 ·have hy:scope.names.lookup y=some .cell\/scope.names.lookup y=some .free:=hy
  rcases hy with hy|hy
  ·exact zoy hy
  ·exact absurd rfl (S.nofree _ (PySem.mem_of_lookup hy))
 ·exact Nat.le_of_lt (x.above y c (PySem.mem_of_lookup h))
 ·have hi:i<vs.length:=by
   unfold start at h2
   by_cases hi:i<vs.length
   ·exact hi
   ·rw [List.getElem?_append_right (by simpa using hi)] at h2
    rw [List.getElem?_replicate] at h2
    split at h2 <;> cases h2
  have ha:vs[i]? = some v:=by
   unfold start at h2
   rw [List.getElem?_append_left (by simpa using hi),qgm] at h2
   cases e:vs[i]? with
   | none=>rw [e] at h2;cases h2
   | some a=>rw [e] at h2;cases h2;rfl
  obtain ⟨u,hu,rv⟩:=r.get ha
  have hp:ps[i]? = some y:=by
   rw [<-S.pre,List.getElem?_take_of_lt (by omega)];exact h1
  have ndP:ps.Nodup:=by rw [<-S.pre];exact S.nd.sublist (List.take_sublist _ _)
  refine ⟨u,rv,?_⟩
  rcases S.par y (qmg hp) with k|k
  ·exact .inl ⟨k,zow ndP hp hu k⟩
  ·obtain ⟨c,e⟩:=zoy (n:=s.heap.objs.size+1) k
   refine .inr ⟨.inl k,c,e,?_⟩
   have q:=x.cell y c e
   rw [zox ndP hp hu (by show scope.names.lookup y≠_;rw [k];decide)] at q
   exact q
 ·exact e0.hok.fresh (Nat.le_of_lt (x.above y c (PySem.mem_of_lookup h)))
 ·unfold start
  show _=N.length
  rw [qla,qlm,List.length_replicate]
  omega
theorem zoz {CX:CXT}{P:Program}{w:World}{K:QFg}{mg:Str->Option Value}{base:Heap}{k:Nat}{f:Addr}{name qual:Str}{params:Arguments}{body:List Stmt}{scope:Scope}{dV kV doc pm cdv ct oc:Value}{an od:Option Addr}
  {osl:Array (Option Value)} {N ps:List Str} {sp:Sp} (lk:K.lookup f=some ⟨oc,od,.func (PySem.W.fnOf name qual params body scope dV kV doc pm an cdv ct),osl⟩) (hcd:PySem.W.codeIn K cdv qual=true) (S:FnScope N ps scope)
  (len:∀vs H Q E,sp vs H Q E->vs.length=ps.length)
  (hbody:∀(A:Around) (outer:List Env) (s:Shared) (H:Hp) (vs:List V) (Q:VK) (E:XK),Room k (A.deeper (envOfC qual scope s.heap.objs.size f cdv))->sp vs H Q E ->
   ∃t,PSs (zb1 CX P w K mg base N qual scope f cdv A outer s H E) body t/\t { nx:=λ_ H'=>Q .non H',rt:=Q } (start N vs) H) :
  FnOk P w K mg base CX (k+1) f (PySem.W.fnOf name qual params body scope dV kV doc pm an cdv ct) ps sp:=by
 refine ⟨len,λA outer s H args us vs Q E hr e0 hb r hsp=>?_⟩
 have hl:=len _ _ _ _ hsp
 have KX:K.In s.heap:=e0.mod.kin.keeps λb o e=>(e0.bs b o e).1
 have lim:s.heap.NoLimit:=e0.mod.nolimit.keeps λb o e=>(e0.bs b o e).1
 have hkind:∀y∈ps.zip us,scope.names.lookup y.1=some .local\/(scope.names.lookup y.1=some .cell/\((cellsFrom (s.heap.objs.size+1) scope.names []).lookup y.1).isSome=true):=λhx2_ hy=>by
  obtain ⟨n,v⟩:=hx2_
  rcases S.par n (List.of_mem_zip hy).1 with q|q
  ·exact .inl q
  ·exact .inr ⟨q,PySem.W.cellsFrom_some _ _ _ (.inl q)⟩
 refine codeAny_call_function hr.depth (KX _ _ lk) rfl S.co S.gen rfl (PySem.W.codeRec_of KX hcd) (hb _ _ _ _ ?_)
 refine wpAny_newFunctionEnv_cells S.kind hkind λenv he s1 x=>?_
 subst he
 refine ⟨lim.keeps x.toInCall.keep,codeAny_func ?_⟩
 obtain ⟨t,ht,hq⟩:=hbody A outer s H vs Q E (hr.deeper _) hsp
 have I:Inv (zb1 CX P w K mg base N qual scope f cdv A outer s H E) [] (start N vs) H s1:=zxh S hr.hd e0 hl r x
 refine wpAny_mono (ht [] s1 (start N vs) H _ I hq) (λfl s' hs=>?_) λe s' hs=>hs
 have fin:∀{σ':St} {H':Hp} {v:V} {u:Value},Inv (zb1 CX P w K mg base N qual scope f cdv A outer s H E) [] σ' H' s'->RelV v u->Q v H'->CE outer P w H s Q u s' :=
  λ{σ' H' v u} J rv q=>⟨v,H',J.os,J.bare,J.base,J.hok,rv,q⟩
 cases fl with
 | ret u =>
  obtain ⟨v,σ',H',J,rv,q⟩:=hs
  exact fin J rv q
 | next =>
  obtain ⟨σ',H',J,q⟩:=hs
  exact fin (v:=V.non) (u:=Value.none) J rfl q
 | brk =>
  obtain ⟨_,_,_,q⟩:=hs
  exact False.elim q
 | cont =>
  obtain ⟨_,_,_,q⟩:=hs
  exact False.elim q
section
variable {X:Cx}{x:Str}{p pos:Pos}{e:Expr}{es:List Expr}{t:TA}{id T:String}{r:List V->Hp->VK->Prop}
def tCB (r:List V->Hp->VK->Prop) (t:TA):TE:=λσ H Q=>t σ H λvs H1=>r vs H1 Q
theorem zlq (hc:CallR X (.builtin id) r) (hg:Gl X x) (hm:X.mg x=none) (hv:bootBuiltins x=some (.builtin id)) (ha:PA X (e :: es) t) (hn:x≠"__name__":=by decide) (hdb:(x == ("__debug__":Str))=false:=by decide)
  (he:starEach (e :: es) X.env=(false,eval e X.env) :: starEach es X.env:=by rfl) (hpl:(backTo pos (starEach es X.env)).any (·.1)=false:=by rfl):PE X (.Call (.Name x p) (e :: es) [] pos) (tCB r t):=by
 intro pins s σ H Q I h
 refine wpAny_Call_Name_kw (zem I hg hm hv ?_ hn hdb)
 exact PyProof.Rows.callWith_builtin1 (thn (ha pos pins s σ H _ I h) λus s1 ⟨vs,H1,I1,r1,q1⟩=>hc pins s1 σ H1 vs us Q I1 r1 q1) he hpl
theorem zie (hc:CallR X (.type T) r) (hg:Gl X x) (hm:X.mg x=none) (hv:bootBuiltins x=some (.type T)) (ha:PA X (e :: es) t) (hn:x≠"__name__":=by decide) (hdb:(x == ("__debug__":Str))=false:=by decide)
  (he:starEach (e :: es) X.env=(false,eval e X.env) :: starEach es X.env:=by rfl) (hpl:(backTo pos (starEach es X.env)).any (·.1)=false:=by rfl):PE X (.Call (.Name x p) (e :: es) [] pos) (tCB r t):=by
 intro pins s σ H Q I h
 refine wpAny_Call_Name_kw (zem I hg hm hv ?_ hn hdb)
 exact PyProof.Rows.callWith_type1 (thn (ha pos pins s σ H _ I h) λus s1 ⟨vs,H1,I1,r1,q1⟩=>hc pins s1 σ H1 vs us Q I1 r1 q1) he hpl
end
end L2
namespace HT
open PySem PyProof.Rows
section
open PySem.SeqAt
open PySem.AutoSeq1 (wpAny_loadPart')
open PySem.MeetsSeq PySem.MeetsSeq2 PySem.MeetsSeq3
end
section
variable {prog:Program}{w:World}{A:Around}{E:Value->Shared->Prop}{s:Shared}
theorem cat_tup {t b:Addr}{vs ws:List Value}{Q:Value->Shared->Prop}(ht:IsTup s.heap t vs.toArray) (hb:IsTup s.heap b ws.toArray) (hv:vs≠[])
  (h1:ws=[]->Q (.ref t) s) (h2:ws≠[]->Q (.ref s.heap.objs.size) { s with heap:=s.heap.push { cls:=.type "tuple",data:=.seq (vs++ws).toArray } })
  (hsz:vs.length+ws.length<=sizeLine):wpAny (model prog w) A (binaryOp .Add (.ref t) (.ref b)) Q E s:=by
 obtain ⟨⟨cls,dd,data,sl⟩,ho,hc,n,hd⟩:=id ht
 obtain ⟨⟨cls2,dd2,data2,sl2⟩,ho2,hc2,n2,hd2⟩:=id hb
 simp only at hc hd hc2 hd2
 subst hc hd hc2 hd2
 have e:vs.toArray++ws.toArray=(vs++ws).toArray:=by simp
 by_cases hw:ws=[]
 ·exact concat_meets ⟨_,ho,rfl⟩ ⟨_,ho2,rfl⟩ noFill_tuple_add seq_tuple_add PySem.F.slot_tuple_add PySem.F.entry_tuple_add (PySem.F.args_tuple_add_2 _ _)
   (tuple_addW1 t b vs.toArray ws.toArray n n2 dd dd2 sl sl2 (by simpa using hv) (by simp [hw])) ⟨ho,ho2,h1 hw⟩
 ·refine concat_meets ⟨_,ho,rfl⟩ ⟨_,ho2,rfl⟩ noFill_tuple_add seq_tuple_add PySem.F.slot_tuple_add PySem.F.entry_tuple_add (PySem.F.args_tuple_add_2 _ _)
   (tuple_addW2 t b vs.toArray ws.toArray n n2 dd dd2 sl sl2 (by simpa using hv) (by simpa using hw) (by rw [List.size_toArray,List.size_toArray];exact hsz)) ⟨ho,ho2,?_⟩
  rw [e]
  exact h2 hw
noncomputable def sIx (n d:Nat):Option Int->Nat
 | none=>d
 | some v=>if v<0 then (v+(n:Int)).toNat else min v.toNat n
theorem sIx_none (n d:Nat):sIx n d none=d:=rfl
theorem sIx_nat (n d k:Nat):sIx n d (some (k:Int))=min k n:=by
 show (if (k:Int)<0 then ((k:Int)+(n:Int)).toNat else min (k:Int).toNat n)=min k n
 rw [if_neg (by omega),Int.toNat_natCast]
theorem zxi (n d:Nat) (hd:d<=n) (o:Option Int):sIx n d o<=n:=by
 cases o with
 | none=>exact hd
 | some v =>
  show (if v<0 then (v+(n:Int)).toNat else min v.toNat n)<=n
  by_cases hv:v<0
  ·rw [if_pos hv];omega
  ·rw [if_neg hv];exact Nat.min_le_right _ _
theorem zo0 (v:Int) (n d:Nat):(if v<0 then max (v+(n:Int)) 0 else min v (n:Int))=((sIx n d (some v):Nat):Int):=by
 show (if v<0 then max (v+(n:Int)) 0 else min v (n:Int))=(((if v<0 then (v+(n:Int)).toNat else min v.toNat n):Nat):Int)
 by_cases hv:v<0
 ·simp only [if_pos hv];omega
 ·simp only [if_neg hv];omega
theorem zxj (lo hi:Option Int) (n:Nat):Builtin.Slice.sliceAdjust lo hi 1 (n:Int)=(((sIx n 0 lo:Nat):Int),((sIx n n hi:Nat):Int)):=by
 have h1:¬((1:Int)<0):=by omega
 unfold Builtin.Slice.sliceAdjust
 simp only [h1,if_false]
 refine Prod.ext ?_ ?_
 ·cases lo with
  | none=>rfl
  | some v=>exact zo0 v n 0
 ·cases hi with
  | none=>rfl
  | some v=>exact zo0 v n n
theorem zxk (i j:Nat):Builtin.Slice.slicePlaces (i:Int) (j:Int) 1=j-i:=by
 unfold Builtin.Slice.slicePlaces
 have h1:(1:Int) > 0:=by omega
 simp only [h1,if_true,Int.ediv_one]
 split <;> omega
theorem zo1 {v:Value}{o:Option Int}{Q:Option Int->Shared->Prop}(p:IsPart v o) (h:Q o s):wpAny (model prog w) A (Builtin.Slice.slicePartIndex v) Q E s:=by
 cases p with
 | none=>exact slicePart_none h
 | int i t=>exact slicePart_int h
theorem zo2 {sl:Addr}{vl vu:Value}{lo hi:Option Int}{n:Nat}{Q:Int × Int × Nat->Shared->Prop}(hs:s.heap.IsSliceOf sl vl vu .none) (pl:IsPart vl lo) (pu:IsPart vu hi)
  (h:Q (((sIx n 0 lo:Nat):Int),1,sIx n n hi-sIx n 0 lo) s):wpAny (model prog w) A (Builtin.Slice.sliceApplied (.ref sl) (pure (n:Int))) Q E s:=by
 obtain ⟨os,hos,hcs,hds⟩:=id hs
 unfold Builtin.Slice.sliceApplied Builtin.Slice.sliceFields
 refine qwb (qwb (wpAny_field hos hds (x:=vl) rfl (qwb (wpAny_field hos hds (x:=vu) rfl (qwb (wpAny_field hos hds (x:=.none) rfl (qwp ?_)))))))
 refine qwb (slicePart_none ?_)
 show wpAny _ _ (if ((1:Int) == 0)=true then _ else _) _ _ s
 rw [if_neg (by decide)]
 refine qwb (zo1 pl (qwb (zo1 pu (qwb (qwp ?_)))))
 show wpAny _ _ (match Builtin.Slice.sliceAdjust lo hi 1 (n:Int) with|(lo,hi)=>pure (lo,(1:Int),Builtin.Slice.slicePlaces lo hi 1)) _ _ s
 rw [zxj lo hi n]
 show wpAny _ _ (pure (((sIx n 0 lo:Nat):Int),(1:Int),Builtin.Slice.slicePlaces ((sIx n 0 lo:Nat):Int) ((sIx n n hi:Nat):Int) 1)) _ _ s
 rw [zxk]
 exact qwp h
theorem zxl (xs:Array Value) (i k:Nat):((List.range k).filterMap λ(m:Nat)=>xs[((i:Int)+(m:Int)*1).toNat]?).toArray=((xs.toList.drop i).take k).toArray:=by
 have e:(λ(m:Nat)=>xs[((i:Int)+(m:Int)*1).toNat]?)=λm=>xs[i+m]?:=by
  funext m
  have:((i:Int)+(m:Int)*1).toNat=i+m:=by omega
  rw [this]
 rw [e]
 have:=pick_run xs i k
 rw [List.filterMap_map] at this
 have e2:((λx=>xs[x]?) ∘ λx=>i+x)=λm=>xs[i+m]?:=rfl
 rw [e2] at this
 rw [this]
theorem getItem_tuple_cut {t sl:Addr}{items:Array Value}{vl vu:Value}{lo hi:Option Int}{Q:Value->Shared->Prop}(ht:IsTup s.heap t items) (hs:s.heap.IsSliceOf sl vl vu .none) (pl:IsPart vl lo) (pu:IsPart vu hi)
  (hw:¬(sIx items.size 0 lo=0/\sIx items.size items.size hi=items.size))
  (h:Q (.ref s.heap.objs.size) { s with heap:=s.heap.push { cls:=.type "tuple",data:=.seq ((items.toList.drop (sIx items.size 0 lo)).take (sIx items.size items.size hi-sIx items.size 0 lo)).toArray } })
  (hsz:items.size<=sizeLine):wpAny (model prog w) A (getItem (.ref t) (.ref sl)) Q E s:=by
 have htake:sizeOk (.seq ((items.toList.drop (sIx items.size 0 lo)).take (sIx items.size items.size hi-sIx items.size 0 lo)).toArray):=by
  show ((items.toList.drop (sIx items.size 0 lo)).take (sIx items.size items.size hi-sIx items.size 0 lo)).toArray.size<=sizeLine
  rw [List.size_toArray,List.length_take,List.length_drop,Array.length_toList]
  omega
 have hj:sIx items.size items.size hi<=items.size:=zxi _ _ (qlr _) hi
 obtain ⟨os,hos,hcs,hds⟩:=id hs
 have hTs:s.TypeIs (.ref sl) "slice":=⟨os,hos,hcs⟩
 unfold getItem
 try with_reducible refine wpAny_holding ?_
 first|refine qwb (qwp ?_)|skip
 refine qwb (wpAny_sequenceKey ht.typeIs (by decide) ?_)
 refine qwb (wpAny_callSpecial?_slot (name:=Str.ofString "__getitem__") ht.typeIs PyProof.Rows.slot_tuple_getitem
  (wpAny_call_entry PyProof.Rows.slot_tuple_getitem ht.typeIs entry_tuple_getitem ?_ (args_tuple_getitem _ _)))
 show wpAny _ _ (Builtin.Tuple.tupleItemsOf (.ref t) >>= _) _ _ s
 refine qwb (tupleItemsOf_ ht ?_)
 refine qwb (wpAny_typeOf hTs ?_)
 rw [if_pos (by decide)]
 refine qwb (zo2 hs pl pu ?_)
 have hno:¬((((sIx items.size 0 lo:Nat):Int) == 0 && (1:Int) == 1 && (sIx items.size items.size hi-sIx items.size 0 lo) == items.size)=true):=by
  intro q
  rw [Bool.and_eq_true,Bool.and_eq_true] at q
  have q1:((sIx items.size 0 lo:Nat):Int)=0:=eq_of_beq q.1.1
  have q2:sIx items.size items.size hi-sIx items.size 0 lo=items.size:=eq_of_beq q.2
  exact hw ⟨by omega,by omega⟩
 show wpAny _ _ (if (((sIx items.size 0 lo:Nat):Int) == 0 && (1:Int) == 1 && (sIx items.size items.size hi-sIx items.size 0 lo) == items.size)=true then _ else _) _ _ s
 rw [if_neg hno,zxl]
 first
  | exact qwb (m:=Builtin.Tuple.tupleExact _) (wpAny_newObj_type (qwp ⟨_,rfl,qwp h⟩) htake)
  | exact qwb (m:=Builtin.Tuple.tupleExact _) (wpAny_newObj_type (qwb (qwp (qwp ⟨_,rfl,qwp h⟩))) htake)
  | exact qwb (qwb (m:=Builtin.Tuple.tupleExact _) (wpAny_newObj_type (qwp (qwp ⟨_,rfl,qwp h⟩)) htake))
  | exact qwb (qwb (m:=Builtin.Tuple.tupleExact _) (wpAny_newObj_type (qwp ⟨_,rfl,qwp h⟩) htake))
end
end HT
namespace L2
open PySem PySem.Spec PyProof.Rows
abbrev TO:=St->Hp->(Option Int->Hp->Prop)->Prop
def PO (X:Cx) (e:Option Expr) (t:TO):Prop :=
 ∀(pins:List (Addr × Obj)) (s:Shared) (σ:St) (H:Hp) (Q:Option Int->Hp->Prop),Inv X pins σ H s->t σ H Q ->
  wpAny (model X.prog X.w) X.A (evalPart e X.env) (λu s'=>∃o H',Inv X pins σ H' s'/\IsPart u o/\Q o H') X.xe s
def zxm:TO:=λ_ H Q=>Q none H
def zxn (t:TE):TO:=λσ H Q=>t σ H λx H1=>∃i,x=.int i/\Q (some i) H1
section
variable {X:Cx}{e:Expr}{te:TE}{lo hi:Option Expr}{tl th:TO}{pos p2:Pos}
theorem zxo:PO X none zxm:=by
 intro pins s σ H Q I h
 rw [evalPart_none]
 exact qwp ⟨none,H,I,.none,h⟩
theorem zxp (h:PE X e te):PO X (some e) (zxn te):=by
 intro pins s σ H Q I hw
 rw [evalPart_some]
 refine thn (h pins s σ H _ I hw) λu s1 ⟨x,H1,I1,r1,q1⟩=>?_
 obtain ⟨i,rfl,q⟩:=q1
 obtain ⟨t,rfl⟩:=r1
 exact ⟨some i,H1,I1,.int i t,q⟩
def SlR (X:Cx) (r:V->Option Int->Option Int->Hp->VK->Prop):Prop :=
 ∀(pins:List (Addr × Obj)) (s:Shared) (σ:St) (H:Hp) (x:V) (v vl vu:Value) (lo hi:Option Int) (sl:Addr) (Q:VK),Inv X pins σ H s->RelV x v->s.heap.IsSliceOf sl vl vu .none->IsPart vl lo->IsPart vu hi->r x lo hi H Q ->
  ∃T id,typeLookup (.type T) "__getitem__" = pure (some (.builtin id))/\s.TypeIs v T/\wpAny (model X.prog X.w) X.A (getItem v (.ref sl)) (EP X pins σ Q) X.xe s
theorem SlR.or {r r':V->Option Int->Option Int->Hp->VK->Prop}(h:SlR X r) (h':SlR X r'):SlR X (λx lo hi H Q=>r x lo hi H Q\/r' x lo hi H Q):=by
 intro pins s σ H x v vl vu lo hi sl Q I rx hs pl pu q
 rcases q with q|q
 ·exact h pins s σ H x v vl vu lo hi sl Q I rx hs pl pu q
 ·exact h' pins s σ H x v vl vu lo hi sl Q I rx hs pl pu q
def tSl (r:V->Option Int->Option Int->Hp->VK->Prop) (te:TE) (tl th:TO):TE:=λσ H Q=>te σ H λx H1=>tl σ H1 λl H2=>th σ H2 λu H3=>r x l u H3 Q
theorem zxq {r:V->Option Int->Option Int->Hp->VK->Prop}(hr:SlR X r) (he:PE X e te) (hl:PO X lo tl) (hu:PO X hi th):PE X (.Subscript e (.Slice lo hi none p2) pos) (tSl r te tl th):=by
 intro pins s σ H Q I h
 refine Subscript_ (thn (he pins s σ H _ I h) λv s1 ⟨x,H1,I1,r1,q1⟩=>?_)
 refine wpAny_Slice (thn (hl pins s1 σ H1 _ I1 q1) λvl s2 ⟨l,H2,I2,pl,q2⟩=>thn (hu pins s2 σ H2 _ I2 q2) λvu s3 ⟨u,H3,I3,pu,q3⟩=>?_)
 rw [evalPart_none]
 refine qwp ?_
 have I4:Inv X pins σ H3 { s3 with heap:=s3.heap.push { cls:=.type "slice",data:=.fields #[vl,vu,.none] } }:=I3.kept (t':=s3.toks) λb ob q=>qps _ q
 obtain ⟨T,id,hT,ht,hg⟩:=hr pins { s3 with heap:=s3.heap.push { cls:=.type "slice",data:=.fields #[vl,vu,.none] } } σ H3 x v vl vu l u s3.heap.objs.size Q I4 r1 (Heap.IsSliceOf.new ..) pl pu q3
 show wpAny (model X.prog X.w) X.A (subscriptTail e (.Slice lo hi none p2) v (.ref s3.heap.objs.size)) (EP X pins σ Q) X.xe { s3 with heap:=s3.heap.push { cls:=.type "slice",data:=.fields #[vl,vu,.none] } }
 exact tail_any (ops:=[.ref s3.heap.objs.size,v]) ht hT hg (by with_unfolding_all rfl)
noncomputable def zd8 (xs:List V) (lo hi:Option Int):List V:=(xs.drop (HT.sIx xs.length 0 lo)).take (HT.sIx xs.length xs.length hi-HT.sIx xs.length 0 lo)
theorem zo3 (xs:List V) (lo hi:Option Int):(zd8 xs lo hi).length<=xs.length:=by
 unfold zd8
 rw [List.length_take,List.length_drop]
 omega
def zxr (K:QFg):V->Option Int->Option Int->Hp->VK->Prop:=λx lo hi H Q=>∃a xs,x=.ref a/\SqT K H a xs /\
 ¬(HT.sIx xs.length 0 lo=0/\HT.sIx xs.length xs.length hi=xs.length)/\∀p,H p=none->Q (.ref p) (upd H p (.tup (zd8 xs lo hi)))
theorem sl_tup:SlR X (zxr X.K):=by
 intro pins s σ H x v vl vu lo hi sl Q I rx hs pl pu h
 obtain ⟨a,xs,rfl,hx,hw,q⟩:=h
 cases rx
 obtain ⟨its,r,ht,hz⟩:=I.tuple hx
 have hlen:its.toArray.size=xs.length:=by rw [List.size_toArray];exact r.length.symm
 refine ⟨"tuple",_,PyProof.Rows.slot_tuple_getitem.lookup,ht.typeIs,?_⟩
 refine HT.getItem_tuple_cut ht hs pl pu (by rw [hlen];exact hw) ?_ (by rw [hlen];exact hz)
 rw [hlen]
 refine ⟨.ref s.heap.objs.size,_,I.laid (t':=s.toks) (o:=.tup (zd8 xs lo hi)) (λb ob q=>qps _ q) (qlr _) ?_,rfl,q _ (I.hok.fresh (qlr _))⟩
 exact ⟨Nat.le_trans (zo3 xs lo hi) hz,_,(r.drop (HT.sIx xs.length 0 lo)).take (HT.sIx xs.length xs.length hi-HT.sIx xs.length 0 lo),IsTD.new _ _⟩
def zlr (K:QFg):R2:=λx y H Q=>∃a b xs ys,x=.ref a/\y=.ref b/\SqT K H a xs/\SqT K H b ys/\xs≠[]/\xs.length+ys.length<=sizeLine /\
 (ys=[]->Q (.ref a) H)/\(ys≠[]->∀p,H p=none->Q (.ref p) (upd H p (.tup (xs++ys))))
theorem Vals.nil_iff {xs:List V}{us:List Value}(r:Vals xs us):us=[]↔xs=[]:=by
 cases r with
 | nil=>simp
 | cons _ _=>simp
theorem op_catT:OpR X (binaryOp .Add) (zlr X.K):=by
 intro pins s σ H x y v u Q I rx ry h
 obtain ⟨a,b,xs,ys,rfl,rfl,ha,hb,hx,hz,q1,q2⟩:=h
 cases rx
 cases ry
 obtain ⟨its,r1,p1,_⟩:=I.tuple ha
 obtain ⟨its2,r2,p2,_⟩:=I.tuple hb
 refine HT.cat_tup p1 p2 (λz=>hx (r1.nil_iff.mp z)) (λz=>⟨.ref a,H,I,rfl,q1 (r2.nil_iff.mp z)⟩) (λz=>?_) (by rw [<-r1.length,<-r2.length];exact hz)
 refine ⟨.ref s.heap.objs.size,_,I.laid (t':=s.toks) (o:=.tup (xs++ys)) (λb ob q=>qps _ q) (qlr _) ?_,rfl,q2 (λw=>z (r2.nil_iff.mpr w)) _ (I.hok.fresh (qlr _))⟩
 exact ⟨by rw [qla];exact hz,_,r1.append r2,IsTD.new _ _⟩
end
noncomputable def ixN (n:Nat) (i:Int):Option Nat:=if 0<=i then (if i<n then some i.toNat else none) else if -(n:Int)<=i then some (i+n).toNat else none
noncomputable def atI {α:Type}(xs:List α) (i:Int):Option α:=(ixN xs.length i).bind λj=>xs[j]?
theorem zo4 {n:Nat}{i:Int}{j:Nat}(h:ixN n i=some j):seqIndex? i n=some j/\j<n/\-(n:Int)<=i/\i<n:=by
 unfold ixN at h
 by_cases h0:0<=i
 ·rw [if_pos h0] at h
  by_cases h1:i<n
  ·rw [if_pos h1] at h
   have e:i.toNat=j:=qoi h
   exact ⟨by rw [seqIndex_of h0 h1,e],by omega,by omega,h1⟩
  ·rw [if_neg h1] at h;cases h
 ·rw [if_neg h0] at h
  by_cases h1:-(n:Int)<=i
  ·rw [if_pos h1] at h
   have e:(i+n).toNat=j:=qoi h
   exact ⟨by rw [seqIndex_neg (by omega) h1,e],by omega,h1,by omega⟩
  ·rw [if_neg h1] at h;cases h
theorem atI_get {α:Type}{xs:List α}{i:Int}{v:α}(h:atI xs i=some v):∃j,seqIndex? i xs.length=some j/\xs[j]? = some v/\j<xs.length/\-(xs.length:Int)<=i/\i<xs.length:=by
 unfold atI at h
 cases e:ixN xs.length i with
 | none=>rw [e] at h;cases h
 | some j =>
  rw [e] at h
  obtain ⟨h1,h2,h3,h4⟩:=zo4 e
  exact ⟨j,h1,h,h2,h3,h4⟩
def zo5 (b:Expr):Prop:=∀o i,subscripted b false o i=operate [o,i] (getItem o i)
def IxR (X:Cx) (r:R2):Prop :=
 ∀(value slice:Expr) (pins:List (Addr × Obj)) (s:Shared) (σ:St) (H:Hp) (x y:V) (v u:Value) (Q:VK),Inv X pins σ H s->RelV x v->RelV y u->r x y H Q ->
  subscripted slice false v u=operate [v,u] (getItem v u)->wpAny (model X.prog X.w) X.A (subscriptTail value slice v u) (EP X pins σ Q) X.xe s
def MtR (X:Cx) (id:String) (r:V->List V->Hp->VK->Prop):Prop :=
 ∀(pins:List (Addr × Obj)) (s:Shared) (σ:St) (H:Hp) (x:V) (xs:List V) (v:Value) (us:List Value) (Q:VK),Inv X pins σ H s->RelV x v->Vals xs us->r x xs H Q ->
  wpAny (model X.prog X.w) X.A (call (.builtin id) (v :: us)) (EP X pins σ Q) X.xe s
section
variable {X:Cx}{a b:Expr}{ta tb:TE}{pos:Pos}
theorem IxR.or {r r':R2}(h:IxR X r) (h':IxR X r'):IxR X (λx y H Q=>r x y H Q\/r' x y H Q):=by
 intro value slice pins s σ H x y v u Q I rx ry q hs
 rcases q with q|q
 ·exact h value slice pins s σ H x y v u Q I rx ry q hs
 ·exact h' value slice pins s σ H x y v u Q I rx ry q hs
theorem zxs {r:R2}(hr:IxR X r) (ha:PE X a ta) (hb:PE X b tb) (hs:zo5 b):PE X (.Subscript a b pos) (tOp r ta tb):=by
 intro pins s σ H Q I h
 exact Subscript_ (zlm ha hb I h λv u s2 x y H2 I2 rx ry q=>hr a b pins s2 σ H2 x y v u Q I2 rx ry q (hs _ _))
def zo6 (K:QFg):R2:=λx y H Q=>∃p xs i v,x=.ref p/\y=.int i/\SqL K H p xs/\atI xs i=some v/\Q v H
def zo7 (K:QFg):R2:=λx y H Q=>∃p xs i v,x=.ref p/\y=.int i/\SqT K H p xs/\atI xs i=some v/\Q v H
def zls:R2:=λx y H Q=>∃z i c,x=.str z/\y=.int i/\z.length<=sizeLine/\atI z.cps.toList i=some c/\Q (.str ⟨#[c]⟩) H
theorem ix_list:IxR X (zo6 X.K):=by
 intro value slice pins s σ H x y v u Q I rx ry h hs
 obtain ⟨p,xs,i,z,rfl,rfl,hq,he,q⟩:=h
 cases rx
 obtain ⟨t,rfl⟩:=ry
 obtain ⟨its,r,pl,hz⟩:=I.list hq
 obtain ⟨j,h1,h2,h3,h4,h5⟩:=atI_get he
 obtain ⟨w,ew,rw'⟩:=r.get h2
 have hl:=r.length
 have hn:=zgz
 have fin:EP X pins σ Q w s:=⟨z,H,I,rw',q⟩
 by_cases h0:0<=i
 ·have hj:i.toNat=j:=by
   rw [seqIndex_of h0 h5] at h1
   exact qoi h1
  exact item_listR pl.isList h0 (by omega) (by rw [hj];simpa using ew) fin hs
 ·have hj:(i+(its.toArray.size:Int)).toNat=j:=by
   rw [seqIndex_neg (by omega) h4] at h1
   rw [List.size_toArray,<-hl]
   exact qoi h1
  exact subscriptTail_builtinR (x:=w) pl.isList.typeIs slot_list_getitem.lookup
   (wpAny_getItem_list_neg (Q:=λr s'=>r=w/\EP X pins σ Q r s') pl.isList (by omega) (by rw [List.size_toArray] <;> omega) (by omega) (by rw [hj];simpa using ew) ⟨rfl,fin⟩) hs
theorem ix_tup:IxR X (zo7 X.K):=by
 intro value slice pins s σ H x y v u Q I rx ry h hs
 obtain ⟨p,xs,i,z,rfl,rfl,hq,he,q⟩:=h
 cases rx
 obtain ⟨t,rfl⟩:=ry
 obtain ⟨its,r,pl,hz⟩:=I.tuple hq
 obtain ⟨j,h1,h2,h3,h4,h5⟩:=atI_get he
 obtain ⟨w,ew,rw'⟩:=r.get h2
 have hl:=r.length
 have hn:=zgz
 have fin:EP X pins σ Q w s:=⟨z,H,I,rw',q⟩
 exact subscriptTail_builtinR (x:=w) pl.typeIs slot_tuple_getitem.lookup
  (getItem_tuple (j:=j) (Q:=λr s'=>r=w/\EP X pins σ Q r s') pl (by omega) (by omega) (by rw [List.size_toArray,<-hl];exact h1) (by simpa using ew) ⟨rfl,fin⟩) hs
theorem zxt:IxR X zls:=by
 intro value slice pins s σ H x y v u Q I rx ry h hs
 obtain ⟨z,i,c,rfl,rfl,hz,he,q⟩:=h
 obtain ⟨t,rfl⟩:=rx
 obtain ⟨t',rfl⟩:=ry
 obtain ⟨j,h1,h2,h3,h4,h5⟩:=atI_get he
 have hl:z.cps.toList.length=z.length:=by simp [Str.length]
 rw [hl] at h1 h4 h5
 have hn:=zgz
 exact tail_any (typeIs_str s z t) slot_str_getitem.lookup (getItem_str (c:=c) (by
  have e1:decide (i < -(2 ^ 63:Int))=false:=decide_eq_false (by omega)
  have e2:decide (i ≥ 2 ^ 63)=false:=decide_eq_false (by omega)
  rw [e1,e2,Bool.or_false]) (by rw [h1];simpa using h2) ⟨.str ⟨#[c]⟩,H,I.tok _,⟨_,rfl⟩,q⟩) hs
def rIx (K:QFg):R2:=λx y H Q=>zo6 K x y H Q\/zo7 K x y H Q\/zls x y H Q
theorem zxu:IxR X (rIx X.K):=ix_list.or (ix_tup.or zxt)
theorem zxv (its:List Value) (n j:Nat) (u:Value):Obj.mapSeq (·.setIfInBounds j u) { cls:=.type "list",data:=.seq its.toArray n }={ cls:=.type "list",data:=.seq (its.set j u).toArray n }:=by
 simp [Obj.mapSeq]
theorem Inv.lst {pins:List (Addr × Obj)}{σ:St}{H:Hp}{s:Shared}{p:Addr}{xs:List V}(I:Inv X pins σ H s) (h:H p=some (.lst xs)) :
  ∃(its:List Value) (n:Nat),Vals xs its/\s.heap.get? p=some { cls:=.type "list",data:=.seq its.toArray n }/\xs.length<=sizeLine:=by
 obtain ⟨z,its,n,r,e⟩:=I.hok p _ h
 exact ⟨its,n,r,e,z⟩
theorem Inv.lstUpd {pins:List (Addr × Obj)}{σ:St}{H:Hp}{s:Shared}{p:Addr}{xs ys:List V}{its its':List Value}{n n':Nat}{f:Obj->Obj}(I:Inv X pins σ H s) (h:H p=some (.lst xs))
  (ho:s.heap.get? p=some { cls:=.type "list",data:=.seq its.toArray n }) (hf:f { cls:=.type "list",data:=.seq its.toArray n }={ cls:=.type "list",data:=.seq its'.toArray n' }) (r:Vals ys its') (hz:ys.length<=sizeLine) (t:Nat) :
  Inv X pins σ (upd H p (.lst ys)) { s with heap:=s.heap.update p f,toks:=t }:=by
 have e:(s.heap.update p f).get? p=some { cls:=.type "list",data:=.seq its'.toArray n' }:=by
  rw [Heap.get?_update_self f ho (by rw [hf] <;> rfl),hf]
 refine I.write (x:=p) (e:=p) (by rw [h];trivial) (.inl rfl) (λb u hb q=>(Heap.get?_update_other _ _ (Ne.symm hb)).trans q) ⟨_,e⟩ ?_
 exact ⟨hz,its',n',r,e⟩
def rSetL:V->V->V->Hp->(Hp->Prop)->Prop:=λo i v H Q=>∃p xs k j,o=.ref p/\i=.int k/\H p=some (.lst xs)/\ixN xs.length k=some j/\Q (upd H p (.lst (xs.set j v)))
theorem zxw:zog X rSetL:=by
 intro pins s σ H o i v ov iv u Q I ro ri rv h
 obtain ⟨p,xs,k,j,rfl,rfl,hp,hj,q⟩:=h
 cases ro
 obtain ⟨t,rfl⟩:=ri
 obtain ⟨its,n,r,ho,hz⟩:=I.lst hp
 obtain ⟨h1,h2,h3,h4⟩:=zo4 hj
 have hl:=r.length
 have hn:=zgz
 have I':Inv X pins σ (upd H p (.lst (xs.set j v))) { s with heap:=s.heap.update p (Obj.mapSeq (·.setIfInBounds j u)) } :=
  I.lstUpd hp ho (zxv its n j u) (r.set rv j) (by rw [List.length_set];exact hz) s.toks
 by_cases h0:0<=k
 ·have hk:k.toNat=j:=by
   rw [seqIndex_of h0 h4] at h1
   exact qoi h1
  exact PySem.W.ki_setAt ho h0 (by omega) (by rw [List.size_toArray,<-hl];exact h4) (by rw [hk];exact ⟨_,I',q⟩)
 ·have hk:(k+(its.toArray.size:Int)).toNat=j:=by
   rw [seqIndex_neg (by omega) h3] at h1
   rw [List.size_toArray,<-hl]
   exact qoi h1
  exact PySem.W.ki_setBack ho (by omega) (by rw [List.size_toArray,<-hl];exact h3) (by omega) (by rw [hk];exact ⟨_,I',q⟩)
theorem zxx (lo hi:Option Int) (n:Nat):(sliceBounds lo hi none n).1=((HT.sIx n 0 lo:Nat):Int)/\(sliceBounds lo hi none n).2.1=((HT.sIx n n hi:Nat):Int)/\(sliceBounds lo hi none n).2.2=1:=by
 refine ⟨?_,?_,rfl⟩
 ·cases lo with
  | none=>simp [sliceBounds,HT.sIx]
  | some i =>
   simp only [sliceBounds,HT.sIx,Option.getD_none,show (1:Int) > 0 by decide,if_true]
   by_cases h:i<0
   ·simp only [h,if_true] <;> omega
   ·simp only [h,if_false] <;> omega
 ·cases hi with
  | none=>simp [sliceBounds,HT.sIx]
  | some i =>
   simp only [sliceBounds,HT.sIx,Option.getD_none,show (1:Int) > 0 by decide,if_true]
   by_cases h:i<0
   ·simp only [h,if_true] <;> omega
   ·simp only [h,if_false] <;> omega
theorem zxy (its:List Value) (lo hi:Option Int):slicePick its.toArray lo hi none=((its.drop (HT.sIx its.length 0 lo)).take (HT.sIx its.length its.length hi-HT.sIx its.length 0 lo)).toArray:=by
 obtain ⟨h1,h2,h3⟩:=zxx lo hi its.toArray.size
 unfold slicePick
 rw [h1,h2,h3]
 simp only [sliceRange_one,pick_run,List.size_toArray] <;> rfl
def zxz (K:QFg):V->Option Int->Option Int->Hp->VK->Prop:=λx lo hi H Q=>∃a xs,x=.ref a/\SqL K H a xs/\∀p,H p=none->Q (.ref p) (upd H p (.lst (zd8 xs lo hi)))
theorem zx0:SlR X (zxz X.K):=by
 intro pins s σ H x v vl vu lo hi sl Q I rx hs pl pu h
 obtain ⟨a,xs,rfl,hx,q⟩:=h
 cases rx
 obtain ⟨its,r,ht,hz⟩:=I.list hx
 have hlen:=r.length
 refine ⟨"list",_,slot_list_getitem.lookup,ht.isList.typeIs,?_⟩
 refine wpAny_getItem_list_slice ht.isList hs pl pu .none (by simp) ?_ (by rw [List.size_toArray] <;> omega)
 rw [zxy,<-hlen]
 refine ⟨.ref s.heap.objs.size,_,I.laid (t':=s.toks) (o:=.lst (zd8 xs lo hi)) (λb ob q=>qps _ q) (qlr _) ?_,rfl,q _ (I.hok.fresh (qlr _))⟩
 exact ⟨Nat.le_trans (zo3 xs lo hi) hz,_,0,(r.drop (HT.sIx xs.length 0 lo)).take (HT.sIx xs.length xs.length hi-HT.sIx xs.length 0 lo),Heap.get?_push_size _ rfl⟩
noncomputable def zd9:V->Bool
 | .non=>true
 | .bl _=>true
 | .int _=>true
 | .str _=>true
 | _=>false
noncomputable def eqV:V->V->Bool
 | .non,.non=>true
 | .bl a,.bl b=>a == b
 | .bl a,.int b=>(if a then 1 else 0) == b
 | .int a,.bl b=>a == (if b then 1 else 0)
 | .int a,.int b=>a == b
 | .str a,.str b=>a == b
 | _,_=>false
theorem zx1 {A:Around}{s:Shared}{y x:V}{u v:Value}(ry:RelV y u) (rx:RelV x v) (fy:zd9 y=true) (fx:zd9 x=true):SeqAt.EqAt A s u v (eqV y x):=by
 cases y with
 | non =>
  cases ry
  cases x with
  | non=>cases rx;exact SeqAt.EqAt.same _
  | bl b=>cases rx;exact SeqAt.EqAt.none_bool b
  | int b=>obtain ⟨t,rfl⟩:=rx;exact SeqAt.EqAt.none_int b t
  | str b=>obtain ⟨t,rfl⟩:=rx;exact SeqAt.EqAt.none_str b t
  | _=>exact absurd (show false=true from fx) Bool.false_ne_true
 | bl a =>
  cases ry
  cases x with
  | non=>cases rx;exact SeqAt.EqAt.bool_none a
  | bl b=>cases rx;exact SeqAt.EqAt.bool_bool a b
  | int b=>obtain ⟨t,rfl⟩:=rx;exact SeqAt.EqAt.bool_int a b t
  | str b=>obtain ⟨t,rfl⟩:=rx;exact SeqAt.EqAt.bool_str a b t
  | _=>exact absurd (show false=true from fx) Bool.false_ne_true
 | int a =>
  obtain ⟨t',rfl⟩:=ry
  cases x with
  | non=>cases rx;exact SeqAt.EqAt.int_none a t'
  | bl b=>cases rx;exact SeqAt.EqAt.int_bool a t' b
  | int b=>obtain ⟨t,rfl⟩:=rx;exact SeqAt.EqAt.int_int a t' b t
  | str b=>obtain ⟨t,rfl⟩:=rx;exact SeqAt.EqAt.int_str a t' b t
  | _=>exact absurd (show false=true from fx) Bool.false_ne_true
 | str a =>
  obtain ⟨t',rfl⟩:=ry
  cases x with
  | non=>cases rx;exact SeqAt.EqAt.str_none a t'
  | bl b=>cases rx;exact SeqAt.EqAt.str_bool a t' b
  | int b=>obtain ⟨t,rfl⟩:=rx;exact SeqAt.EqAt.str_int a t' b t
  | str b=>obtain ⟨t,rfl⟩:=rx;exact SeqAt.EqAt.str_str a t' b t
  | _=>exact absurd (show false=true from fx) Bool.false_ne_true
 | _=>exact absurd (show false=true from fy) Bool.false_ne_true
noncomputable def eqU (x:V) (u:Value):Bool:=match u with
 | .none=>eqV .non x
 | .bool b=>eqV (.bl b) x
 | .int i _=>eqV (.int i) x
 | .str z _=>eqV (.str z) x
 | _=>false
theorem zo8 {x y:V}{u:Value}(r:RelV y u) (f:zd9 y=true):eqU x u=eqV y x:=by
 cases y with
 | non=>cases r;rfl
 | bl b=>cases r;rfl
 | int i=>obtain ⟨t,rfl⟩:=r;rfl
 | str z=>obtain ⟨t,rfl⟩:=r;rfl
 | _=>exact absurd (show false=true from f) Bool.false_ne_true
theorem zif {x:V}:∀{xs:List V}{us:List Value},Vals xs us->xs.all zd9=true->us.any (eqU x)=xs.any λy=>eqV y x
 | _,_,.nil,_=>rfl
 | y :: xs,u :: us,.cons r t,f=>by
  rw [List.all_cons,Bool.and_eq_true] at f
  rw [List.any_cons,List.any_cons,zo8 r f.1,zif t f.2]
theorem zig {A:Around}{s:Shared}{x:V}{v:Value}(rx:RelV x v) (fx:zd9 x=true):∀{xs:List V}{us:List Value},Vals xs us->xs.all zd9=true->∀u∈us,SeqAt.EqAt A s u v (eqU x u)
 | _,_,.nil,_=>λu hu=>by cases hu
 | y :: xs,u :: us,.cons r t,f=>λu' hu=>by
  rw [List.all_cons,Bool.and_eq_true] at f
  rcases List.mem_cons.mp hu with rfl|hu
  ·rw [zo8 r f.1];exact zx1 r rx f.1 fx
  ·exact zig rx fx t f.2 u' hu
noncomputable def inV (x:V) (xs:List V):Bool:=xs.any λy=>eqV y x
def rIn (K:QFg) (neg:Bool):R2:=λx y H Q=>∃p xs,y=.ref p/\(SqL K H p xs\/SqT K H p xs)/\zd9 x=true/\xs.all zd9=true/\Q (.bl (if neg then !inV x xs else inV x xs)) H
theorem zx2:OpR X (compareOp .In) (rIn X.K false):=by
 intro pins s σ H x y v u Q I rx ry h
 obtain ⟨p,xs,rfl,hq,fx,fs,q⟩:=h
 cases ry
 rcases hq with hq|hq
 ·obtain ⟨its,r,pl,hz⟩:=I.list hq
  refine SeqAt.in_listAt (eqU x) pl.isList (λw hw=>zig rx fx r fs w (by simpa using hw)) ⟨.bl _,H,I,rfl,?_⟩
  rw [show its.toArray.any (eqU x)=its.any (eqU x) by simp,zif r fs]
  exact q
 ·obtain ⟨its,r,pl,hz⟩:=I.tuple hq
  refine SeqAt.in_tupleAt (eqU x) pl (λw hw=>zig rx fx r fs w (by simpa using hw)) ⟨.bl _,H,I,rfl,?_⟩
  rw [show its.toArray.any (eqU x)=its.any (eqU x) by simp,zif r fs]
  exact q
theorem zx3:OpR X (compareOp .NotIn) (rIn X.K true):=by
 intro pins s σ H x y v u Q I rx ry h
 obtain ⟨p,xs,rfl,hq,fx,fs,q⟩:=h
 cases ry
 rcases hq with hq|hq
 ·obtain ⟨its,r,pl,hz⟩:=I.list hq
  refine SeqAt.notIn_listAt (eqU x) pl.isList (λw hw=>zig rx fx r fs w (by simpa using hw)) ⟨.bl _,H,I,rfl,?_⟩
  rw [show its.toArray.any (eqU x)=its.any (eqU x) by simp,zif r fs]
  exact q
 ·obtain ⟨its,r,pl,hz⟩:=I.tuple hq
  refine SeqAt.notIn_tupleAt (eqU x) pl (λw hw=>zig rx fx r fs w (by simpa using hw)) ⟨.bl _,H,I,rfl,?_⟩
  rw [show its.toArray.any (eqU x)=its.any (eqU x) by simp,zif r fs]
  exact q
theorem call_len_seq:CallR X (.builtin "len") (λxs H Q=>∃p ys,xs=[.ref p]/\(SqL X.K H p ys\/SqT X.K H p ys)/\Q (.int ys.length) H):=by
 intro pins s σ H xs us Q I r h
 obtain ⟨p,ys,rfl,hq,q⟩:=h
 obtain ⟨u,rfl,rx⟩:=zdq r
 cases rx
 have hn:=zgz
 rcases hq with hq|hq
 ·obtain ⟨its,r',pl,hz⟩:=I.list hq
  have hlen:=r'.length
  exact Calls.call_len_list pl.isList (by simp only [List.size_toArray] <;> omega) ⟨.int ys.length,H,I.tok _,⟨s.toks+1,by rw [List.size_toArray,hlen]⟩,q⟩
 ·obtain ⟨its,r',pl,hz⟩:=I.tuple hq
  have hlen:=r'.length
  exact len_tuple pl (by simp only [List.size_toArray] <;> omega) ⟨.int ys.length,H,I.tok _,⟨s.toks+1,by rw [List.size_toArray,hlen]⟩,q⟩
theorem zx4:CallR X (.builtin "len") (λxs H Q=>∃z,xs=[.str z]/\z.length<=sizeLine/\Q (.int z.length) H):=by
 intro pins s σ H xs us Q I r h
 obtain ⟨z,rfl,hz,q⟩:=h
 obtain ⟨u,rfl,t,rfl⟩:=zdq r
 have hn:=zgz
 exact len_str (by omega) ⟨.int z.length,H,I.tok _,⟨_,rfl⟩,q⟩
theorem CallR.or {f:Value}{r r':List V->Hp->VK->Prop}(h:CallR X f r) (h':CallR X f r'):CallR X f (λxs H Q=>r xs H Q\/r' xs H Q):=by
 intro pins s σ H xs us Q I rs q
 rcases q with q|q
 ·exact h pins s σ H xs us Q I rs q
 ·exact h' pins s σ H xs us Q I rs q
theorem zx5:CallR X (.type "tuple") (λxs H Q=>∃p ys,xs=[.ref p]/\((SqL X.K H p ys/\∀l,H l=none->Q (.ref l) (upd H l (.tup ys)))\/(SqT X.K H p ys/\Q (.ref p) H))):=by
 intro pins s σ H xs us Q I r h
 obtain ⟨p,ys,rfl,h⟩:=h
 obtain ⟨u,rfl,rx⟩:=zdq r
 cases rx
 rcases h with ⟨hq,q⟩|⟨hq,q⟩
 ·obtain ⟨its,r',pl,hz⟩:=I.list hq
  have hlen:=r'.length
  refine call_tuple_list pl.isList (λh' kp=>?_) (by simp only [List.size_toArray] <;> omega)
  have I1:Inv X pins σ H { s with heap:=h' }:=I.kept (t':=s.toks) kp
  have I2:Inv X pins σ (upd H h'.objs.size (.tup ys)) { s with heap:=h'.push { cls:=.type "tuple",data:=.seq its.toArray } } :=
   I1.laid (t':=s.toks) (λb o e=>qps _ e) (qlr _) (show ObjOk X.prog X.w _ _ _ (.tup ys) from ⟨hz,its,r',IsTD.new _ _⟩)
  exact ⟨.ref h'.objs.size,_,I2,rfl,q _ (I1.hok.fresh (qlr _))⟩
 ·obtain ⟨its,r',pl,hz⟩:=I.tuple hq
  exact call_tuple_same pl ⟨.ref p,H,I,rfl,q⟩
def tyV (K:QFg) (T:String) (x:V) (H:Hp):Prop:=match x with
 | .str _=>T = "str"
 | .int _=>T = "int"
 | .ref p=>(T = "list"/\∃xs,SqL K H p xs)\/(T = "tuple"/\∃o,K.lookup p=some o/\o.cls=.type "tuple"/\o.dict=none) \/
   (T = "dict"/\((∃kvs,H p=some (.dK kvs))\/∃kvs,H p=some (.dT kvs)))\/(T = "set"/\∃S n,H p=some (.set S n))
 | _=>False
theorem zx6 {pins:List (Addr × Obj)}{σ:St}{H:Hp}{s:Shared}{T:String}{x:V}{v:Value}(I:Inv X pins σ H s) (r:RelV x v) (ty:tyV X.K T x H) :
  s.TypeIs v T/\∀a,v=.ref a->∃ob,s.heap.get? a=some ob/\ob.dict=none:=by
 cases x with
 | str z =>
  obtain ⟨t,rfl⟩:=r
  cases (show T = "str" from ty)
  exact ⟨typeIs_str s z t,λ_ e=>nomatch e⟩
 | int i =>
  obtain ⟨t,rfl⟩:=r
  cases (show T = "int" from ty)
  exact ⟨typeIs_int s i t,λ_ e=>nomatch e⟩
 | ref p =>
  cases r
  rcases ty with ⟨rfl,xs,hq⟩|⟨rfl,o,hk,hc,hd⟩|⟨rfl,hk⟩|⟨rfl,S,n,hk⟩
  ·obtain ⟨its,_,pl,_⟩:=I.list hq
   refine ⟨pl.isList.typeIs,λa e=>?_⟩
   cases e
   obtain ⟨o,n,e,c,hd,_⟩:=pl
   exact ⟨o,e,hd⟩
  ·refine ⟨⟨o,I.kIn p o hk,hc⟩,λa e=>?_⟩
   cases e
   exact ⟨o,I.kIn _ o hk,hd⟩
  ·have z:∃o,s.heap.get? p=some o/\o.ExactDict:=by
    rcases hk with ⟨kvs,hk⟩|⟨kvs,hk⟩
    ·obtain ⟨_,_,_,_,o,_,_,e,ex,_⟩:=I.hok p _ hk
     exact ⟨o,e,ex⟩
    ·obtain ⟨_,_,_,_,o,_,_,e,ex,_⟩:=I.hok p _ hk
     exact ⟨o,e,ex⟩
   obtain ⟨o,e,ex⟩:=z
   refine ⟨⟨o,e,ex.1⟩,λa e2=>?_⟩
   cases e2
   exact ⟨o,e,ex.2.1⟩
  ·obtain ⟨o,_,_,_,e,ex,_⟩:=I.hok p _ hk
   refine ⟨⟨o,e,ex.1⟩,λa e2=>?_⟩
   cases e2
   exact ⟨o,e,ex.2.1⟩
 | _=>exact False.elim ty
def tBM (K:QFg) (T:String) (r:V->List V->Hp->VK->Prop) (to:TE) (t:TA):TE:=λσ H Q=>to σ H λx H1=>tyV K T x H1/\t σ H1 λxs H2=>r x xs H2 Q
variable {o e:Expr}{es:List Expr}{to:TE}{t:TA}{name:Str}{apos cpos:Pos}{T id:String}{r:V->List V->Hp->VK->Prop}
theorem zo9 (pa:PlainAttrs T) (slot:Slot T name id) (hty:typeOf (.builtin id)=pure (.type "method_descriptor")) (hm:MtR X id r) (ho:PE X o to) (ha:PA X (e :: es) t)
  (hbase:attributeBase o name X.env (eval o X.env)=eval o X.env:=by rfl)
  (hfew:((backTo cpos (starEach (e :: es) X.env)).all (λx=>!x.1) && (backToKw cpos (keywordEach [] X.env)).all (λx=>x.1.isSome)
   && decide ((e :: es).length+([]:List Keyword).length+(if ([]:List Keyword).isEmpty then 0 else 1)<30))=true:=by rfl)
  (hline:(apos.endLine == cpos.line)=true:=by rfl) (hs:starEach (e :: es) X.env=(false,eval e X.env) :: starEach es X.env:=by rfl) (hplain:(backTo cpos (starEach es X.env)).any (·.1)=false:=by rfl) :
  PE X (.Call (.Attribute o name apos) (e :: es) [] cpos) (tBM X.K T r to t):=by
 intro pins s σ H Q I h
 refine wpAny_Call_method_late hbase hfew hline rfl (thn (ho pins s σ H _ I h) λv s1 ⟨x,H1,I1,r1,ty,q1⟩=>?_)
 obtain ⟨h1,h2⟩:=zx6 I1 r1 ty
 refine ⟨T,id,pa,slot,hty,h1,h2,?_⟩
 have hA:=ha cpos pins s1 σ H1 _ I1 q1
 rw [hs] at hA ⊢
 refine Calls.callWith_builtin (by show (false || (backTo cpos (starEach es X.env)).any (·.1))=false;rw [hplain] <;> rfl) (Calls.evalArgs_plain ?_)
 exact thn hA λus s2 ⟨vs,H2,I2,r2,q2⟩=>hm pins s2 σ H2 x vs v us Q I2 r1 r2 q2
end
def MtM (X:Cx) (id:String) (r:V->List V->Hp->VK->Prop):Prop :=
 ∀(pins:List (Addr × Obj)) (s:Shared) (σ:St) (H:Hp) (x:V) (xs:List V) (v:Value) (us:List Value) (Q:VK),Inv X pins σ H s->RelV x v->Vals xs us->r x xs H Q ->
  wpAny (model X.prog X.w) X.A (call (.builtin id) (v :: us)) (EP X pins σ Q) X.xe s
theorem Vals.one:∀{x:V}{us:List Value},Vals [x] us->∃u,us=[u]/\RelV x u
 | _,_,.cons r .nil=>⟨_,rfl,r⟩
theorem Vals.two {x y:V}{us:List Value}(h:Vals [x,y] us):∃u v,us=[u,v]/\RelV x u/\RelV y v:=by
 cases h with
 | cons r t =>
  cases t with
  | cons q t2=>cases t2;exact ⟨_,_,rfl,r,q⟩
theorem Vals.zero:∀{us:List Value},Vals [] us->us=[]
 | _,.nil=>rfl
theorem Vals.eraseIdx:∀{xs:List V}{us:List Value}(i:Nat),Vals xs us->Vals (xs.eraseIdx i) (us.eraseIdx i)
 | _,_,_,.nil=>.nil
 | _,_,0,.cons _ t=>t
 | _,_,i+1,.cons r t=>.cons r (Vals.eraseIdx i t)
theorem Vals.rep {xs:List V}{us:List Value}(h:Vals xs us):∀k:Nat,Vals (List.replicate k xs).flatten (List.replicate k us).flatten
 | 0=>.nil
 | k+1=>by
  rw [List.replicate_succ,List.replicate_succ,List.flatten_cons,List.flatten_cons]
  exact Vals.append h (Vals.rep h k)
theorem zpa {α:Type}:∀(l:List α) (i:Nat),(l.eraseIdx i).length<=l.length
 | [],_=>qlr _
 | _ :: _,0=>Nat.le_succ _
 | _ :: r,i+1=>Nat.succ_le_succ (zpa r i)
theorem zlt (its:List Value):∀(k:Nat) (acc:List Value),
  List.foldl (λx1 x2=>x1++x2) acc.toArray (List.replicate k its.toArray)=(acc++(List.replicate k its).flatten).toArray
 | 0,acc=>by simp
 | k+1,acc=>by
  have e:acc.toArray++its.toArray=(acc++its).toArray:=by simp
  have e2:(acc++its)++(List.replicate k its).flatten=acc++(List.replicate (k+1) its).flatten:=by
   rw [List.replicate_succ,List.flatten_cons,List.append_assoc]
  rw [<-e2,<-zlt its k (acc++its),<-e,List.replicate_succ,List.foldl_cons]
section
variable {X:Cx}{pins:List (Addr × Obj)}{σ:St}{H:Hp}{s:Shared}{l b:Addr}{xs ys zs:List V}
theorem Inv.lset {its its':List Value}{n:Nat}{f:Array Value->Array Value}{t':Nat}(I:Inv X pins σ H s) (hH:H l=some (.lst xs))
  (e:s.heap.get? l=some { cls:=.type "list",data:=.seq its.toArray n }) (hf:f its.toArray=its'.toArray) (hv:Vals ys its') (hz:ys.length<=sizeLine) :
  Inv X pins σ (upd H l (.lst ys)) { s with heap:=s.heap.update l (Obj.mapSeq f),toks:=t' }:=by
 have q:=PySem.IsL.update e f
 rw [hf] at q
 refine I.write (x:=l) (e:=l) (by rw [hH];exact trivial) (.inl rfl) (λb' u hb hu=>(Heap.get?_update_other s.heap (Obj.mapSeq f) (Ne.symm hb)).trans hu) ⟨_,q⟩ ?_
 exact ⟨hz,its',_,hv,q⟩
theorem Inv.lnew {its:List Value}{t':Nat}(I:Inv X pins σ H s) (hv:Vals ys its) (hz:ys.length<=sizeLine) :
  Inv X pins σ (upd H s.heap.objs.size (.lst ys)) { s with heap:=s.heap.push { cls:=.type "list",data:=.seq its.toArray },toks:=t' } :=
 I.laid (λ_ _ q=>qps _ q) (qlr _) ⟨hz,its,0,hv,Heap.get?_push_size _ rfl⟩
theorem Inv.fresh (I:Inv X pins σ H s):H s.heap.objs.size=none:=I.hok.fresh (qlr _)
theorem Inv.lstM (I:Inv X pins σ H s) (hH:H l=some (.lst xs)):xs.length<=sizeLine/\∃(its:List Value) (n:Nat),Vals xs its/\xs.length=its.length/\s.heap.get? l=some { cls:=.type "list",data:=.seq its.toArray n }:=by
 obtain ⟨z,its,n,r,e⟩:=I.hok l _ hH
 exact ⟨z,its,n,r,r.length,e⟩
theorem zpb {n:Nat}(h:n<=sizeLine):Builtin.List.listTooLong n=false:=by
 unfold Builtin.List.listTooLong
 exact decide_eq_false (by omega)
end
section
variable {X:Cx}
def zpc:V->List V->Hp->VK->Prop:=λx vs H Q=>∃l xs y,x=.ref l/\vs=[y]/\H l=some (.lst xs)/\xs.length<sizeLine/\Q .non (upd H l (.lst (xs++[y])))
theorem zpd:MtM X "list.append" zpc:=by
 intro pins s σ H x vs v us Q I rx rv h
 obtain ⟨l,xs,y,rfl,rfl,hH,hz,q⟩:=h
 cases rx
 obtain ⟨u,rfl,ru⟩:=rv.one
 obtain ⟨z,its,n,r,hl,e⟩:=I.lstM hH
 refine call_meets F.slot_list_append ⟨_,e,rfl⟩ F.entry_list_append (F.args_list_append_2 _ _) (PySem.list_append l its.toArray n u (by rw [List.size_toArray];omega)) ⟨e,?_⟩
 refine ⟨.non,_,I.lset (its':=its++[u]) hH e (by simp) (r.append (.cons ru .nil)) ?_,rfl,q⟩
 rw [qla,List.length_singleton]
 omega
def zpe:V->List V->Hp->VK->Prop:=λx vs H Q=>∃l b xs zs,x=.ref l/\vs=[.ref b]/\H l=some (.lst xs)/\H b=some (.lst zs)/\xs.length+zs.length<=sizeLine/\Q .non (upd H l (.lst (xs++zs)))
theorem zx7:MtM X "list.extend" zpe:=by
 intro pins s σ H x vs v us Q I rx rv h
 obtain ⟨l,b,xs,zs,rfl,rfl,hH,hB,hz,q⟩:=h
 cases rx
 obtain ⟨u,rfl,ru⟩:=rv.one
 cases ru
 obtain ⟨z,its,n,r,hl,e⟩:=I.lstM hH
 obtain ⟨z2,its2,n2,r2,hl2,e2⟩:=I.lstM hB
 have hsz:its.toArray.size+its2.toArray.size<=sizeLine:=by rw [List.size_toArray,List.size_toArray];omega
 have hlong:¬(!its.toArray.isEmpty && Builtin.List.listTooLong (its.toArray.size+its2.toArray.size))=true:=by
  rw [zpb hsz,Bool.and_false]
  exact Bool.false_ne_true
 refine call_meets F.slot_list_extend ⟨_,e,rfl⟩ F.entry_list_extend (F.args_list_extend_2 _ _)
  (AutoSeq1.list_extend_list_list_0 l its.toArray n b its2.toArray n2 hlong (by rw [List.size_toArray];omega) (by omega)) ⟨e,e2,?_⟩
 refine ⟨.non,_,I.lset (its':=its++its2) hH e (by simp) (r.append r2) ?_,rfl,q⟩
 rw [qla]
 omega
def zpf:V->List V->Hp->VK->Prop:=λx vs H Q=>∃l xs i k y,x=.ref l/\vs=[.int i]/\H l=some (.lst xs)/\-(2 ^ 63)<=i/\i<2 ^ 63/\seqIndex? i xs.length=some k/\xs[k]? = some y/\Q y (upd H l (.lst (xs.eraseIdx k)))
theorem zx8:MtM X "list.pop" zpf:=by
 intro pins s σ H x vs v us Q I rx rv h
 obtain ⟨l,xs,i,k,y,rfl,rfl,hH,h1,h2,hk,hy,q⟩:=h
 cases rx
 obtain ⟨u,rfl,ru⟩:=rv.one
 obtain ⟨t,rfl⟩:=ru
 obtain ⟨z,its,n,r,hl,e⟩:=I.lstM hH
 obtain ⟨w,hw,rw'⟩:=r.get hy
 refine call_meets F.slot_list_pop ⟨_,e,rfl⟩ F.entry_list_pop (F.args_list_pop_2 _ _)
  (MeetsSeq.list_pop_at l its.toArray n i t k w (fitsIndex_both h1 h2) (by rw [List.size_toArray,<-hl];exact hk) (by rw [<-Array.getElem?_toList];exact hw) (by rw [List.size_toArray];omega)) ⟨e,?_⟩
 refine ⟨y,_,I.lset (its':=its.eraseIdx k) hH e ?_ (r.eraseIdx k) ?_,rw',q⟩
 ·show its.toArray.eraseIdxIfInBounds k=(its.eraseIdx k).toArray
  rw [List.eraseIdxIfInBounds_toArray]
 ·have:=zpa xs k
  omega
def zpg:R2:=λx y H Q=>∃l b xs zs,x=.ref l/\y=.ref b/\H l=some (.lst xs)/\H b=some (.lst zs)/\xs.length+zs.length<=sizeLine/\∀p,H p=none->Q (.ref p) (upd H p (.lst (xs++zs)))
theorem zx9:OpR X (binaryOp .Add) zpg:=by
 intro pins s σ H x y v u Q I rx ry h
 obtain ⟨l,b,xs,zs,rfl,rfl,hH,hB,hz,q⟩:=h
 cases rx
 cases ry
 obtain ⟨z,its,n,r,hl,e⟩:=I.lstM hH
 obtain ⟨z2,its2,n2,r2,hl2,e2⟩:=I.lstM hB
 refine PySem.P.add_list e e2 ?_ (by rw [List.size_toArray,List.size_toArray];omega)
 have ea:its.toArray++its2.toArray=(its++its2).toArray:=by simp
 rw [ea]
 exact ⟨.ref _,_,I.lnew (t':=s.toks) (r.append r2) (by rw [qla];omega),rfl,q _ I.fresh⟩
def zph:R2:=λx y H Q=>∃l k xs,x=.ref l/\y=.int k/\H l=some (.lst xs)/\-(2 ^ 63)<=k/\k<2 ^ 63/\xs.length*k.toNat<=sizeLine /\
 ∀p,H p=none->Q (.ref p) (upd H p (.lst (List.replicate k.toNat xs).flatten))
theorem zlu {α:Type}(xs:List α) (k:Nat):(List.replicate k xs).flatten.length=k*xs.length:=by
 induction k with
 | zero=>simp
 | succ k ih=>rw [List.replicate_succ,List.flatten_cons,qla,ih,Nat.succ_mul,Nat.add_comm]
theorem zya:OpR X (binaryOp .Mult) zph:=by
 intro pins s σ H x y v u Q I rx ry h
 obtain ⟨l,k,xs,rfl,rfl,hH,h1,h2,hz,q⟩:=h
 cases rx
 obtain ⟨t,rfl⟩:=ry
 obtain ⟨z,its,n,r,hl,e⟩:=I.lstM hH
 have hlen:its.toArray.size*k.toNat<=sizeLine:=by rw [List.size_toArray,<-hl];exact hz
 have hcap:¬its.toArray.size*k.toNat > (2 ^ 63-1) / 8:=by
  have:(sizeLine:Nat)<=(2 ^ 63-1) / 8:=by decide
  omega
 have hfit:¬(!Builtin.List.listFitsIndex k)=true:=by
  rw [fitsIndex_both h1 h2]
  exact Bool.false_ne_true
 have hlong:¬Builtin.List.listTooLong (its.toArray.size*k.toNat)=true:=by
  rw [zpb hlen]
  exact Bool.false_ne_true
 have hnew:List.foldl (λx1 x2=>x1++x2) #[] (List.replicate (if its.toArray.isEmpty=true then 0 else k.toNat) its.toArray)=(List.replicate k.toNat its).flatten.toArray:=by
  have f0:∀m:Nat,List.foldl (λx1 x2=>x1++x2) #[] (List.replicate m its.toArray)=(List.replicate m its).flatten.toArray:=λm=>by
   have:=zlt its m []
   rw [List.nil_append] at this
   exact this
  rw [f0]
  cases its with
  | nil=>simp
  | cons a r'=>rw [if_neg (by simp)]
 refine wpAny_binaryOp_repeat_ref (T:="list") (U:="int") (by decide) ⟨_,e,rfl⟩ (λs'=>typeIs_int s' k t) noFill_list_mul F.fills_int_mul F.slot_int_rmul repeat_list F.slot_int_index.lookup
  (call_meets F.slot_int_rmul (typeIs_int s k t) F.entry_int_rmul (F.args_int_rmul_2 _ _) (int___rmul___int_list k t l its.toArray n)
   ⟨e,rfl,⟨_,e,rfl⟩,call_meets F.slot_list_mul ⟨_,e,rfl⟩ F.entry_list_mul (F.args_list_mul_2 _ _) (AutoListH.list___mul___list_int_3 l its.toArray n k t hfit hcap hlong) ⟨e,?_⟩⟩)
 rw [hnew]
 exact ⟨.ref _,_,I.lnew (t':=s.toks) (r.rep k.toNat) (by rw [zlu,Nat.mul_comm];exact hz),rfl,q _ I.fresh⟩
end
section
variable {prog:Program}{w:World}{A:Around}{E:Value->Shared->Prop}{s:Shared}
end
section
variable {X:Cx}
end
end L2
namespace Att
open PySem PySem.W PySem.Calls PyProof.Rows
theorem zyb {P:Params}{h:Heap}:∀(ns:List Int) (vs:List Value),WellAll P h vs (ns.map WData.int)->IntsAre vs ns:=by
 intro ns
 induction ns with
 | nil =>
  intro vs w
  rw [List.map_nil] at w
  cases w
  exact .nil
 | cons n ns ih =>
  intro vs w
  rw [List.map_cons] at w
  cases w with
  | cons a b =>
   cases a
   exact .cons _ _ (ih _ b)
theorem zyc {l:OpenLaw}{n:Nat}(hn:l.most=some n) {P:Params}{h:Heap}{args:List WData}{vals:List Value}
  (hpre:l.row.toRowW.claim.pre args=true) (hwl:WellAll P h vals args) :
  ∃a vs ns,vals=[Value.ref a]/\args=[WData.list (ns.map WData.int)]/\h.get? a=some { cls:=.type "list",data:=.seq vs.toArray }/\IntsAre vs ns/\ns.length<=n:=by
 have hsh:WShape.hasAll [] args [.list .int]=true:=(pre_splitW hpre).1
 have hc:l.pre.holds [] { args:=args }=true:=(pre_splitW hpre).2
 obtain ⟨d,r,rfl,h1,h2⟩:=hasAllW_cons hsh
 obtain rfl:=hasAllW_nil h2
 obtain ⟨xs,rfl,h3⟩:=hasW_list h1
 obtain ⟨ns,rfl⟩:=items_int h3
 have hlen:ns.length<=n:=by
  unfold OpenLaw.pre at hc
  have h4:(WTm.not (.lt (.lit (.int (n:Int))) (.len (.arg 0)))).holds [] { args:=[.list (ns.map .int)] }=true:=by
   have h4:=(holds_andW hc).1
   rw [hn] at h4
   exact h4
  have h5:=condW_of h4 (w_not (w_lt w_lit (w_len_list (w_arg rfl))))
  rw [qlm] at h5
  refine Nat.le_of_not_lt λq=>?_
  have q':(n:Int)<((ns.length:Nat):Int):=by omega
  first
   | (rw [decide_eq_true q'] at h5;exact absurd h5 (by decide))
   | (simp at h5;omega)
 cases hwl with
 | cons w1 w2 =>
  cases w2
  cases w1 with
  | list ho hall=>exact ⟨_,_,ns,rfl,rfl,ho,zyb ns _ hall,hlen⟩
theorem zyd (l:OpenLaw) (args:List WData):l.row.toRowW.claim.post args (.bool true) args=true :=
 postW_of (r:=l.row.toRowW) (X:=(true == true))
  (show WShape.has [] (.bool true) .bool=true by first|rfl|decide|simp [WShape.has,WShape.arms,WShape.armsAll])
  (show (WTm.eq .res (.lit (.bool true))).value [] { args:=args,res:=some (.bool true),after:=args }=some (.bool (true == true)) from w_eq_bool (w_res rfl) w_lit) rfl
theorem attach_call {l:OpenLaw}{n:Nat}{q:Program}{loose:List Str}{XP:(Str->Option Value)->Heap->Prop}{YP:World->Heap->Prop}{d:DefRec}
  (hn:l.most=some n) (hdf:d.params.defaults=[])
  (call:∀(w:World) (s₀ s₁:Shared) (mg mb:Str->Option Value) (fa:Addr) (o:Obj) (pm cd doc:Value) (a:Addr) (vs:List Value) (ns:List Int),
   Ground q loose [] XP w s₀ mg mb s₁.heap->YP w s₁.heap ->
   s₁.heap.get? fa=some o->o.data=.func (docDef d.name d.params d.body d.scope pm cd doc)->s₁.heap.CodeRec cd d.name->mg d.name=some (.ref fa) ->
   s₁.heap.get? a=some { cls:=.type "list",data:=.seq vs.toArray }->IntsAre vs ns->ns.length<=n->s₁.gens = #[] ->
   codeAny (model l.prog w) callerA (.call (.ref fa) ⟨[.ref a],[]⟩) (λr s'=>r=.ok (.ret (.bool true))/\OldK s₁.heap s'.heap/\s'.os=s₁.os/\AllBare s'.gens) s₁) :
  WalkO q loose XP YP l.row.toRowW d [] (λf vs=>PySem.call f vs):=by
 intro w s₀ s₁ mg mb G Y fa o pm cd doc dV kV ho hd hcd hD hmg hg args vals as hpre hlay hrd hwl hlo
 obtain rfl:dV=.none:=Dflts.none hD hdf
 obtain rfl:kV=.none:=Dflts.noKw hD
 obtain ⟨a,vs,ns,rfl,rfl,hobj,hints,hlen⟩:=zyc hn hpre hwl
 refine enter_call (codeAny_mono (call w s₀ s₁ mg mb fa o pm cd doc a vs ns G Y ho (fd_plain hd) hcd hmg hobj hints hlen hg) λr s' hq=>?_)
 obtain ⟨rfl,h2,h3,h4⟩:=hq
 exact ⟨.inl ⟨.bool true,.bool true,[],rfl,λ_=>rfl,.bool true,zyd l _,λ_=>⟨List.Pairwise.nil,λ_ hm=>(nomatch hm)⟩⟩,h2,h3,h4⟩
section
variable {prog:Program}{w:World}{A:Around}{E:Value->Shared->Prop}{s:Shared}{K:Frag}
end
end Att
namespace L2
open PySem PySem.Spec PyProof.Rows
theorem zpi:∀{vs:List Value}{ns:List Int},IntsAre vs ns->Vals (ns.map V.int) vs
 | _,_,.nil=>.nil
 | _,_,.cons n t h=>.cons ⟨t,rfl⟩ (zpi h)
def zj1 (H:Hp):Prop:=∀b,H b=none\/∃o xs,H b=some (.frz o (.lst xs))
theorem zye {P:Program}{w:World}{K:QFg}{mg mb:Str->Option Value}{CX:CXT}{k:Nat}{fa a:Addr}{fd:FuncData}{x:Str}{sp:Sp}{s₁:Shared}{vs:List Value}{ns:List Int}
  (KX:K.In s₁.heap) (hns:s₁.heap.Ns mainGlobals mg) (hb:s₁.heap.Ns builtinsNs mb) (hbb:∀x:Str,x≠"__name__"->mb x=bootBuiltins x) (hlim:s₁.heap.NoLimit) (hg:s₁.gens = #[])
  (ha:s₁.heap.get? a=some { cls:=.type "list",data:=.seq vs.toArray }) (hi:IntsAre vs ns) (hl:ns.length<=sizeLine) (hr:Room k callerA)
  (F:∀base:Heap,K.In base->base.Ns mainGlobals mg->FnOk P w K mg base CX k fa fd [x] sp) (hbind:∀(s:Shared) (u:Value),BindsTo s fd ⟨[u],[]⟩ [(x,u)])
  (hsp:∀H:Hp,zj1 H->SqL K H a (ns.map V.int)->sp [.ref a] H (λv _=>v=.bl true) λ_ _ _=>False)
  (hCX:∀H e s',CX [] H s₁ (λ_ _ _=>False) e s'->False) :
  codeAny (model P w) callerA (.call (.ref fa) ⟨[.ref a],[]⟩) (λr s'=>r=.ok (.ret (.bool true))/\OldK s₁.heap s'.heap/\s'.os=s₁.os/\AllBare s'.gens) s₁:=by
 have rv:=zpi hi
 have lenV:=hi.length
 have core:∀H:Hp,zj1 H->SqL K H a (ns.map V.int)->HOk P w H s₁.heap->(∀b,H b≠none->b=a)->(H a≠none->K.lookup a=none) ->
   codeAny (model P w) callerA (.call (.ref fa) ⟨[.ref a],[]⟩) (λr s'=>r=.ok (.ret (.bool true))/\OldK s₁.heap s'.heap/\s'.os=s₁.os/\AllBare s'.gens) s₁:=by
  intro H hO hS hok hA hK
  have base_of:∀{b:Addr} {o:Obj},s₁.heap.get? b=some o->H b=none->(zel s₁.heap H).get? b=some o:=λe n=>zu9 e n
  have noA:∀{b:Addr} {o:Obj} {es:Array DictEntry} {ep:Nat},s₁.heap.get? b=some o->o.data=.dict es ep->H b=none:=λ{b o es ep} e d=>by
   cases q:H b with
   | none=>rfl
   | some u =>
    have e':b=a:=hA b (by rw [q];simp)
    subst e'
    rw [ha] at e;cases e
    have d':Data.seq vs.toArray _=Data.dict es ep:=d
    cases d'
  have nsK:∀{b:Addr} {m:Str->Option Value},s₁.heap.Ns b m->(zel s₁.heap H).Ns b m:=λ{b m} ⟨o,es,ep,e,d,r⟩=>⟨o,es,ep,base_of e (noA e d),d,r⟩
  have hKb:K.In (zel s₁.heap H):=λb o e=>base_of (KX b o e) (by
   cases q:H b with
   | none=>rfl
   | some u =>
    have e':b=a:=hA b (by rw [q];simp)
    subst e'
    rw [hK (by rw [q];simp)] at e;cases e)
  have hM:Mod K mg (zel s₁.heap H):=⟨hKb,nsK hns,⟨mb,nsK hb,hbb⟩,let ⟨mc,h1,h2⟩:=hlim;⟨mc,nsK h1,h2⟩⟩
  have e0:Env0 P w K mg (zel s₁.heap H) callerA [] s₁ H:=⟨rfl,hM,λb o e=>zva e,Nat.le_of_eq (zu8 _ _),trivial,λb hb=>absurd (show b∈([]:List Addr) from hb) (by simp),hok,.of_eq hg⟩
  refine codeAny_mono ((F _ hKb (nsK hns)).run callerA [] s₁ H ⟨[.ref a],[]⟩ [.ref a] [.ref a] _ _ hr e0 (hbind s₁ (.ref a)) (.cons rfl .nil) (hsp H hO hS)) λr s' h=>?_
  cases r with
  | error e=>exact (hCX H e s' h).elim
  | ok fl =>
   cases fl with
   | next=>exact False.elim h
   | brk=>exact False.elim h
   | cont=>exact False.elim h
   | ret u =>
    obtain ⟨v,H',os,bare,un,hok',r',q⟩:=h
    have q':v=.bl true:=q
    subst q'
    obtain rfl:u=Value.bool true:=r'
    refine ⟨rfl,OldK.of_keep λb o e=>?_,os,bare⟩
    cases q:H b with
    | none=>exact un.keep b o e q (by intro z;exact absurd (show b∈([]:List Addr) from z) (by simp)) (by simp)
    | some u =>
     rcases hO b with z|⟨ob,xs,z⟩
     ·rw [q] at z;cases z
     ·have z2:=un.frzs b ob _ z
      obtain ⟨e1,_⟩:=hok b _ z
      obtain ⟨e2,_⟩:=hok' b _ z2
      rw [e] at e1;cases e1
      exact e2
 cases hk:K.lookup a with
 | some o =>
  have e:=KX a o hk
  rw [ha] at e
  cases e
  refine core (λ_=>none) (λ_=>.inl rfl) (.inr ⟨_,vs.toArray,_,hk,rfl,rfl,rfl,by rw [List.size_toArray,lenV];exact hl,by simpa using rv⟩) (λb u z=>by have z':(none:Option HO)=some u:=z;cases z') (λb z=>absurd rfl z) λz=>absurd rfl z
 | none =>
  refine core (λb=>if b=a then some (.frz { cls:=.type "list",data:=.seq vs.toArray } (.lst (ns.map V.int))) else none) (λb=>?_) (.inl (.inr ⟨{ cls:=.type "list",data:=.seq vs.toArray },if_pos rfl⟩)) (λb u z=>?_) (λb z=>?_) λ_=>hk
  ·by_cases hb:b=a
   ·exact .inr ⟨_,_,if_pos hb⟩
   ·exact .inl (if_neg hb)
  ·by_cases hb:b=a
   ·have z':=(if_pos hb).symm.trans z
    cases z'
    subst hb
    exact ⟨ha,by rw [qlm];exact hl,vs,_,rv,ha⟩
   ·have z':=(if_neg hb).symm.trans z
    cases z'
  ·by_cases hb:b=a
   ·exact hb
   ·exact absurd (if_neg hb) z
theorem walk_of {l:PySem.W.OpenLaw}{n k:Nat}{q:Program}{loose:List Str}{XP:(Str->Option Value)->Heap->Prop}{YP:World->Heap->Prop}{d:DefRec}{K:Params->QFg}{CX:World->CXT}{sp:World->Sp}{x:Str}
  (hn:l.most=some n) (hn2:n<=sizeLine) (hdf:d.params.defaults=[]) (hr:Room k callerA)
  (hY:∀(w:World) (h:Heap),YP w h->(K w.params).In h)
  (F:∀(w:World) (mg:Str->Option Value) (fa:Addr) (h:Heap),(K w.params).In h->h.Ns mainGlobals mg->mg d.name=some (.ref fa) ->
   ∃fd:FuncData,(∀(s:Shared) (u:Value),BindsTo s fd ⟨[u],[]⟩ [(x,u)]) /\
    ∀base:Heap,(K w.params).In base->base.Ns mainGlobals mg->FnOk l.prog w (K w.params) mg base (CX w) k fa fd [x] (sp w))
  (hsp:∀(w:World) (H:Hp) (a:Addr) (ns:List Int),ns.length<=n->zj1 H->SqL (K w.params) H a (ns.map V.int)->sp w [.ref a] H (λv _=>v=.bl true) λ_ _ _=>False)
  (hCX:∀(w:World) (H:Hp) (s:Shared) (e:Value) (s':Shared),CX w [] H s (λ_ _ _=>False) e s'->False) :
  PySem.W.WalkO q loose XP YP l.row.toRowW d [] (λf vs=>PySem.call f vs):=by
 refine Att.attach_call hn hdf λw s₀ s₁ mg mb fa o pm cd doc a vs ns G Y ho hd hcd hmg hobj hints hlen hg=>?_
 have KX:=hY w _ Y
 obtain ⟨fd,hb,hF⟩:=F w mg fa _ KX G.T.g hmg
 exact zye KX G.T.g G.T.b G.T.builtins G.T.nolimit hg hobj hints (Nat.le_trans hlen hn2) hr hF hb (λH hO hS=>hsp w H a ns hlen hO hS) λH e s'=>hCX w H s₁ e s'
noncomputable def zfw (s:Stmt):Arguments:=match s with
 | .FunctionDef _ a _ _ _ _ _ _ _ _=>a
 | _=>{ posonlyargs:=[],args:=[],vararg:=none,kwonlyargs:=[],kw_defaults:=[],kwarg:=none,defaults:=[] }
noncomputable def zdr (s:Stmt):List Stmt:=match s with
 | .FunctionDef _ _ b _ _ _ _ _ _ _=>b
 | _=>[]
noncomputable def za1 (s:Stmt):Scope:=match s with
 | .FunctionDef _ _ _ _ _ _ sc _ _ _=>sc
 | _=>{ kind:=.function,names:=[],isGenerator:=false,isCoroutine:=false }
abbrev CX0:CXT:=λ_ _ _ _ _ _=>False
abbrev E0:XK:=λ_ _ _=>False
theorem zpj {X:Cx}:zlp CX0 X E0:=λ_ _ _ _ _ _ _ h=>h.elim
structure Fun (K:QFg) (x qual:Str) (st:Stmt) (f:Addr) (fd:FuncData):Prop where
 ex:∃(oc:Value) (od:Option Addr) (kV doc pm:Value) (an:Option Addr) (cdv ct:Value) (osl:Array (Option Value)),
  fd=PySem.W.fnOf x qual (zfw st) (zdr st) (za1 st) .none kV doc pm an cdv ct/\K.lookup f=some ⟨oc,od,.func fd,osl⟩/\PySem.W.codeIn K cdv qual=true
 kp:PySem.W.keepIn K (.ref f)=true
section
variable {P:Program}{w:World}{K:QFg}{mg:Str->Option Value}{base:Heap}
theorem Fun.binds {x qual:Str}{st:Stmt}{f:Addr}{fd:FuncData}{ps:List Str}(F:Fun K x qual st f fd)
  (h:∀(kV doc pm:Value) (an:Option Addr) (cdv ct:Value) (us:List Value),us.length=ps.length->bindArgs (PySem.W.fnOf x qual (zfw st) (zdr st) (za1 st) .none kV doc pm an cdv ct) ⟨us,[]⟩=pure (ps.zip us)):Binds K fd ps []:=by
 obtain ⟨oc,od,kV,doc,pm,an,cdv,ct,osl,rfl,lk,hcd⟩:=F.ex
 exact .all (h kV doc pm an cdv ct)
theorem zyf {x qual:Str}{st:Stmt}{f:Addr}{oc:Value}{od an:Option Addr}{osl:Array (Option Value)}{kV doc pm cdv ct:Value}(l:K.lookup f=some ⟨oc,od,.func (PySem.W.fnOf x qual (zfw st) (zdr st) (za1 st) .none kV doc pm an cdv ct),osl⟩)
  (c:PySem.W.codeIn K cdv qual=true) (k:PySem.W.keepIn K (.ref f)=true):Fun K x qual st f (PySem.W.fnOf x qual (zfw st) (zdr st) (za1 st) .none kV doc pm an cdv ct):=⟨⟨oc,od,kV,doc,pm,an,cdv,ct,osl,rfl,l,c⟩,k⟩
end
section
variable {X:Cx}
end
theorem zfb {A B:Prop}(h:B):if false=true then A else B:=by
 rw [if_neg Bool.false_ne_true]
 exact h
theorem zfc {A B:Prop}(h:A):if true=true then A else B:=by
 rw [if_pos rfl]
 exact h
section
variable {κ:Type} [DecidableEq κ]
noncomputable def zca (kvs:List (κ × V)) (k:κ):Option V:=(kvs.find? λkv=>decide (kv.1=k)).map (·.2)
noncomputable def zce (kvs:List (κ × V)) (k:κ) (v:V):List (κ × V) :=
 if (kvs.any λkv=>decide (kv.1=k))=true then kvs.map (λkv=>if kv.1=k then (kv.1,v) else kv) else kvs++[(k,v)]
theorem zih {p:κ × V}{r:List (κ × V)}{k:κ}(e:p.1=k):zca (p :: r) k=some p.2:=by simp [zca,List.find?_cons,e]
theorem zii {p:κ × V}{r:List (κ × V)}{k:κ}(e:¬p.1=k):zca (p :: r) k=zca r k:=by simp [zca,List.find?_cons,e]
theorem zpk (k:κ):∀kvs:List (κ × V),(kvs.any λkv=>decide (kv.1=k))=(zca kvs k).isSome
 | []=>rfl
 | p :: r=>by
  rw [List.any_cons]
  by_cases e:p.1=k
  ·simp only [zih e,decide_eq_true e,Bool.true_or,Option.isSome_some]
  ·rw [zii e,decide_eq_false e,Bool.false_or];exact zpk k r
theorem zpl (kvs:List (κ × V)) (k:κ) (v:V):(zce kvs k v).length<=kvs.length+1:=by
 unfold zce
 split
 ·rw [qlm];omega
 ·rw [qla,List.length_cons,List.length_nil];omega
theorem RelO.isSome_eq {o:Option V}{u:Option Value}(r:RelO o u):o.isSome=u.isSome:=by
 cases o with
 | none=>cases u with
  | none=>rfl
  | some _=>exact (show False from r).elim
 | some _=>cases u with
  | none=>exact (show False from r).elim
  | some _=>rfl
theorem KV.val {kvs:List (κ × V)}{vs:List (κ × Value)}(r:KV kvs vs) (k:κ):RelO (zca kvs k) (valueAt vs k):=by
 unfold KV at r
 induction r with
 | nil=>exact True.intro
 | @cons p q ps qs h t ih =>
  obtain ⟨h1,h2⟩:=h
  by_cases e:p.1=k
  ·have e':q.1=k:=h1.symm.trans e
   have b:valueAt (q :: qs) k=some q.2:=by simp [valueAt,List.find?_cons,e']
   rw [zih e,b];exact h2
  ·have e':¬q.1=k:=λz=>e (h1.trans z)
   have b:valueAt (q :: qs) k=valueAt qs k:=by simp [valueAt,List.find?_cons,e']
   rw [zii e,b];exact ih
theorem KV.any {kvs:List (κ × V)}{vs:List (κ × Value)}(r:KV kvs vs) (k:κ):(kvs.any λkv=>decide (kv.1=k))=vs.any λkv=>decide (kv.1=k):=by
 unfold KV at r
 induction r with
 | nil=>rfl
 | cons h t ih=>rw [List.any_cons,List.any_cons,ih,h.1]
theorem KV.repl {kvs:List (κ × V)}{vs:List (κ × Value)}(r:KV kvs vs) (k:κ) {y:V}{u:Value}(ry:RelV y u) :
  KV (kvs.map λkv=>if kv.1=k then (kv.1,y) else kv) (vs.map λkv=>if kv.1=k then (kv.1,u) else kv):=by
 unfold KV at r ⊢
 induction r with
 | nil=>exact .nil
 | @cons p q ps qs h t ih =>
  rw [List.map_cons,List.map_cons]
  refine .cons ?_ ih
  obtain ⟨h1,h2⟩:=h
  by_cases e:p.1=k
  ·rw [if_pos e,if_pos (h1.symm.trans e)];exact ⟨h1,ry⟩
  ·rw [if_neg e,if_neg (λz=>e (h1.trans z))];exact ⟨h1,h2⟩
theorem KV.put {kvs:List (κ × V)}{vs:List (κ × Value)}(r:KV kvs vs) (k:κ) {y:V}{u:Value}(ry:RelV y u):KV (zce kvs k y) (stored vs k u):=by
 unfold zce stored
 rw [r.any k]
 by_cases e:(vs.any λkv=>decide (kv.1=k))=true
 ·rw [if_pos e,if_pos e];exact r.repl k ry
 ·rw [if_neg e,if_neg e];exact Paired.snoc r ⟨rfl,ry⟩
theorem KV.length {kvs:List (κ × V)}{vs:List (κ × Value)}(r:KV kvs vs):kvs.length=vs.length:=Paired.length r
end
theorem zj2 {P:Program}{w:World}{k:Key}{u:Value}(r:RelV (kV k) u):(zc0 P w).is k u=true:=by
 cases k with
 | inl i=>obtain ⟨t,e⟩:=(show ∃t,u=Value.int i t from r);subst e;exact zob P w i t
 | inr x=>obtain ⟨t,e⟩:=(show ∃t,u=Value.str x t from r);subst e;exact zu7 P w x t
theorem zpm {P:Program}{w:World}:∀{ks:List Key}{us:List Value},Vals (ks.map kV) us->ItemsAre (zc0 P w) ks us
 | [],_,r=>by rw [List.map_nil] at r;cases r;exact .nil
 | k :: ks,_,r=>by
  rw [List.map_cons] at r
  cases r with
  | cons h t=>exact .cons (zj2 h) (zpm t)
abbrev KT (H:Hp):List (List Key × V)->List (List Key × Addr × Value)->Prop:=Paired λp q=>p.1=q.1/\H q.2.1=some (.tup (p.1.map kV))/\RelV p.2 q.2.2
theorem KT.val {H:Hp}{kvs:List (List Key × V)}{xs:List (List Key × Addr × Value)}(r:KT H kvs xs) (k:List Key):RelO (zca kvs k) ((atKey xs k).map (·.2)):=by
 induction r with
 | nil=>exact True.intro
 | @cons p q ps qs h t ih =>
  obtain ⟨h1,_,h2⟩:=h
  by_cases e:p.1=k
  ·have e':q.1=k:=h1.symm.trans e
   have b:atKey (q :: qs) k=some q.2:=by simp [atKey,List.find?_cons,e']
   rw [zih e,b];exact h2
  ·have e':¬q.1=k:=λz=>e (h1.trans z)
   have b:atKey (q :: qs) k=atKey qs k:=by simp [atKey,List.find?_cons,e']
   rw [zii e,b];exact ih
theorem KT.repl {H:Hp}{kvs:List (List Key × V)}{xs:List (List Key × Addr × Value)}(r:KT H kvs xs) (k:List Key) {y:V}{u:Value}(ry:RelV y u) :
  KT H (kvs.map λkv=>if kv.1=k then (kv.1,y) else kv) (xs.map (putAt k u)):=by
 induction r with
 | nil=>exact .nil
 | @cons p q ps qs h t ih =>
  rw [List.map_cons,List.map_cons]
  refine .cons ?_ ih
  obtain ⟨h1,h2,h3⟩:=h
  unfold putAt
  by_cases e:p.1=k
  ·rw [if_pos e,if_pos (h1.symm.trans e)];exact ⟨h1,h2,ry⟩
  ·rw [if_neg e,if_neg (λz=>e (h1.trans z))];exact ⟨h1,h2,h3⟩
theorem KT.put {H:Hp}{kvs:List (List Key × V)}{xs:List (List Key × Addr × Value)}(r:KT H kvs xs) (k:List Key) {b:Addr}{y:V}{u:Value}(hb:H b=some (.tup (k.map kV))) (ry:RelV y u) :
  KT H (zce kvs k y) (storedH xs k b u):=by
 have e:(kvs.any λkv=>decide (kv.1=k))=(atKey xs k).isSome:=by
  rw [zpk,(r.val k).isSome_eq,Option.isSome_map]
 unfold zce storedH
 rw [e]
 by_cases q:(atKey xs k).isSome=true
 ·rw [if_pos q,if_pos q];exact r.repl k ry
 ·rw [if_neg q,if_neg q];exact Paired.snoc r ⟨rfl,hb,ry⟩
theorem KT.keeps {H H':Hp}{kvs:List (List Key × V)}{xs:List (List Key × Addr × Value)}(r:KT H kvs xs) (ht:∀b ys,H b=some (.tup ys)->H' b=some (.tup ys)):KT H' kvs xs :=
 Paired.mapP r λ_ _ z=>⟨z.1,ht _ _ z.2.1,z.2.2⟩
section
variable {P:Program}{w:World}{H:Hp}{h:Heap}{a:Addr}
theorem zpn {u:HO}(ok:HOk P w H h) (e:Rd H a u):ObjOk P w H h a u:=e.ok ok
theorem zij {kvs:List (Key × V)}(ok:HOk P w H h) (e:Rd H a (.dK kvs)):kvs.length<=sizeLine/\(a == sysModules)=false/\∃vs,KV kvs vs/\h.DictOf (zc0 P w) a vs :=
 show ObjOk P w H h a (.dK kvs) from zpn ok e
theorem zyg {kvs:List (Key × V)}(ok:HOk P w H h) (e:H a=some (.dK kvs)):kvs.length<=sizeLine/\(a == sysModules)=false/\∃vs,KV kvs vs/\h.DictOf (zc0 P w) a vs:=zij ok (.inl e)
theorem zj3 {ks:List Key}(ok:HOk P w H h) (e:H a=some (.tup (ks.map kV))):(tupleKind (zc0 P w)).is h ks a:=by
 obtain ⟨_,its,r,o,h1,h2,n,h3,_⟩:=(show ObjOk P w H h a (.tup (ks.map kV)) from ok a _ e)
 exact ⟨o,its.toArray,n,h1,h2,h3,by simpa using zpm r⟩
theorem zj4 {kvs:List (List Key × V)}(ok:HOk P w H h) (e:Rd H a (.dT kvs)):kvs.length<=sizeLine/\(a == sysModules)=false /\
  ∃xs,KT H kvs xs/\h.DictOfH (tupleKind (zc0 P w)) a xs:=by
 obtain ⟨z,y,xs,r,o,es,ep,h1,h2,h3,h4,h5⟩:=(show ObjOk P w H h a (.dT kvs) from zpn ok e)
 refine ⟨z,y,xs,r,o,es,ep,h1,h2,h3,h4,λx hx=>?_,h5⟩
 have all:∀{l:List (List Key × V)} {m:List (List Key × Addr × Value)},KT H l m->∀x∈m,(tupleKind (zc0 P w)).is h x.1 x.2.1:=by
  intro l m q
  induction q with
  | nil=>intro x hx;exact nomatch hx
  | @cons p q ps qs hq t ih =>
   intro x hx
   rcases List.mem_cons.mp hx with e|hx
   ·subst e
    exact zj3 ok (by rw [<-hq.1];exact hq.2.1)
   ·exact ih x hx
 exact all r x hx
theorem zyh {kvs:List (List Key × V)}(ok:HOk P w H h) (e:H a=some (.dT kvs)):kvs.length<=sizeLine/\(a == sysModules)=false /\
  ∃xs,KT H kvs xs/\h.DictOfH (tupleKind (zc0 P w)) a xs:=zj4 ok (.inl e)
end
def zfd (H:Hp) (a:Addr) (y:V) (r:Option V):Prop :=
 (∃kvs k,Rd H a (.dK kvs)/\y=kV k/\r=zca kvs k)\/∃kvs k b,Rd H a (.dT kvs)/\y=.ref b/\H b=some (.tup (k.map kV))/\r=zca kvs k
def DPut (H:Hp) (a:Addr) (y v:V) (H':Hp):Prop :=
 (∃kvs k,H a=some (.dK kvs)/\y=kV k/\kvs.length<sizeLine/\H' = upd H a (.dK (zce kvs k v))) \/
 ∃kvs k b,H a=some (.dT kvs)/\y=.ref b/\H b=some (.tup (k.map kV))/\kvs.length<sizeLine/\H' = upd H a (.dT (zce kvs k v))
theorem DPut.k {H:Hp}{a:Addr}{kvs:List (Key × V)}{k:Key}{v:V}(e:H a=some (.dK kvs)) (hl:kvs.length<sizeLine):DPut H a (kV k) v (upd H a (.dK (zce kvs k v))):=.inl ⟨kvs,k,e,rfl,hl,rfl⟩
theorem DPut.t {H:Hp}{a b:Addr}{kvs:List (List Key × V)}{k:List Key}{v:V}(e:H a=some (.dT kvs)) (eb:H b=some (.tup (k.map kV))) (hl:kvs.length<sizeLine) :
  DPut H a (.ref b) v (upd H a (.dT (zce kvs k v))):=.inr ⟨kvs,k,b,e,rfl,eb,hl,rfl⟩
section
variable {X:Cx}{pins:List (Addr × Obj)}{σ:St}{H:Hp}{s:Shared}{a:Addr}{y v:V}{u r:Value}{o:Option V}{A:Around}{E:Value->Shared->Prop}
theorem zyi {Q:Value->Shared->Prop}(hu:A.units+1<cLine) (I:Inv X pins σ H s) (g:zfd H a y (some v)) (ry:RelV y u) (h:∀w' s',Inv X pins σ H s'->RelV v w'->Q w' s') :
  wpAny (model X.prog X.w) A (getItem (.ref a) u) Q E s:=by
 rcases g with ⟨kvs,k,e,ey,l⟩|⟨kvs,k,b,e,ey,eb,l⟩
 ·subst ey
  obtain ⟨z,hd,vs,rel,dd⟩:=zij I.hok e
  obtain ⟨w',hw,rw'⟩:=RelO.some_of (v:=v) (o:=valueAt vs k) (by rw [l];exact rel.val k)
  exact wpAny_getItem_of (zj2 ry) dd.mapOf hw (h w' _ (I.tok _) rw')
 ·subst ey
  cases (show u=Value.ref b from ry)
  obtain ⟨z,hd,xs,rel,dd⟩:=zj4 I.hok e
  obtain ⟨w',hw,rw'⟩:=RelO.some_of (v:=v) (o:=(atKey xs k).map (·.2)) (by rw [l];exact rel.val k)
  obtain ⟨p,hp,hp2⟩:=Option.map_eq_some_iff.mp hw
  refine wpAny_getItem_heap (tupleKind_room_in1 hu) (zj3 I.hok eb) dd hp ?_
  rw [hp2]
  exact h w' _ (I.tok _) rw'
theorem zyj {Q:Value->Shared->Prop}(hu:A.units+1<cLine) (I:Inv X pins σ H s) (g:zfd H a y o) (ry:RelV y u) (h:∀s',Inv X pins σ H s'->Q (.bool (!o.isSome)) s') :
  wpAny (model X.prog X.w) A (compareOp .NotIn u (.ref a)) Q E s:=by
 rcases g with ⟨kvs,k,e,ey,l⟩|⟨kvs,k,b,e,ey,eb,l⟩
 ·subst ey
  obtain ⟨z,hd,vs,rel,dd⟩:=zij I.hok e
  refine wpAny_notIn_of (zj2 ry) hd dd.mapOf ?_
  rw [<-(rel.val k).isSome_eq,<-l]
  exact h _ (I.tok _)
 ·subst ey
  cases (show u=Value.ref b from ry)
  obtain ⟨z,hd,xs,rel,dd⟩:=zj4 I.hok e
  refine wpAny_notIn_heap (tupleKind_room_in1 hu) (zj3 I.hok eb) hd dd ?_
  have q:=(rel.val k).isSome_eq
  rw [Option.isSome_map] at q
  rw [<-q,<-l]
  exact h _ (I.tok _)
theorem zpo {h':Heap}{t':Nat}{ob:HO}(I:Inv X pins σ H s) (mu:Mut (H a)) (hs:Heap.SameBut a s.heap h') (he:∃q,h'.get? a=some q) (new:ObjOk X.prog X.w (upd H a ob) h' a ob) :
  Inv X pins σ (upd H a ob) { s with heap:=h',toks:=t' } :=
 I.write (x:=a) (e:=a) mu (.inl rfl) (λb q hb z=>(hs.2 b hb).trans z) he new
theorem zyk {P:Program}{w:World}{H':Hp}{h':Heap}{kvs:List (Key × V)}{vs:List (Key × Value)}(z:kvs.length<=sizeLine) (hd:(a == sysModules)=false) (rel:KV kvs vs) (dd:h'.DictOf (zc0 P w) a vs) :
  ObjOk P w H' h' a (.dK kvs):=⟨z,hd,vs,rel,dd⟩
theorem zyl {H':Hp}{Q:Unit->Shared->Prop}(hu:A.units+1<cLine) (I:Inv X pins σ H s) (g:DPut H a y v H') (ry:RelV y u) (rv:RelV v r) (h:∀s',Inv X pins σ H' s'->Q () s') :
  wpAny (model X.prog X.w) A (setItem (.ref a) u r) Q E s:=by
 rcases g with ⟨kvs,k,e,ey,l,eH⟩|⟨kvs,k,b,e,ey,eb,l,eH⟩
 ·subst ey eH
  obtain ⟨z,hd,vs,rel,dd⟩:=zyg I.hok e
  have hz:vs.length<=sizeLine:=by rw [<-rel.length];exact z
  have hl:(zce kvs k v).length<=sizeLine:=by have:=zpl kvs k v;omega
  refine wpAny_setItem_pairs (hsz:=hz) (zj2 ry) dd λh' dd' hs=>h _ ?_
  have he:∃q,h'.get? a=some q:=let ⟨q,_,_,hq,_⟩:=dd';⟨q,hq⟩
  exact zpo I (by rw [e];exact True.intro) hs he (zyk hl hd (rel.put k rv) dd')
 ·subst ey eH
  cases (show u=Value.ref b from ry)
  obtain ⟨z,hd,xs,rel,dd⟩:=zyh I.hok e
  have hz:xs.length<=sizeLine:=by rw [<-Paired.length rel];exact z
  have hl:(zce kvs k v).length<=sizeLine:=by have:=zpl kvs k v;omega
  refine wpAny_setItem_heap (hsz:=hz) (tupleKind_room_in1 hu) (zj3 I.hok eb) dd λh' dd' hs=>h _ ?_
  obtain ⟨q,es,ep,hq,h2,h3,h4,_,h5⟩:=dd'
  refine zpo I (by rw [e];exact True.intro) hs ⟨q,hq⟩ ⟨hl,hd,_,(rel.put k eb rv).keeps λc ys ec=>?_,q,es,ep,hq,h2,h3,h4,h5⟩
  rw [zap (zd7 ec e (λz=>nomatch z))]
  exact ec
end
section
variable {X:Cx}{pins:List (Addr × Obj)}{σ:St}{H:Hp}{s:Shared}{a:Addr}{kvs:List (Key × V)}{k:Key}{u:Value}{A:Around}{E:Value->Shared->Prop}
theorem zym {Q:Value->Shared->Prop}(I:Inv X pins σ H s) (e:Rd H a (.dK kvs)) (h:∀t s',Inv X pins σ H s'->Q (.int kvs.length t) s'):wpAny (model X.prog X.w) A (call (.builtin "len") [.ref a]) Q E s:=by
 obtain ⟨z,hd,vs,rel,dd⟩:=zij I.hok e
 refine call_len_dict hd dd (by rw [<-rel.length];rw [sizeLine_eq] at z;omega) ?_
 rw [<-rel.length]
 exact h _ _ (I.tok _)
end
def zlv (i:Expr):Prop:=∀ov iv,subscripted i false ov iv=operate [ov,iv] (getItem ov iv)
theorem zyn {prog:Program}{w:World}{A:Around}{E:Value->Shared->Prop}{s:Shared}{env:Env}{value slice:Expr}{pos:Pos}{T id:String}{Q:Value->Shared->Prop}
  (hl:typeLookup (.type T) "__getitem__" = pure (some (.builtin id))) (hs:zlv slice)
  (h:wpAny (model prog w) A (eval value env) (λo s₁=>wpAny (model prog w) A (eval slice env) (λi s₂=>s₂.TypeIs o T/\wpAny (model prog w) A (getItem o i) Q E s₂) E s₁) E s) :
  wpAny (model prog w) A (eval (.Subscript value slice pos) env) Q E s:=by
 refine Subscript_ (wpAny_mono h (λo s₁ h₁=>wpAny_mono h₁ (λi s₂ h₂=>?_) λ_ _ x=>x) λ_ _ x=>x)
 obtain ⟨hT,h₂⟩:=h₂
 unfold subscriptTail
 refine qwb ?_
 rw [getitemInPython_of_ne hT.not_modules]
 refine qwb (wpAny_specialOf hT hl ?_)
 have fin:wpAny (model prog w) A (subscripted slice false o i) (λr s₃=>wpAny (model prog w) A (letTemporaryGo value o r >>= λ_=>pure r) Q E s₃) E s₂:=by
  rw [hs o i]
  exact wpAny_operating (wpAny_mono h₂ (λr s₃ h₃=>qwb (wpAny_letTemporaryGo (qwp h₃))) λ_ _ x=>x)
 first
  | exact qwp (qwb fin)
  | exact qwb (qwp (qwb fin))
  | exact qwb fin
theorem zyo {X:Cx}{pins:List (Addr × Obj)}{σ:St}{H:Hp}{s:Shared}{a:Addr}{y:V}{o:Option V}(I:Inv X pins σ H s) (g:zfd H a y o):s.TypeIs (.ref a) "dict":=by
 rcases g with ⟨kvs,k,e,_,_⟩|⟨kvs,k,b,e,_,_,_⟩
 ·obtain ⟨_,_,vs,_,dd⟩:=zij I.hok e
  exact dd.typeIs
 ·obtain ⟨_,_,xs,_,dd⟩:=zj4 I.hok e
  exact dd.typeIs
def zyp (td ty:TE):TE:=λσ H Q=>td σ H λx H1=>ty σ H1 λy H2=>∃a v,x=.ref a/\zfd H2 a y (some v)/\Q v H2
def zyq (td ty tv:TE):TS:=λD σ H=>tv σ H λv H1=>td σ H1 λx H2=>ty σ H2 λy H3=>∃a H4,x=.ref a/\DPut H3 a y v H4/\D.nx σ H4
section
variable {X:Cx}{o i e value:Expr}{pos pos' tpos:Pos}{td ty tv:TE}
theorem zyr (hu:X.A.units+1<cLine) (ho:PE X o td) (hi:PE X i ty) (hs:zlv i):PE X (.Subscript o i pos) (zyp td ty):=by
 intro pins s σ H Q I h
 refine zyn PySem.F.slot_dict_getitem.lookup hs (thn (ho pins s σ H _ I h) λu s1 ⟨x,H1,I1,rx,q1⟩=>thn (hi pins s1 σ H1 _ I1 q1) λiv s2 ⟨y,H2,I2,ry,a,v,ex,g,q2⟩=>?_)
 subst ex
 obtain rfl:u=Value.ref a:=rx
 exact ⟨zyo I2 g,zyi hu I2 g ry λw' s3 I3 rw'=>⟨v,H2,I3,rw',q2⟩⟩
theorem zys (hu:X.A.units+1<cLine) (ho:PE X o td) (hi:PE X i ty) (hv:PE X value tv) (hs:swapsWith value (some (.Subscript o i pos')) pos.line X.env=pure false) :
  PS X (.Assign [.Subscript o i pos'] value pos) (zyq td ty tv):=by
 intro pins s σ H D I h
 refine wpAny_Assign_Subscript (thn (hv pins s σ H _ I h) λr s1 ⟨v,H1,I1,rv,q1⟩=>thn (ho pins s1 σ H1 _ I1 q1) λu s2 ⟨x,H2,I2,rx,q2⟩=>thn (hi pins s2 σ H2 _ I2 q2) λiv s3 ⟨y,H3,I3,ry,a,H4,ex,g,q3⟩=>?_) hs
 subst ex
 obtain rfl:u=Value.ref a:=rx
 exact zyl hu I3 g ry rv λs4 I4=>⟨σ,H4,I4,q3⟩
end
section
variable {X:Cx}{pos:Pos}
end
section
variable {X:Cx}{pins:List (Addr × Obj)}{σ:St}{H:Hp}{s:Shared}{a:Addr}{y d:V}{u r:Value}{o:Option V}{A:Around}{E:Value->Shared->Prop}
end
section
variable {X:Cx}{o e f:Expr}{apos cpos:Pos}{td ty tx:TE}
end
section
variable {X:Cx}{pins:List (Addr × Obj)}{σ:St}{H:Hp}{s:Shared}{a:Addr}{kvs:List (Key × V)}{A:Around}{E:Value->Shared->Prop}
end
section
variable {X:Cx}{pins:List (Addr × Obj)}{σ:St}{H:Hp}{s:Shared}{a:Addr}{y:V}{u:Value}{A:Around}{E:Value->Shared->Prop}
end
section
variable {X:Cx}
theorem zyt:CallR X (.builtin "len") (λxs H Q=>∃a kvs,xs=[V.ref a]/\H a=some (.dK kvs)/\Q (.int kvs.length) H):=by
 intro pins s σ H xs us Q I r h
 obtain ⟨a,kvs,rfl,ha,q⟩:=h
 obtain ⟨u,rfl,ru⟩:=zdq r
 cases ru
 exact zym I (.inl ha) λt s' I'=>⟨.int kvs.length,H,I',⟨t,rfl⟩,q⟩
end
section
variable {κ:Type} [DecidableEq κ]
end
end L2
namespace L3
abbrev St:=L2.St
open PySem PySem.Spec PyProof.Rows L2
inductive D where
 | non|bl (b:Bool)|int (i:Int)|str (x:Str)|tup (xs:List D)|ref (n:Nat)|fn (a:Addr)
inductive Ob where
 | lst (xs:List D)|flst (xs:List D)|iset (f:Int->Bool) (n:Nat)|dct (kvs:List (Key × D))|fdct (kvs:List (Key × D))|tdct (kvs:List (List Key × D))|ftdct (kvs:List (List Key × D))|tset (ks:List (List Int))|fnc (x:Str)|exc (c:Str)
noncomputable def Ob.mut:Ob->Bool
 | .flst _=>false
 | .fnc _=>false
 | _=>true
abbrev Sto:=List Ob
abbrev Lo:=List (Option D)
mutual
inductive RD (ρ:List Addr) (H:Hp):D->V->Prop where
 | non:RD ρ H .non .non
 | bl (b:Bool):RD ρ H (.bl b) (.bl b)
 | int (i:Int):RD ρ H (.int i) (.int i)
 | str (x:Str):RD ρ H (.str x) (.str x)
 | tup {xs:List D} {a:Addr} {vs:List V}:H a=some (.tup vs)->RDs ρ H xs vs->RD ρ H (.tup xs) (.ref a)
 | ref {n:Nat} {a:Addr}:ρ[n]? = some a->RD ρ H (.ref n) (.ref a)
 | fn (a:Addr):RD ρ H (.fn a) (.ref a)
inductive RDs (ρ:List Addr) (H:Hp):List D->List V->Prop where
 | nil:RDs ρ H [] []
 | cons {x:D} {v:V} {xs:List D} {vs:List V}:RD ρ H x v->RDs ρ H xs vs->RDs ρ H (x :: xs) (v :: vs)
end
structure Ext0 (ρ:List Addr) (H:Hp) (ρ':List Addr) (H':Hp):Prop where
 pre:∀(n:Nat) (a:Addr),ρ[n]? = some a->ρ'[n]? = some a
 tup:∀a vs,H a=some (.tup vs)->H' a=some (.tup vs)
 frz:∀a o u,H a=some (.frz o u)->H' a=some (.frz o u)
structure Ext (ρ:List Addr) (H:Hp) (ρ':List Addr) (H':Hp):Prop extends Ext0 ρ H ρ' H' where
 out:∀a (vs:HO),H a=some vs->(∀n:Nat,ρ[n]?≠some a)->H' a=some vs/\∀n:Nat,ρ'[n]?≠some a
theorem Ext.refl (ρ:List Addr) (H:Hp):Ext ρ H ρ H:=⟨⟨λ_ _ h=>h,λ_ _ h=>h,λ_ _ _ h=>h⟩,λ_ _ h n=>⟨h,n⟩⟩
theorem Ext.trans {ρ ρ1 ρ2:List Addr}{H H1 H2:Hp}(a:Ext ρ H ρ1 H1) (b:Ext ρ1 H1 ρ2 H2):Ext ρ H ρ2 H2 :=
 ⟨⟨λn x h=>b.pre n x (a.pre n x h),λn x h=>b.tup n x (a.tup n x h),λn o x h=>b.frz n o x (a.frz n o x h)⟩,λx vs h n=>let ⟨h1,n1⟩:=a.out x vs h n;b.out x vs h1 n1⟩
section
variable {ρ ρ':List Addr}{H H':Hp}
mutual
theorem RD.mono0 (e:Ext0 ρ H ρ' H'):∀{d:D}{v:V},RD ρ H d v->RD ρ' H' d v
 | _,_,.non=>.non
 | _,_,.bl b=>.bl b
 | _,_,.int i=>.int i
 | _,_,.str x=>.str x
 | _,_,.tup h r=>.tup (e.tup _ _ h) (RDs.mono0 e r)
 | _,_,.ref h=>.ref (e.pre _ _ h)
 | _,_,.fn a=>.fn a
theorem RDs.mono0 (e:Ext0 ρ H ρ' H'):∀{d:List D}{v:List V},RDs ρ H d v->RDs ρ' H' d v
 | _,_,.nil=>.nil
 | _,_,.cons r q=>.cons (RD.mono0 e r) (RDs.mono0 e q)
end
theorem RD.mono {d:D}{v:V}(r:RD ρ H d v) (e:Ext ρ H ρ' H'):RD ρ' H' d v:=r.mono0 e.toExt0
theorem RDs.mono {d:List D}{v:List V}(r:RDs ρ H d v) (e:Ext ρ H ρ' H'):RDs ρ' H' d v:=r.mono0 e.toExt0
theorem RDs.length:∀{d:List D}{v:List V},RDs ρ H d v->d.length=v.length
 | _,_,.nil=>rfl
 | _,_,.cons _ q=>congrArg (· + 1) (RDs.length q)
theorem RDs.get:∀{d:List D}{v:List V}{i:Nat}{x:D},RDs ρ H d v->d[i]? = some x->∃u,v[i]? = some u/\RD ρ H x u
 | _,_,_,_,.nil,e=>by simp at e
 | _,_,0,_,.cons r _,e=>by simp at e;subst e;exact ⟨_,rfl,r⟩
 | _,_,i+1,x,.cons _ q,e=>by
  obtain ⟨u,h1,h2⟩:=RDs.get (i:=i) (x:=x) q (by simpa using e)
  exact ⟨u,by simpa using h1,h2⟩
theorem RDs.set {x:D}{u:V}(r:RD ρ H x u):∀{d:List D}{v:List V}(i:Nat),RDs ρ H d v->RDs ρ H (d.set i x) (v.set i u)
 | _,_,_,.nil=>.nil
 | _,_,0,.cons _ q=>.cons r q
 | _,_,i+1,.cons p q=>.cons p (RDs.set r i q)
theorem RDs.append:∀{d e:List D}{v w:List V},RDs ρ H d v->RDs ρ H e w->RDs ρ H (d++e) (v++w)
 | _,_,_,_,.nil,q=>q
 | _,_,_,_,.cons r p,q=>.cons r (RDs.append p q)
theorem RDs.take:∀{d:List D}{v:List V}(n:Nat),RDs ρ H d v->RDs ρ H (d.take n) (v.take n)
 | _,_,0,_=>.nil
 | _,_,_+1,.nil=>.nil
 | _,_,n+1,.cons r t=>.cons r (RDs.take n t)
theorem RDs.drop:∀{d:List D}{v:List V}(n:Nat),RDs ρ H d v->RDs ρ H (d.drop n) (v.drop n)
 | _,_,0,r=>r
 | _,_,_+1,.nil=>.nil
 | _,_,n+1,.cons _ t=>RDs.drop n t
theorem RDs.rep {xs:List D}{us:List V}(h:RDs ρ H xs us):∀k:Nat,RDs ρ H (List.replicate k xs).flatten (List.replicate k us).flatten
 | 0=>.nil
 | k+1=>by
  rw [List.replicate_succ,List.replicate_succ,List.flatten_cons,List.flatten_cons]
  exact RDs.append h (RDs.rep h k)
theorem RDs.one {x:D}{vs:List V}(h:RDs ρ H [x] vs):∃v,vs=[v]/\RD ρ H x v:=by
 cases h with
 | cons r q=>cases q;exact ⟨_,rfl,r⟩
theorem RDs.two {x y:D}{vs:List V}(h:RDs ρ H [x,y] vs):∃v u,vs=[v,u]/\RD ρ H x v/\RD ρ H y u:=by
 cases h with
 | cons r q=>obtain ⟨u,rfl,r2⟩:=q.one;exact ⟨_,_,rfl,r,r2⟩
end
def Fz (K:QFg) (H:Hp) (a:Addr) (xs:List V):Prop:=(∃o,H a=some (.frz o (.lst xs))) \/
  ∃(o:Obj) (its:Array Value) (n:Nat),K.lookup a=some o/\o.cls=.type "list"/\o.dict=none/\o.data=.seq its n/\its.size<=sizeLine/\Vals xs its.toList
theorem Fz.sq {K:QFg}{H:Hp}{a:Addr}{xs:List V}(h:Fz K H a xs):SqL K H a xs:=by
 rcases h with ⟨o,h⟩|h
 ·exact .inl (.inr ⟨o,h⟩)
 ·exact .inr h
def ObR (K:QFg) (ρ:List Addr) (H:Hp):Ob->Addr->Prop
 | .lst xs,a=>∃vs,H a=some (.lst vs)/\RDs ρ H xs vs
 | .flst xs,a=>∃vs,Fz K H a vs/\RDs ρ H xs vs
 | .iset f n,a=>H a=some (.set f n)
 | .dct kvs,a=>∃vs,H a=some (.dK ((kvs.map (·.1)).zip vs))/\RDs ρ H (kvs.map (·.2)) vs
 | .fdct kvs,a=>∃o vs,H a=some (.frz o (.dK ((kvs.map (·.1)).zip vs)))/\RDs ρ H (kvs.map (·.2)) vs
 | .tdct kvs,a=>∃vs,H a=some (.dT ((kvs.map (·.1)).zip vs))/\RDs ρ H (kvs.map (·.2)) vs
 | .ftdct kvs,a=>∃o vs,H a=some (.frz o (.dT ((kvs.map (·.1)).zip vs)))/\RDs ρ H (kvs.map (·.2)) vs
 | .tset ks,a=>∃xs:List (List Int × Addr),ks=xs.map (·.1)/\H a=some (.ext (TS.TSet a xs))/\∀p∈xs,H p.2=some (.tup (p.1.map V.int))
 | .fnc x,a=>PySem.W.nsIn K mainGlobals x=some (some (.ref a))/\∃o,K.lookup a=some o
 | .exc c,a=>∃C,PySem.W.nsIn K mainGlobals c=some (some (.ref C))/\H a=some (.ext (λh=>∃o,h.get? a=some o/\o.cls=.ref C))
structure Sim (K:QFg) (ρ:List Addr) (S:Sto) (H:Hp):Prop where
 len:ρ.length=S.length
 nd:∀(i j:Nat) (a:Addr) (o1 o2:Ob),ρ[i]? = some a->ρ[j]? = some a->S[i]? = some o1->S[j]? = some o2->o1.mut=true->o2.mut=true->i=j
 at':∀(n:Nat) (a:Addr) (o:Ob),ρ[n]? = some a->S[n]? = some o->ObR K ρ H o a
section
variable {K:QFg}{ρ ρ':List Addr}{H:Hp}{S:Sto}
theorem zcc {p:Addr}{o:HO}(hp:H p=none):Ext ρ H ρ (upd H p o) :=
 ⟨⟨λ_ _ h=>h,λa vs h=>by rw [zap (zbd h hp)];exact h,λa o vs h=>by rw [zap (zbd h hp)];exact h⟩,λa vs h n=>⟨by rw [zap (zbd h hp)];exact h,n⟩⟩
theorem zj5 {p:Addr}{o:HO}{ys:List V}(hp:H p=some (.lst ys)):Ext0 ρ H ρ (upd H p o) :=
 ⟨λ_ _ h=>h,λa vs h=>by rw [zap (zd7 h hp (by intro z;cases z))];exact h,λa o vs h=>by rw [zap (zd7 h hp (by intro z;cases z))];exact h⟩
def zdz (u:HO):Prop:=(∀vs,u≠.tup vs)/\∀o v,u≠.frz o v
theorem zpp (ys:List V):zdz (.lst ys):=⟨λ_ z=>(by cases z),λ_ _ z=>(by cases z)⟩
theorem zpq (f:Int->Bool) (n:Nat):zdz (.set f n):=⟨λ_ z=>(by cases z),λ_ _ z=>(by cases z)⟩
theorem zea {p:Addr}{o u:HO}(hp:H p=some u) (hu:zdz u):Ext0 ρ H ρ (upd H p o) :=
 ⟨λ_ _ h=>h,λa vs h=>by rw [zap (zd7 h hp (λz=>hu.1 vs z.symm))];exact h,λa o vs h=>by rw [zap (zd7 h hp (λz=>hu.2 o vs z.symm))];exact h⟩
theorem zik {p:Addr}{o u:HO}{n:Nat}(hn:ρ[n]? = some p) (hp:H p=some u) (hu:zdz u):Ext ρ H ρ (upd H p o) :=
 ⟨zea hp hu,λa vs h hm=>⟨by rw [zap (λz=>hm n (by rw [z];exact hn))];exact h,hm⟩⟩
theorem zil {p:Addr}{o:HO}{ys:List V}{n:Nat}(hn:ρ[n]? = some p) (hp:H p=some (.lst ys)):Ext ρ H ρ (upd H p o) :=
 ⟨zj5 hp,λa vs h hm=>⟨by rw [zap (λz=>hm n (by rw [z];exact hn))];exact h,hm⟩⟩
theorem ObR.laid {o:Ob}{a p:Addr}{u:HO}(h:ObR K ρ H o a) (hp:H p=none):ObR K ρ (upd H p u) o a:=by
 cases o with
 | lst xs =>
  obtain ⟨vs,e,r⟩:=h
  exact ⟨vs,by rw [zap (zbd e hp)];exact e,r.mono (zcc hp)⟩
 | flst xs =>
  obtain ⟨vs,e,r⟩:=h
  refine ⟨vs,?_,r.mono (zcc hp)⟩
  rcases e with ⟨o,e⟩|e
  ·exact .inl ⟨o,by rw [zap (zbd e hp)];exact e⟩
  ·exact .inr e
 | iset f n =>
  show upd H p u a=some (.set f n)
  have e:H a=some (.set f n):=h
  rw [zap (zbd e hp)];exact e
 | dct kvs =>
  obtain ⟨vs,e,r⟩:=h
  exact ⟨vs,by rw [zap (zbd e hp)];exact e,r.mono (zcc hp)⟩
 | fdct kvs =>
  obtain ⟨o,vs,e,r⟩:=h
  exact ⟨o,vs,by rw [zap (zbd e hp)];exact e,r.mono (zcc hp)⟩
 | tdct kvs =>
  obtain ⟨vs,e,r⟩:=h
  exact ⟨vs,by rw [zap (zbd e hp)];exact e,r.mono (zcc hp)⟩
 | ftdct kvs =>
  obtain ⟨o,vs,e,r⟩:=h
  exact ⟨o,vs,by rw [zap (zbd e hp)];exact e,r.mono (zcc hp)⟩
 | tset ks =>
  obtain ⟨xs,e0,e,r⟩:=h
  exact ⟨xs,e0,by rw [zap (zbd e hp)];exact e,λp hq=>by rw [zap (zbd (r p hq) hp)];exact r p hq⟩
 | fnc x=>exact h
 | exc c =>
  obtain ⟨C,hc,e⟩:=h
  exact ⟨C,hc,by rw [zap (zbd e hp)];exact e⟩
theorem ObR.writtenG {o:Ob}{a p:Addr}{u u0:HO}(h:ObR K ρ H o a) (hp:H p=some u0) (hu:zdz u0) (hn:o.mut=true->a≠p):ObR K ρ (upd H p u) o a:=by
 cases o with
 | lst xs =>
  obtain ⟨vs,e,r⟩:=h
  exact ⟨vs,by rw [zap (hn rfl)];exact e,r.mono0 (zea hp hu)⟩
 | flst xs =>
  obtain ⟨vs,e,r⟩:=h
  refine ⟨vs,?_,r.mono0 (zea hp hu)⟩
  rcases e with ⟨o,e⟩|e
  ·exact .inl ⟨o,by rw [zap (zd7 e hp (λz=>hu.2 _ _ z.symm))];exact e⟩
  ·exact .inr e
 | iset f n =>
  show upd H p u a=some (.set f n)
  rw [zap (hn rfl)];exact h
 | dct kvs =>
  obtain ⟨vs,e,r⟩:=h
  exact ⟨vs,by rw [zap (hn rfl)];exact e,r.mono0 (zea hp hu)⟩
 | tdct kvs =>
  obtain ⟨vs,e,r⟩:=h
  exact ⟨vs,by rw [zap (hn rfl)];exact e,r.mono0 (zea hp hu)⟩
 | fdct kvs =>
  obtain ⟨o,vs,e,r⟩:=h
  exact ⟨o,vs,by rw [zap (hn rfl)];exact e,r.mono0 (zea hp hu)⟩
 | ftdct kvs =>
  obtain ⟨o,vs,e,r⟩:=h
  exact ⟨o,vs,by rw [zap (hn rfl)];exact e,r.mono0 (zea hp hu)⟩
 | tset ks =>
  obtain ⟨xs,e0,e,r⟩:=h
  exact ⟨xs,e0,by rw [zap (hn rfl)];exact e,λp hq=>(zea (ρ:=ρ) hp hu).tup _ _ (r p hq)⟩
 | fnc x=>exact h
 | exc c =>
  obtain ⟨C,hc,e⟩:=h
  exact ⟨C,hc,by rw [zap (hn rfl)];exact e⟩
theorem ObR.written {o:Ob}{a p:Addr}{u:HO}{ys:List V}(h:ObR K ρ H o a) (hp:H p=some (.lst ys)) (hn:o.mut=true->a≠p):ObR K ρ (upd H p u) o a:=h.writtenG hp (zpp ys) hn
theorem ObR.more {o:Ob}{a:Addr}(h:ObR K ρ H o a) (e:Ext0 ρ H ρ' H):ObR K ρ' H o a:=by
 cases o with
 | lst xs=>obtain ⟨vs,e1,r⟩:=h;exact ⟨vs,e1,r.mono0 e⟩
 | flst xs=>obtain ⟨vs,e1,r⟩:=h;exact ⟨vs,e1,r.mono0 e⟩
 | iset f n=>exact h
 | dct kvs=>obtain ⟨vs,e1,r⟩:=h;exact ⟨vs,e1,r.mono0 e⟩
 | tdct kvs=>obtain ⟨vs,e1,r⟩:=h;exact ⟨vs,e1,r.mono0 e⟩
 | fdct kvs=>obtain ⟨o,vs,e1,r⟩:=h;exact ⟨o,vs,e1,r.mono0 e⟩
 | ftdct kvs=>obtain ⟨o,vs,e1,r⟩:=h;exact ⟨o,vs,e1,r.mono0 e⟩
 | tset ks=>exact h
 | fnc x=>exact h
 | exc c=>exact h
theorem Sim.laid (s:Sim K ρ S H) {p:Addr}{u:HO}(hp:H p=none):Sim K ρ S (upd H p u) :=
 ⟨s.len,s.nd,λn a o h1 h2=>(s.at' n a o h1 h2).laid hp⟩
theorem Sim.lst {n:Nat}{xs:List D}(s:Sim K ρ S H) (h:S[n]? = some (.lst xs)):∃a vs,ρ[n]? = some a/\H a=some (.lst vs)/\RDs ρ H xs vs:=by
 have hl:n<ρ.length:=by rw [s.len];exact (qme h).1
 obtain ⟨vs,e,r⟩:=s.at' n _ _ (qge hl) h
 exact ⟨_,vs,qge hl,e,r⟩
noncomputable def lstOf (S:Sto) (n:Nat):Option (List D):=match S[n]? with
 | some (.lst xs)=>some xs
 | some (.flst xs)=>some xs
 | _=>none
theorem Sim.lstOf {n:Nat}{xs:List D}(s:Sim K ρ S H) (h:L3.lstOf S n=some xs):∃a vs,ρ[n]? = some a/\SqL K H a vs/\RDs ρ H xs vs:=by
 unfold L3.lstOf at h
 cases e:S[n]? with
 | none=>rw [e] at h;cases h
 | some o =>
  have hl:n<ρ.length:=by rw [s.len];exact (qme e).1
  have q:=s.at' n _ _ (qge hl) e
  rw [e] at h
  cases o with
  | lst ys =>
   cases h
   obtain ⟨vs,e1,r⟩:=q
   exact ⟨_,vs,qge hl,.inl (.inl e1),r⟩
  | flst ys =>
   cases h
   obtain ⟨vs,e1,r⟩:=q
   exact ⟨_,vs,qge hl,e1.sq,r⟩
  | iset f n=>cases h
  | dct kvs=>cases h
  | fdct kvs=>cases h
  | ftdct kvs=>cases h
  | tset ks=>cases h
  | fnc x=>cases h
  | tdct kvs=>cases h
  | exc c=>cases h
theorem Sim.setG {n:Nat}{a:Addr}{o0 o1:Ob}{u0 u1:HO}(s:Sim K ρ S H) (ha:ρ[n]? = some a) (hS:S[n]? = some o0) (hm0:o0.mut=true) (hH:H a=some u0) (hu:zdz u0) (r:ObR K ρ (upd H a u1) o1 a):Sim K ρ (S.set n o1) (upd H a u1):=by
 have hl:n<S.length:=(qme hS).1
 have key:∀(m:Nat) (w:Ob),w.mut=true->(S.set n o1)[m]? = some w->∃w',S[m]? = some w'/\w'.mut=true:=λm w hw h=>by
  by_cases hmn:n=m
  ·subst hmn;exact ⟨_,hS,hm0⟩
  ·rw [List.getElem?_set_ne hmn] at h;exact ⟨_,h,hw⟩
 refine ⟨by rw [List.length_set];exact s.len,λi j b x1 x2 h1 h2 h3 h4 m1 m2=>?_,λm b o h1 h2=>?_⟩
 ·obtain ⟨_,h3,q3⟩:=key i x1 m1 h3
  obtain ⟨_,h4,q4⟩:=key j x2 m2 h4
  exact s.nd i j b _ _ h1 h2 h3 h4 q3 q4
 by_cases hmn:n=m
 ·subst hmn
  rw [ha] at h1;cases h1
  rw [List.getElem?_set_self hl] at h2
  cases h2
  exact r
 ·rw [List.getElem?_set_ne hmn] at h2
  exact (s.at' m b o h1 h2).writtenG hH hu (λe z=>hmn (s.nd n m a _ _ ha (by rw [h1,z]) hS h2 hm0 e))
theorem Sim.set {n:Nat}{a:Addr}{ys:List V}{xs zs:List D}{vs:List V}(s:Sim K ρ S H) (ha:ρ[n]? = some a) (hS:S[n]? = some (.lst zs)) (hH:H a=some (.lst ys)) (r:RDs ρ H xs vs):Sim K ρ (S.set n (.lst xs)) (upd H a (.lst vs)) :=
 s.setG ha hS rfl hH (zpp ys) ⟨vs,zbw,r.mono0 (zj5 hH)⟩
theorem ext0_push {a:Addr}:Ext0 ρ H (ρ++[a]) H :=
 ⟨λn b h=>by rw [List.getElem?_append_left (qme h).1];exact h,λ_ _ h=>h,λ_ _ _ h=>h⟩
theorem za8 {α:Type}{l:List α}{a b:α}{n:Nat}(h:(l++[a])[n]? = some b):l[n]? = some b\/(n=l.length/\b=a):=by
 by_cases hl:n<l.length
 ·rw [List.getElem?_append_left hl] at h;exact .inl h
 ·rw [List.getElem?_append_right (by omega)] at h
  have:n-l.length=0:=by
   have:=(qme h).1
   simp at this;omega
  rw [this] at h;simp at h
  exact .inr ⟨by omega,h.symm⟩
theorem zpr {a:Addr}{vs:List V}(ha:H a=none):Ext ρ H (ρ++[a]) (upd H a (.lst vs)) :=
 ⟨⟨ext0_push.pre (H:=H),λb us h=>by rw [zap (zbd h ha)];exact h,λb o us h=>by rw [zap (zbd h ha)];exact h⟩,λb us h n=>⟨by rw [zap (zbd h ha)];exact h,λi hi=>by
  rcases za8 hi with hi|⟨_,e⟩
  ·exact n i hi
  ·rw [e,ha] at h;cases h⟩⟩
theorem zj6 {a:Addr}{u:HO}(ha:H a=none):Ext ρ H (ρ++[a]) (upd H a u) :=
 ⟨⟨ext0_push.pre (H:=H),λb us h=>by rw [zap (zbd h ha)];exact h,λb o us h=>by rw [zap (zbd h ha)];exact h⟩,λb us h n=>⟨by rw [zap (zbd h ha)];exact h,λi hi=>by
  rcases za8 hi with hi|⟨_,e⟩
  ·exact n i hi
  ·rw [e,ha] at h;cases h⟩⟩
theorem Sim.pushG {a:Addr}{o1:Ob}{u:HO}(s:Sim K ρ S H) (ha:H a=none) (r:ObR K (ρ++[a]) (upd H a u) o1 a):Sim K (ρ++[a]) (S++[o1]) (upd H a u):=by
 have no:∀(n:Nat) (o:Ob),o.mut=true->ρ[n]? = some a->S[n]? = some o->False:=λn o hm h1 h2=>by
  have q:=s.at' n a _ h1 h2
  cases o with
  | lst xs=>obtain ⟨vs,e,_⟩:=q;rw [ha] at e;cases e
  | flst xs=>cases hm
  | iset f n=>have q:H a=_:=q;rw [ha] at q;cases q
  | dct kvs=>obtain ⟨vs,e,_⟩:=q;rw [ha] at e;cases e
  | tdct kvs=>obtain ⟨vs,e,_⟩:=q;rw [ha] at e;cases e
  | fdct kvs=>obtain ⟨o,vs,e,_⟩:=q;rw [ha] at e;cases e
  | ftdct kvs=>obtain ⟨o,vs,e,_⟩:=q;rw [ha] at e;cases e
  | tset ks=>obtain ⟨xs,_,e,_⟩:=q;rw [ha] at e;cases e
  | fnc x=>cases hm
  | exc c=>obtain ⟨C,_,e⟩:=q;rw [ha] at e;cases e
 refine ⟨by simp [s.len],λi j b x1 x2 h1 h2 h3 h4 m1 m2=>?_,λn b o h1 h2=>?_⟩
 ·rcases za8 h3 with h3|⟨e3,_⟩ <;> rcases za8 h4 with h4|⟨e4,_⟩
  ·have l1:=(qme h3).1
   have l2:=(qme h4).1
   rcases za8 h1 with h1|⟨e1,f1⟩ <;> rcases za8 h2 with h2|⟨e2,f2⟩
   ·exact s.nd i j b _ _ h1 h2 h3 h4 m1 m2
   ·have:=s.len;omega
   ·have:=s.len;omega
   ·have:=s.len;omega
  ·have l1:=(qme h3).1
   rcases za8 h2 with h2|⟨e2,f2⟩
   ·have:=(qme h2).1;have:=s.len;omega
   ·subst f2
    rcases za8 h1 with h1|⟨e1,_⟩
    ·exact (no i _ m1 h1 h3).elim
    ·have:=s.len;omega
  ·have l1:=(qme h4).1
   rcases za8 h1 with h1|⟨e2,f2⟩
   ·have:=(qme h1).1;have:=s.len;omega
   ·subst f2
    rcases za8 h2 with h2|⟨e1,_⟩
    ·exact (no j _ m2 h2 h4).elim
    ·have:=s.len;omega
  ·omega
 ·rcases za8 h2 with h2|⟨e2,f2⟩
  ·rcases za8 h1 with h1|⟨e1,f1⟩
   ·exact ((s.at' n b o h1 h2).laid ha).more ext0_push
   ·have:=(qme h2).1;have:=s.len;omega
  ·rcases za8 h1 with h1|⟨e1,f1⟩
   ·have:=(qme h1).1;have:=s.len;omega
   ·subst f1 f2
    exact r
theorem Sim.push {a:Addr}{xs:List D}{vs:List V}(s:Sim K ρ S H) (ha:H a=none) (r:RDs ρ H xs vs):Sim K (ρ++[a]) (S++[.lst xs]) (upd H a (.lst vs)) :=
 s.pushG ha ⟨vs,zbw,r.mono (zpr ha)⟩
theorem zd0 {α:Type}(l:List α) (a:α):(l++[a])[l.length]? = some a:=by
 rw [List.getElem?_append_right (qlr _)];simp
end
structure RO (ρ:List Addr) (H:Hp) (l:Lo) (σ:St):Prop where
 len:l.length=σ.length
 get:∀(i:Nat) (d:D),l[i]? = some (some d)->∃v,σ[i]? = some (some v)/\RD ρ H d v
theorem RO.mono {ρ ρ':List Addr}{H H':Hp}{l:Lo}{σ:St}(r:RO ρ H l σ) (e:Ext ρ H ρ' H'):RO ρ' H' l σ :=
 ⟨r.len,λi d h=>let ⟨v,h1,h2⟩:=r.get i d h;⟨v,h1,h2.mono e⟩⟩
theorem RO.set {ρ:List Addr}{H:Hp}{l:Lo}{σ:St}{d:D}{v:V}(r:RO ρ H l σ) (i:Nat) (h:RD ρ H d v):RO ρ H (l.set i (some d)) (σ.set i (some v)):=by
 refine ⟨by simp [r.len],λj x hj=>?_⟩
 by_cases hij:i=j
 ·subst hij
  have hl:i<l.length:=by have:=(qme hj).1;simpa using this
  rw [List.getElem?_set_self hl] at hj
  cases hj
  exact ⟨v,List.getElem?_set_self (by rw [<-r.len];exact hl),h⟩
 ·rw [List.getElem?_set_ne hij] at hj
  rw [List.getElem?_set_ne hij]
  exact r.get j x hj
abbrev EM:=Lo->Sto->Option (D × Sto)
abbrev TM:=Lo->Sto->Option (Bool × Sto)
abbrev AM:=Lo->Sto->Option (List D × Sto)
abbrev FM:=List D->Sto->Option (D × Sto)
inductive Fl where
 | nx|bk|ct|rt (d:D)
abbrev SM:=Lo->Sto->Option (Fl × Lo × Sto)
abbrev GM:=D->Lo->Sto->Option (Lo × Sto)
abbrev GsM:=List D->Lo->Sto->Option (Lo × Sto)
def Pv (K:QFg) (ρ:List Addr) (H:Hp) (v:D) (S:Sto) (Q:VK):Prop:=∀ρ' H' v',Ext ρ H ρ' H'->Sim K ρ' S H'->RD ρ' H' v v'->Q v' H'
theorem Pv.ext {K:QFg}{ρ ρ1:List Addr}{H H1:Hp}{v:D}{S:Sto}{Q:VK}(p:Pv K ρ H v S Q) (e:Ext ρ H ρ1 H1):Pv K ρ1 H1 v S Q:=λρ' H' v' e' s r=>p ρ' H' v' (e.trans e') s r
inductive te (K:QFg) (m:EM) (σ:St) (H:Hp) (Q:VK):Prop
 | mk (ρ:_) (l:_) (S:_) (v:_) (S':_) (_:Sim K ρ S H) (_:RO ρ H l σ) (_:m l S=some (v,S')) (_:Pv K ρ H v S' Q)
inductive tt (K:QFg) (m:TM) (σ:St) (H:Hp) (Q:Bool->Hp->Prop):Prop
 | mk (ρ:_) (l:_) (S:_) (v:_) (S':_) (_:Sim K ρ S H) (_:RO ρ H l σ) (_:m l S=some (v,S')) (_:∀ρ' H',Ext ρ H ρ' H'->Sim K ρ' S' H'->Q v H')
inductive ta (K:QFg) (m:AM) (σ:St) (H:Hp) (Q:List V->Hp->Prop):Prop
 | mk (ρ:_) (l:_) (S:_) (v:_) (S':_) (_:Sim K ρ S H) (_:RO ρ H l σ) (_:m l S=some (v,S')) (_:∀ρ' H' vs,Ext ρ H ρ' H'->Sim K ρ' S' H'->RDs ρ' H' v vs->Q vs H')
def zim (ρ:List Addr) (H:Hp) (E:Ends) (σ:St):Fl->Prop
 | .nx=>E.nx σ H
 | .bk=>E.bk σ H
 | .ct=>E.ct σ H
 | .rt d=>∀v,RD ρ H d v->E.rt v H
inductive ts (K:QFg) (m:SM) (E:Ends) (σ:St) (H:Hp):Prop
 | mk (ρ:_) (l:_) (S:_) (f:_) (l':_) (S':_) (_:Sim K ρ S H) (_:RO ρ H l σ) (_:m l S=some (f,l',S')) (_:∀ρ' H' σ',Ext ρ H ρ' H'->Sim K ρ' S' H'->RO ρ' H' l' σ'->zim ρ' H' E σ' f)
inductive tg (K:QFg) (g:GM) (v:V) (σ:St) (H:Hp) (Q:St->Hp->Prop):Prop
 | mk (ρ:_) (l:_) (S:_) (d:_) (l':_) (S':_) (_:Sim K ρ S H) (_:RO ρ H l σ) (_:RD ρ H d v) (_:g d l S=some (l',S')) (_:∀ρ' H' σ',Ext ρ H ρ' H'->Sim K ρ' S' H'->RO ρ' H' l' σ'->Q σ' H')
inductive tgs (K:QFg) (g:GsM) (vs:List V) (σ:St) (H:Hp) (Q:St->Hp->Prop):Prop
 | mk (ρ:_) (l:_) (S:_) (ds:_) (l':_) (S':_) (_:Sim K ρ S H) (_:RO ρ H l σ) (_:RDs ρ H ds vs) (_:g ds l S=some (l',S')) (_:∀ρ' H' σ',Ext ρ H ρ' H'->Sim K ρ' S' H'->RO ρ' H' l' σ'->Q σ' H')
def PE3 (X:Cx) (e:Expr) (m:EM):Prop:=PE X e (te X.K m)
def PT3 (X:Cx) (e:Expr) (m:TM):Prop:=PT X e (tt X.K m)
def PW3 (X:Cx) (e:Expr) (m:TM):Prop:=PW X e (tt X.K m)
def PA3 (X:Cx) (es:List Expr) (m:AM):Prop:=PA X es (ta X.K m)
def PS3 (X:Cx) (st:Stmt) (m:SM):Prop:=PS X st (ts X.K m)
def zcn (X:Cx) (st:List Stmt) (m:SM):Prop:=PSs X st (ts X.K m)
def PG3 (X:Cx) (tg':Expr) (m:GM):Prop:=PG X tg' (tg X.K m)
def zin (X:Cx) (ts':List Expr) (m:GsM):Prop:=PGs X ts' (tgs X.K m)
theorem PE.imp {X:Cx}{e:Expr}{t u:TE}(h:PE X e t) (i:∀σ H Q,u σ H Q->t σ H Q):PE X e u:=λpins s σ H Q I q=>h pins s σ H Q I (i _ _ _ q)
theorem PT.imp {X:Cx}{e:Expr}{t u:TT}(h:PT X e t) (i:∀σ H Q,u σ H Q->t σ H Q):PT X e u:=λpins s σ H Q I q=>h pins s σ H Q I (i _ _ _ q)
theorem PW.imp {X:Cx}{e:Expr}{t u:TT}(h:PW X e t) (i:∀σ H Q,u σ H Q->t σ H Q):PW X e u:=λwh pins s σ H Q I q=>h wh pins s σ H Q I (i _ _ _ q)
theorem PA.imp {X:Cx}{e:List Expr}{t u:TA}(h:PA X e t) (i:∀σ H Q,u σ H Q->t σ H Q):PA X e u:=λpos pins s σ H Q I q=>h pos pins s σ H Q I (i _ _ _ q)
theorem PS.imp {X:Cx}{e:Stmt}{t u:TS}(h:PS X e t) (i:∀E σ H,u E σ H->t E σ H):PS X e u:=λpins s σ H Q I q=>h pins s σ H Q I (i _ _ _ q)
theorem PSs.imp {X:Cx}{e:List Stmt}{t u:TS}(h:PSs X e t) (i:∀E σ H,u E σ H->t E σ H):PSs X e u:=λpins s σ H Q I q=>h pins s σ H Q I (i _ _ _ q)
theorem PG.imp {X:Cx}{e:Expr}{t u:TG}(h:PG X e t) (i:∀v σ H Q,u v σ H Q->t v σ H Q):PG X e u:=λpins s σ H v w Q I r q=>h pins s σ H v w Q I r (i _ _ _ _ q)
theorem PGs.imp {X:Cx}{e:List Expr}{t u:TGs}(h:PGs X e t) (i:∀v σ H Q,u v σ H Q->t v σ H Q):PGs X e u:=λpins s σ H v w Q I r q=>h pins s σ H v w Q I r (i _ _ _ _ q)
inductive Bnd {α β:Type} (o:Option α) (f:α->Option β) (b:β):Prop
 | mk (a:α) (_:o=some a) (_:f a=some b)
theorem bnd {α β:Type}{o:Option α}{f:α->Option β}{b:β}(h:o.bind f=some b):Bnd o f b:=by
 obtain ⟨a,h1,h2⟩:=Option.bind_eq_some_iff.mp h
 exact ⟨a,h1,h2⟩
noncomputable def zaa (i:Nat):EM:=λl S=>match l[i]? with
 | some (some d)=>some (d,S)
 | _=>none
noncomputable def eC (d:D):EM:=λ_ S=>some (d,S)
noncomputable def eOp (f:D->D->Sto->Option (D × Sto)) (a b:EM):EM:=λl S=>(a l S).bind λp=>(b l p.2).bind λq=>f p.1 q.1 q.2
noncomputable def eUn (f:D->Sto->Option (D × Sto)) (a:EM):EM:=λl S=>(a l S).bind λp=>f p.1 p.2
noncomputable def zae:AM:=λ_ S=>some ([],S)
noncomputable def zab (a:EM) (r:AM):AM:=λl S=>(a l S).bind λp=>(r l p.2).bind λq=>some (p.1 :: q.1,q.2)
noncomputable def zaf (f:FM) (as:AM):EM:=λl S=>(as l S).bind λp=>f p.1 p.2
noncomputable def tE (a:EM):TM:=λl S=>(a l S).bind λp=>match p.1 with
 | .bl b=>some (b,p.2)
 | _=>none
noncomputable def zen (a b:TM):TM:=λl S=>(a l S).bind λp=>if p.1=true then b l p.2 else some (false,p.2)
noncomputable def zeb (a b:TM):TM:=λl S=>(a l S).bind λp=>if p.1=true then some (true,p.2) else b l p.2
noncomputable def zio (a b:EM):EM:=λl S=>(a l S).bind λp=>match p.1 with
 | .bl true=>some (.bl true,p.2)
 | .bl false=>b l p.2
 | _=>none
noncomputable def zj7 (a:EM):EM:=λl S=>(a l S).bind λp=>match p.1 with
 | .bl b=>some (.bl (!b),p.2)
 | _=>none
noncomputable def zeo (c:TM) (a b:EM):EM:=λl S=>(c l S).bind λp=>if p.1=true then a l p.2 else b l p.2
def Op3 (K:QFg) (f:D->D->Sto->Option (D × Sto)) (r:R2):Prop :=
 ∀ρ S H x y x' y' v S' Q,Sim K ρ S H->RD ρ H x x'->RD ρ H y y'->f x y S=some (v,S')->Pv K ρ H v S' Q->r x' y' H Q
def Fn3 (K:QFg) (f:FM) (r:List V->Hp->VK->Prop):Prop :=
 ∀ρ S H xs vs v S' Q,Sim K ρ S H->RDs ρ H xs vs->f xs S=some (v,S')->Pv K ρ H v S' Q->r vs H Q
def Mt3 (K:QFg) (f:D->List D->Sto->Option (D × Sto)) (r:V->List V->Hp->VK->Prop):Prop :=
 ∀ρ S H x x' xs vs v S' Q,Sim K ρ S H->RD ρ H x x'->RDs ρ H xs vs->f x xs S=some (v,S')->Pv K ρ H v S' Q->r x' vs H Q
theorem ziq {K:QFg}{f:D->D->Sto->Option (D × Sto)}{r:R2}(h:Op3 K f r) {a b:EM}(σ:St) (H:Hp) (Q:VK) (q:te K (eOp f a b) σ H Q):tOp r (te K a) (te K b) σ H Q:=by
 obtain ⟨ρ,l,S,v,S',sim,ro,hm,p⟩:=q
 obtain ⟨⟨x,S1⟩,h1,hm⟩:=bnd hm
 obtain ⟨⟨y,S2⟩,h2,hm⟩:=bnd hm
 exact ⟨ρ,l,S,x,S1,sim,ro,h1,λρ1 H1 x' e1 s1 r1=>⟨ρ1,l,S1,y,S2,s1,ro.mono e1,h2,λρ2 H2 y' e2 s2 r2=>h ρ2 S2 H2 x y x' y' v S' Q s2 (r1.mono e2) r2 hm (p.ext (e1.trans e2))⟩⟩
section
variable {X:Cx}{a b c:Expr}{es:List Expr}{ma mb:EM}{mA:AM}{pos:Pos}
theorem zac (i:Nat) {x:Str}(hN:X.N[i]? = some x:=by rfl) (hv:Vis X.env.scope x:=by first|exact Or.inl rfl|exact Or.inr (Or.inl rfl)|exact Or.inr (Or.inr rfl)) (hd:(x == ("__debug__":Str))=false:=by decide)
  (hcd:(x == ("__classdict__":Str))=false:=by decide):PE3 X (.Name x pos) (zaa i) :=
 PE.imp (zve hN hv hd hcd) λσ H Q hx1_=>by
  obtain ⟨ρ,l,S,v,S',sim,ro,hm,p⟩:=hx1_
  unfold zaa at hm
  split at hm
  ·rename_i d e
   cases hm
   obtain ⟨w,h1,h2⟩:=ro.get i _ e
   exact ⟨w,h1,p ρ H w (Ext.refl ..) sim h2⟩
  ·cases hm
theorem zj8 {K:QFg}{d:D}{v:V}(h:∀ρ H,RD ρ H d v) (σ:St) (H:Hp) (Q:VK) (q:te K (eC d) σ H Q):tC v σ H Q:=by
 obtain ⟨ρ,l,S,w,S',sim,ro,hm,p⟩:=q
 cases hm
 exact p ρ H v (Ext.refl ..) sim (h ρ H)
theorem zai {i j}:PE3 X (.Constant (.int i) j pos) (eC (.int i)):=PE.imp zvf (zj8 λ_ _=>.int i)
theorem zlw {i j}:PE3 X (.Constant (.bool i) j pos) (eC (.bl i)):=PE.imp zvg (zj8 λ_ _=>.bl i)
theorem zbt {j}:PE3 X (.Constant .none j pos) (eC .non):=PE.imp zvh (zj8 λ_ _=>.non)
theorem zcf {i j}:PE3 X (.Constant (.str i) j pos) (eC (.str i)):=PE.imp zod (zj8 λ_ _=>.str i)
theorem zfx {op:Operator}{f:D->D->Sto->Option (D × Sto)}{r:R2}(ho:OpR X (binaryOp op) r) (h3:Op3 X.K f r) (ha:PE3 X a ma) (hb:PE3 X b mb):PE3 X (.BinOp a op b pos) (eOp f ma mb):=PE.imp (zwv ho ha hb) (ziq h3)
theorem zps {op:CmpOp}{f:D->D->Sto->Option (D × Sto)}{r:R2}(ho:OpR X (compareOp op) r) (h3:Op3 X.K f r) (ha:PE3 X a ma) (hb:PE3 X b mb) (hm:behindInMarks op b=false):PE3 X (.Compare a [op] [b] pos) (eOp f ma mb):=PE.imp (zw5 ho ha hb hm) (ziq h3)
theorem zpt {K:QFg}{m:EM}(σ:St) (H:Hp) (Q:Bool->Hp->Prop) (q:tt K (tE m) σ H Q):te K m σ H λx H'=>∃k,x=.bl k/\Q k H':=by
 obtain ⟨ρ,l,S,v,S',sim,ro,hm,p⟩:=q
 obtain ⟨⟨x,S1⟩,h1,hm⟩:=bnd hm
 refine ⟨ρ,l,S,x,S1,sim,ro,h1,λρ' H' v' e s r=>?_⟩
 cases r with
 | bl k=>cases hm;exact ⟨_,rfl,p ρ' H' e s⟩
 | _=>cases hm
theorem zc1 {op:CmpOp}{f:D->D->Sto->Option (D × Sto)}{r:R2}(ho:OpR X (compareOp op) r) (h3:Op3 X.K f r) (ha:PE3 X a ma) (hb:PE3 X b mb) (hm:behindInMarks op b=false):PT3 X (.Compare a [op] [b] pos) (tE (eOp f ma mb)) :=
 PT.imp (zw7 ho ha hb hm) λσ H Q q=>ziq h3 σ H _ (zpt σ H Q q)
theorem zpu {m:EM}(h:PE3 X a m) (he:∀whole,isTrue a X.env whole=(do let v <-whole;standAt a.pos;holding [v] (truthy v)):=by intro _;rfl):PT3 X a (tE m) :=
 PT.imp (zvj h he) λσ H Q q=>zpt σ H Q q
variable {t u:TM}{rest:List Expr}
theorem zyu {K:QFg}(σ:St) (H:Hp) (Q:Bool->Hp->Prop) (q:tt K (zen t u) σ H Q):L2.tAnd (tt K t) (tt K u) σ H Q:=by
 obtain ⟨ρ,l,S,v,S',sim,ro,hm,p⟩:=q
 obtain ⟨⟨x,S1⟩,h1,hm⟩:=bnd hm
 refine ⟨ρ,l,S,x,S1,sim,ro,h1,λρ1 H1 e1 s1=>?_⟩
 cases x with
 | true=>exact zfc ⟨ρ1,l,S1,v,S',s1,ro.mono e1,hm,λρ2 H2 e2 s2=>p ρ2 H2 (e1.trans e2) s2⟩
 | false=>cases hm;exact zfb (p ρ1 H1 e1 s1)
theorem zyv {K:QFg}(σ:St) (H:Hp) (Q:Bool->Hp->Prop) (q:tt K (zeb t u) σ H Q):L2.tOr (tt K t) (tt K u) σ H Q:=by
 obtain ⟨ρ,l,S,v,S',sim,ro,hm,p⟩:=q
 obtain ⟨⟨x,S1⟩,h1,hm⟩:=bnd hm
 refine ⟨ρ,l,S,x,S1,sim,ro,h1,λρ1 H1 e1 s1=>?_⟩
 cases x with
 | false=>exact zfb ⟨ρ1,l,S1,v,S',s1,ro.mono e1,hm,λρ2 H2 e2 s2=>p ρ2 H2 (e1.trans e2) s2⟩
 | true=>cases hm;exact zfc (p ρ1 H1 e1 s1)
theorem zj9 (ha:PT3 X a t):PW3 X (.BoolOp .And [a] pos) t:=zvk ha
theorem zir (ha:PT3 X a t):PW3 X (.BoolOp .Or [a] pos) t:=zvl ha
theorem zka (ha:PT3 X a t) (hb:PW3 X (.BoolOp .And (b :: rest) pos) u):PW3 X (.BoolOp .And (a :: b :: rest) pos) (zen t u):=PW.imp (zvm ha hb) zyu
theorem zis (ha:PT3 X a t) (hb:PW3 X (.BoolOp .Or (b :: rest) pos) u):PW3 X (.BoolOp .Or (a :: b :: rest) pos) (zeb t u):=PW.imp (zvn ha hb) zyv
theorem zep (h:PW3 X a t):PT3 X a t:=PW.pt h
theorem zyw {op}(h:PE3 X a ma):PE3 X (.BoolOp op [a] pos) ma:=zvq h
theorem zyx (ha:PE3 X a ma) (hb:PE3 X (.BoolOp .Or (b :: rest) pos) mb):PE3 X (.BoolOp .Or (a :: b :: rest) pos) (zio ma mb):=PE.imp (zvr ha hb) λσ H Q hx4_=>by
 obtain ⟨ρ,l,S,v,S',sim,ro,hm,p⟩:=hx4_
 obtain ⟨⟨x,S1⟩,h1,hm⟩:=bnd hm
 refine ⟨ρ,l,S,x,S1,sim,ro,h1,λρ1 H1 x' e1 s1 r1=>?_⟩
 cases r1 with
 | bl k =>
  refine ⟨k,rfl,?_⟩
  cases k with
  | false=>exact zfb ⟨ρ1,l,S1,v,S',s1,ro.mono e1,hm,p.ext e1⟩
  | true=>cases hm;exact zfc (p ρ1 H1 _ e1 s1 (.bl true))
 | _=>cases hm
theorem zyy (ha:PE3 X a ma):PE3 X (.UnaryOp .Not a pos) (zj7 ma):=PE.imp (zvs ha) λσ H Q hx5_=>by
 obtain ⟨ρ,l,S,v,S',sim,ro,hm,p⟩:=hx5_
 obtain ⟨⟨x,S1⟩,h1,hm⟩:=bnd hm
 refine ⟨ρ,l,S,x,S1,sim,ro,h1,λρ1 H1 x' e1 s1 r1=>?_⟩
 cases r1 with
 | bl k=>cases hm;exact ⟨k,rfl,p ρ1 H1 _ e1 s1 (.bl _)⟩
 | _=>cases hm
theorem zkb {mc:TM}(hc:PT3 X c mc) (ha:PE3 X a ma) (hb:PE3 X b mb):PE3 X (.IfExp c a b pos) (zeo mc ma mb):=PE.imp (zvt hc ha hb) λσ H Q hx6_=>by
 obtain ⟨ρ,l,S,v,S',sim,ro,hm,p⟩:=hx6_
 obtain ⟨⟨x,S1⟩,h1,hm⟩:=bnd hm
 refine ⟨ρ,l,S,x,S1,sim,ro,h1,λρ1 H1 e1 s1=>?_⟩
 cases x with
 | true=>exact zfc ⟨ρ1,l,S1,v,S',s1,ro.mono e1,hm,p.ext e1⟩
 | false=>exact zfb ⟨ρ1,l,S1,v,S',s1,ro.mono e1,hm,p.ext e1⟩
theorem zag:PA3 X [] zae:=PA.imp zg0 λσ H Q hx7_=>by
 obtain ⟨ρ,l,S,v,S',sim,ro,hm,p⟩:=hx7_
 cases hm
 exact p ρ H [] (Ext.refl ..) sim .nil
theorem zad (ha:PE3 X a ma) (hr:PA3 X es mA) (hs:starEach (a :: es) X.env=(false,eval a X.env) :: starEach es X.env:=by rfl):PA3 X (a :: es) (zab ma mA):=PA.imp (zfa ha hr hs) λσ H Q hx8_=>by
 obtain ⟨ρ,l,S,v,S',sim,ro,hm,p⟩:=hx8_
 obtain ⟨⟨x,S1⟩,h1,hm⟩:=bnd hm
 obtain ⟨⟨y,S2⟩,h2,hm⟩:=bnd hm
 cases hm
 exact ⟨ρ,l,S,x,S1,sim,ro,h1,λρ1 H1 x' e1 s1 r1=>⟨ρ1,l,S1,y,_,s1,ro.mono e1,h2,λρ2 H2 vs e2 s2 r2=>p ρ2 H2 _ (e1.trans e2) s2 (.cons (r1.mono e2) r2)⟩⟩
noncomputable def zaq:FM:=λxs S=>if xs.length<=sizeLine then some (.tup xs,S) else none
noncomputable def zbk:FM:=λxs S=>if xs.length<=sizeLine then some (.ref S.length,S++[.lst xs]) else none
theorem za7 {α:Type}{c:Prop} [Decidable c] {a b:α}(h:(if c then some a else none)=some b):c/\a=b:=by
 by_cases hc:c
 ·rw [if_pos hc] at h;exact ⟨hc,qoi h⟩
 ·rw [if_neg hc] at h;cases h
theorem zit {K:QFg}{ρ:List Addr}{S:Sto}{H:Hp}{xs:List D}{vs:List V}{Q:VK}(sim:Sim K ρ S H) (r:RDs ρ H xs vs) (p:Pv K ρ H (.tup xs) S Q):∀a,H a=none->Q (.ref a) (upd H a (.tup vs)):=λa ha =>
 p ρ _ _ (zcc ha) (sim.laid ha) (.tup zbw (r.mono (zcc ha)))
theorem zfy {K:QFg}{ρ:List Addr}{S:Sto}{H:Hp}{xs:List D}{vs:List V}{Q:VK}(sim:Sim K ρ S H) (r:RDs ρ H xs vs) (p:Pv K ρ H (.ref S.length) (S++[.lst xs]) Q):∀a,H a=none->Q (.ref a) (upd H a (.lst vs)):=λa ha =>
 p (ρ++[a]) _ _ (zpr ha) (sim.push ha r) (.ref (by rw [<-sim.len];exact zd0 ρ a))
theorem zaw {x1}(h:PA3 X es mA):PE3 X (.Tuple es x1 pos) (zaf zaq mA):=PE.imp (zxe h) λσ H Q hx9_=>by
 obtain ⟨ρ,l,S,v,S',sim,ro,hm,p⟩:=hx9_
 obtain ⟨⟨x,S1⟩,h1,hm⟩:=bnd hm
 obtain ⟨hz,e⟩:=za7 hm
 cases e
 exact ⟨ρ,l,S,x,_,sim,ro,h1,λρ1 H1 vs e1 s1 r1=>⟨by rw [<-r1.length];exact hz,zit s1 r1 (p.ext e1)⟩⟩
theorem zbp (h:PA3 X es mA):PE3 X (.List es pos) (zaf zbk mA):=PE.imp (zxf h) λσ H Q hx10_=>by
 obtain ⟨ρ,l,S,v,S',sim,ro,hm,p⟩:=hx10_
 obtain ⟨⟨x,S1⟩,h1,hm⟩:=bnd hm
 obtain ⟨hz,e⟩:=za7 hm
 cases e
 exact ⟨ρ,l,S,x,_,sim,ro,h1,λρ1 H1 vs e1 s1 r1=>⟨by rw [<-r1.length];exact hz,zfy s1 r1 (p.ext e1)⟩⟩
theorem zpv {K:QFg}{f:FM}{r:List V->Hp->VK->Prop}(h3:Fn3 K f r) (σ:St) (H:Hp) (Q:VK) (q:te K (zaf f mA) σ H Q):tCB r (ta K mA) σ H Q:=by
 obtain ⟨ρ,l,S,v,S',sim,ro,hm,p⟩:=q
 obtain ⟨⟨x,S1⟩,h1,hm⟩:=bnd hm
 exact ⟨ρ,l,S,x,S1,sim,ro,h1,λρ1 H1 vs e1 s1 r1=>h3 ρ1 S1 H1 x vs v S' Q s1 r1 hm (p.ext e1)⟩
theorem zg1 {x:Str}{p:Pos}{id:String}{f:FM}{r:List V->Hp->VK->Prop}(hc:CallR X (.builtin id) r) (h3:Fn3 X.K f r) (hg:Gl X x) (hm:X.mg x=none) (hv:bootBuiltins x=some (.builtin id)) (ha:PA3 X (a :: es) mA) (hn:x≠"__name__":=by decide) (hdb:(x == ("__debug__":Str))=false:=by decide)
  (he:starEach (a :: es) X.env=(false,eval a X.env) :: starEach es X.env:=by rfl) (hpl:(backTo pos (starEach es X.env)).any (·.1)=false:=by rfl):PE3 X (.Call (.Name x p) (a :: es) [] pos) (zaf f mA) :=
 PE.imp (zlq hc hg hm hv ha hn hdb he hpl) (zpv h3)
theorem zlx {x:Str}{p:Pos}{T:String}{f:FM}{r:List V->Hp->VK->Prop}(hc:CallR X (.type T) r) (h3:Fn3 X.K f r) (hg:Gl X x) (hm:X.mg x=none) (hv:bootBuiltins x=some (.type T)) (ha:PA3 X (a :: es) mA) (hn:x≠"__name__":=by decide) (hdb:(x == ("__debug__":Str))=false:=by decide)
  (he:starEach (a :: es) X.env=(false,eval a X.env) :: starEach es X.env:=by rfl) (hpl:(backTo pos (starEach es X.env)).any (·.1)=false:=by rfl):PE3 X (.Call (.Name x p) (a :: es) [] pos) (zaf f mA) :=
 PE.imp (zie hc hg hm hv ha hn hdb he hpl) (zpv h3)
end
noncomputable def oI (C:Int->Int->Bool) (g:Int->Int->D):D->D->Sto->Option (D × Sto)
 | .int i,.int j,S=>if C i j=true then some (g i j,S) else none
 | _,_,_=>none
noncomputable def oI0 (g:Int->Int->D):D->D->Sto->Option (D × Sto)
 | .int i,.int j,S=>some (g i j,S)
 | _,_,_=>none
theorem zly {K:QFg}{C:Int->Int->Bool}{C':Int->Int->Prop}{g:Int->Int->D}{g':Int->Int->V}(hC:∀i j,C i j=true->C' i j) (hg:∀ρ H i j,RD ρ H (g i j) (g' i j)):Op3 K (oI C g) (rI C' g'):=by
 intro ρ S H x y x' y' v S' Q sim rx ry h p
 unfold oI at h
 split at h
 ·rename_i i j
  cases rx;cases ry
  obtain ⟨hc,e⟩:=za7 h
  cases e
  exact ⟨i,j,rfl,rfl,hC i j hc,p ρ H _ (Ext.refl ..) sim (hg ρ H i j)⟩
 ·cases h
theorem zkc {K:QFg}{g:Int->Int->D}{g':Int->Int->V}(hg:∀ρ H i j,RD ρ H (g i j) (g' i j)):Op3 K (oI0 g) (rI0 g'):=by
 intro ρ S H x y x' y' v S' Q sim rx ry h p
 unfold oI0 at h
 split at h
 ·rename_i i j
  cases rx;cases ry
  cases h
  exact ⟨i,j,rfl,rfl,p ρ H _ (Ext.refl ..) sim (hg ρ H i j)⟩
 ·cases h
theorem Op3.or {K:QFg}{f:D->D->Sto->Option (D × Sto)}{g:D->D->Sto->Option (D × Sto)}{r r':R2}(h:Op3 K f r) (h':Op3 K g r'):Op3 K (λx y S=>match f x y S with|some v=>some v|none=>g x y S) (λx y H Q=>r x y H Q\/r' x y H Q):=by
 intro ρ S H x y x' y' v S' Q sim rx ry hm p
 dsimp only at hm
 cases e:f x y S with
 | some w=>rw [e] at hm;cases hm;exact .inl (h ρ S H x y x' y' _ _ Q sim rx ry e p)
 | none=>rw [e] at hm;exact .inr (h' ρ S H x y x' y' _ _ Q sim rx ry hm p)
noncomputable abbrev zkd:=oI0 λi j=>.int (i+j)
noncomputable abbrev zpw:=oI0 λi j=>.int (i-j)
noncomputable abbrev ziu:=oI (λi j=>decide (0<j/\j<1073741824)) λi j=>.int (i / j)
noncomputable abbrev zde:=oI (λi j=>decide (0<j)) λi j=>.int (i % j)
noncomputable abbrev zke:=oI (λi j=>decide (0<=j/\j<=1000000/\i.natAbs<2 ^ 64)) λi j=>.int (i ^ j.toNat)
noncomputable abbrev dLt:=oI0 λi j=>.bl (decide (i<j))
noncomputable abbrev dGt:=oI0 λi j=>.bl (decide (j<i))
noncomputable abbrev dGe:=oI0 λi j=>.bl (decide (j<=i))
section
variable {X:Cx}{a b:Expr}{ma mb:EM}{pos:Pos}
theorem zyz (ha:PE3 X a ma) (hb:PE3 X b mb):PE3 X (.BinOp a .Sub b pos) (eOp zpw ma mb):=zfx zww (zkc λ_ _ _ _=>.int _) ha hb
theorem zkf (ha:PE3 X a ma) (hb:PE3 X b mb):PE3 X (.BinOp a .FloorDiv b pos) (eOp ziu ma mb):=zfx zwx (zly (λi j h=>by first|(unfold CMul;exact of_decide_eq_true h)|(unfold zjz;exact of_decide_eq_true h)|(unfold zj0;exact of_decide_eq_true h)|exact of_decide_eq_true h) λ_ _ _ _=>.int _) ha hb
theorem zds (ha:PE3 X a ma) (hb:PE3 X b mb):PE3 X (.BinOp a .Mod b pos) (eOp zde ma mb):=zfx zwy (zly (λi j h=>by first|(unfold CMul;exact of_decide_eq_true h)|(unfold zjz;exact of_decide_eq_true h)|(unfold zj0;exact of_decide_eq_true h)|exact of_decide_eq_true h) λ_ _ _ _=>.int _) ha hb
theorem zlz (ha:PE3 X a ma) (hb:PE3 X b mb):PE3 X (.BinOp a .Pow b pos) (eOp zke ma mb):=zfx zwz (zly (λi j h=>by first|(unfold CMul;exact of_decide_eq_true h)|(unfold zjz;exact of_decide_eq_true h)|(unfold zj0;exact of_decide_eq_true h)|exact of_decide_eq_true h) λ_ _ _ _=>.int _) ha hb
theorem zd1 (ha:PE3 X a ma) (hb:PE3 X b mb):PT3 X (.Compare a [.Lt] [b] pos) (tE (eOp dLt ma mb)):=zc1 zw1 (zkc λ_ _ _ _=>.bl _) ha hb (zdp b)
theorem ziv (ha:PE3 X a ma) (hb:PE3 X b mb):PT3 X (.Compare a [.Gt] [b] pos) (tE (eOp dGt ma mb)):=zc1 zw2 (zkc λ_ _ _ _=>.bl _) ha hb (zdp b)
theorem zy0 (ha:PE3 X a ma) (hb:PE3 X b mb):PT3 X (.Compare a [.GtE] [b] pos) (tE (eOp dGe ma mb)):=zc1 zw3 (zkc λ_ _ _ _=>.bl _) ha hb (zdp b)
end
noncomputable def sEq:D->D->Option Bool
 | .non,.non=>some true | .non,.int _=>some false | .int _,.non=>some false | .non,.bl _=>some false | .bl _,.non=>some false | .non,.str _=>some false | .str _,.non=>some false
 | .int i,.int j=>some (decide (i=j)) | .bl i,.bl j=>some (decide (i=j)) | .str i,.str j=>some (decide (i=j))
 | .int _,.str _=>some false | .str _,.int _=>some false | .bl _,.str _=>some false | .str _,.bl _=>some false
 | _,_=>none
noncomputable def dEq:D->D->Sto->Option (D × Sto):=λx y S=>(sEq x y).bind λb=>some (.bl b,S)
noncomputable def dNe:D->D->Sto->Option (D × Sto):=λx y S=>(sEq x y).bind λb=>some (.bl (!b),S)
theorem zpx {ρ:List Addr}{H:Hp}{x y:D}{x' y':V}{b:Bool}(rx:RD ρ H x x') (ry:RD ρ H y y') (h:sEq x y=some b):zlo x' y' = true/\decide (x' = y')=b:=by
 cases rx <;> cases ry <;> first
  | (cases (show (none:Option Bool)=some b from h))
  | (have h:=qoi h;subst h;exact ⟨rfl,rfl⟩)
  | (have h:=qoi h;subst h;exact ⟨rfl,by simp⟩)
theorem zy1 {K:QFg}:Op3 K dEq rEq:=by
 intro ρ S H x y x' y' v S' Q sim rx ry h p
 obtain ⟨b,h1,h⟩:=bnd h
 cases h
 obtain ⟨h2,h3⟩:=zpx rx ry h1
 exact ⟨h2,by rw [h3];exact p ρ H _ (Ext.refl ..) sim (.bl b)⟩
theorem zpy {K:QFg}:Op3 K dNe rNe:=by
 intro ρ S H x y x' y' v S' Q sim rx ry h p
 obtain ⟨b,h1,h⟩:=bnd h
 cases h
 obtain ⟨h2,h3⟩:=zpx rx ry h1
 exact ⟨h2,by rw [h3];exact p ρ H _ (Ext.refl ..) sim (.bl _)⟩
noncomputable def zb4:D->Bool
 | .non=>true
 | _=>false
noncomputable def dIs:D->D->Sto->Option (D × Sto)
 | x,.non,S=>some (.bl (zb4 x),S)
 | _,_,_=>none
noncomputable def zeq:D->D->Sto->Option (D × Sto)
 | x,.non,S=>some (.bl (!zb4 x),S)
 | _,_,_=>none
theorem zpz {ρ:List Addr}{H:Hp}{x:D}{x':V}(r:RD ρ H x x'):decide (x' = .non)=zb4 x:=by
 cases r <;> simp [zb4]
theorem zp0 {K:QFg}:Op3 K dIs (λx y H Q=>y=.non/\Q (.bl (decide (x=.non))) H):=by
 intro ρ S H x y x' y' v S' Q sim rx ry h p
 unfold dIs at h
 split at h
 ·cases h;cases ry
  exact ⟨rfl,by rw [zpz rx];exact p ρ H _ (Ext.refl ..) sim (.bl _)⟩
 ·cases h
theorem zy2 {K:QFg}:Op3 K zeq (λx y H Q=>y=.non/\Q (.bl (!decide (x=.non))) H):=by
 intro ρ S H x y x' y' v S' Q sim rx ry h p
 unfold zeq at h
 split at h
 ·cases h;cases ry
  exact ⟨rfl,by rw [zpz rx];exact p ρ H _ (Ext.refl ..) sim (.bl _)⟩
 ·cases h
section
variable {X:Cx}{a b:Expr}{ma mb:EM}{pos:Pos}
theorem zp6 (ha:PE3 X a ma) (hb:PE3 X b mb):PE3 X (.Compare a [.NotEq] [b] pos) (eOp dNe ma mb):=zps zoq zpy ha hb (zdp b)
theorem zp7 (ha:PE3 X a ma) (hb:PE3 X b mb):PE3 X (.Compare a [.Is] [b] pos) (eOp dIs ma mb):=zps zor zp0 ha hb (zdp b)
theorem zp8 (ha:PE3 X a ma) (hb:PE3 X b mb):PT3 X (.Compare a [.Eq] [b] pos) (tE (eOp dEq ma mb)):=zc1 zw0 zy1 ha hb (zdp b)
theorem zfz (ha:PE3 X a ma) (hb:PE3 X b mb):PT3 X (.Compare a [.NotEq] [b] pos) (tE (eOp dNe ma mb)):=zc1 zoq zpy ha hb (zdp b)
theorem zp9 (ha:PE3 X a ma) (hb:PE3 X b mb):PT3 X (.Compare a [.Is] [b] pos) (tE (eOp dIs ma mb)):=zc1 zor zp0 ha hb (zdp b)
theorem ziw (ha:PE3 X a ma) (hb:PE3 X b mb):PT3 X (.Compare a [.IsNot] [b] pos) (tE (eOp zeq ma mb)):=zc1 zw4 zy2 ha hb (zdp b)
end
noncomputable def dIx:D->D->Sto->Option (D × Sto)
 | .tup xs,.int i,S=>(atI xs i).bind λv=>some (v,S)
 | .ref n,.int i,S=>(lstOf S n).bind λxs=>(atI xs i).bind λv=>some (v,S)
 | _,_,_=>none
theorem zqa {ρ:List Addr}{H:Hp}{xs:List D}{vs:List V}{i:Int}{x:D}(r:RDs ρ H xs vs) (h:atI xs i=some x):∃v,atI vs i=some v/\RD ρ H x v:=by
 unfold atI at h ⊢
 rw [<-r.length]
 cases e:ixN xs.length i with
 | none=>rw [e] at h;cases h
 | some j =>
  rw [e] at h
  exact r.get (i:=j) h
theorem zy3 {K:QFg}:Op3 K dIx (rIx K):=by
 intro ρ S H x y x' y' v S' Q sim rx ry h p
 unfold dIx at h
 split at h
 ·cases ry
  obtain ⟨w,h1,h⟩:=bnd h
  cases h
  cases rx with
  | tup ha r =>
   obtain ⟨u,h2,r2⟩:=zqa r h1
   exact .inr (.inl ⟨_,_,_,u,rfl,rfl,SqT.of ha,h2,p ρ H u (Ext.refl ..) sim r2⟩)
 ·cases ry
  obtain ⟨xs,h0,h⟩:=bnd h
  obtain ⟨w,h1,h⟩:=bnd h
  cases h
  cases rx with
  | ref hn =>
   obtain ⟨a,vs,ha,sq,r⟩:=sim.lstOf h0
   rw [ha] at hn;cases hn
   obtain ⟨u,h2,r2⟩:=zqa r h1
   exact .inl ⟨_,_,_,u,rfl,rfl,sq,h2,p ρ H u (Ext.refl ..) sim r2⟩
 ·cases h
section
variable {X:Cx}{a b:Expr}{ma mb:EM}{pos:Pos}
end
abbrev OM:=Lo->Sto->Option (Option Int × Sto)
noncomputable def zdf:OM:=λ_ S=>some (none,S)
noncomputable def zc2 (m:EM):OM:=λl S=>(m l S).bind λp=>match p.1 with
 | .int i=>some (some i,p.2)
 | _=>none
noncomputable def zby (xs:List D) (lo hi:Option Int):List D:=(xs.drop (HT.sIx xs.length 0 lo)).take (HT.sIx xs.length xs.length hi-HT.sIx xs.length 0 lo)
inductive tO (K:QFg) (m:OM) (σ:St) (H:Hp) (Q:Option Int->Hp->Prop):Prop
 | mk (ρ:_) (l:_) (S:_) (v:_) (S':_) (_:Sim K ρ S H) (_:RO ρ H l σ) (_:m l S=some (v,S')) (_:∀ρ' H',Ext ρ H ρ' H'->Sim K ρ' S' H'->Q v H')
def PO3 (X:Cx) (e:Option Expr) (m:OM):Prop:=PO X e (tO X.K m)
section
variable {X:Cx}{a b:Expr}{ma mb:EM}{pos p2:Pos}{lo hi:Option Expr}{ml mh:OM}
theorem PO.imp {e:Option Expr}{t u:TO}(h:PO X e t) (i:∀σ H Q,u σ H Q->t σ H Q):PO X e u:=λpins s σ H Q I q=>h pins s σ H Q I (i _ _ _ q)
theorem zer:PO3 X none zdf:=PO.imp zxo λσ H Q hx1_=>by
 obtain ⟨ρ,l,S,v,S',sim,ro,hm,p⟩:=hx1_
 cases hm
 exact p ρ H (Ext.refl ..) sim
theorem zes (h:PE3 X a ma):PO3 X (some a) (zc2 ma):=PO.imp (zxp h) λσ H Q hx2_=>by
 obtain ⟨ρ,l,S,v,S',sim,ro,hm,p⟩:=hx2_
 obtain ⟨⟨x,S1⟩,h1,hm⟩:=bnd hm
 refine ⟨ρ,l,S,x,S1,sim,ro,h1,λρ1 H1 x' e1 s1 r1=>?_⟩
 cases r1 with
 | int i=>cases hm;exact ⟨i,rfl,p ρ1 H1 e1 s1⟩
 | _=>cases hm
end
end L3
namespace HT
open PySem PyProof.Rows
section
variable {prog:Program}{w:World}{A:Around}{E:Value->Shared->Prop}{s:Shared}
theorem getItem_tuple_whole {t sl:Addr}{items:Array Value}{vl vu:Value}{lo hi:Option Int}{Q:Value->Shared->Prop}(ht:IsTup s.heap t items) (hs:s.heap.IsSliceOf sl vl vu .none) (pl:IsPart vl lo) (pu:IsPart vu hi)
  (hw:sIx items.size 0 lo=0/\sIx items.size items.size hi=items.size)
  (h:Q (.ref t) s):wpAny (model prog w) A (getItem (.ref t) (.ref sl)) Q E s:=by
 obtain ⟨os,hos,hcs,hds⟩:=id hs
 have hTs:s.TypeIs (.ref sl) "slice":=⟨os,hos,hcs⟩
 unfold getItem
 try with_reducible refine wpAny_holding ?_
 first|refine qwb (qwp ?_)|skip
 refine qwb (wpAny_sequenceKey ht.typeIs (by decide) ?_)
 refine qwb (wpAny_callSpecial?_slot (name:=Str.ofString "__getitem__") ht.typeIs PyProof.Rows.slot_tuple_getitem
  (wpAny_call_entry PyProof.Rows.slot_tuple_getitem ht.typeIs entry_tuple_getitem ?_ (args_tuple_getitem _ _)))
 show wpAny _ _ (Builtin.Tuple.tupleItemsOf (.ref t) >>= _) _ _ s
 refine qwb (tupleItemsOf_ ht ?_)
 refine qwb (wpAny_typeOf hTs ?_)
 rw [if_pos (by decide)]
 refine qwb (zo2 hs pl pu ?_)
 have hyes:((((sIx items.size 0 lo:Nat):Int) == 0 && (1:Int) == 1 && (sIx items.size items.size hi-sIx items.size 0 lo) == items.size)=true):=by
  rw [hw.1,hw.2];simp
 show wpAny _ _ (if (((sIx items.size 0 lo:Nat):Int) == 0 && (1:Int) == 1 && (sIx items.size items.size hi-sIx items.size 0 lo) == items.size)=true then _ else _) _ _ s
 rw [if_pos hyes]
 unfold Builtin.Tuple.tupleIsExact
 refine qwb (qwb (wpAny_typeOf ht.typeIs (qwp ?_)))
 rw [if_pos (by decide)]
 exact qwb (wpAny_rule (qwb (qwp (qwp ⟨_,rfl,qwp h⟩))))
end
end HT
namespace L3
open PySem PySem.Spec PyProof.Rows L2
section
variable {X:Cx}{a b:Expr}{ma mb:EM}{pos p2:Pos}{lo hi:Option Expr}{ml mh:OM}
def zy4 (K:QFg):V->Option Int->Option Int->Hp->VK->Prop:=λx lo hi H Q=>∃a xs,x=.ref a/\SqT K H a xs /\
 (HT.sIx xs.length 0 lo=0/\HT.sIx xs.length xs.length hi=xs.length)/\Q (.ref a) H
theorem zy5:SlR X (zy4 X.K):=by
 intro pins s σ H x v vl vu lo hi sl Q I rx hs pl pu h
 obtain ⟨a,xs,rfl,hx,hw,q⟩:=h
 cases rx
 obtain ⟨its,r,ht,hz⟩:=I.tuple hx
 have hlen:its.toArray.size=xs.length:=by rw [List.size_toArray];exact r.length.symm
 refine ⟨"tuple",_,PyProof.Rows.slot_tuple_getitem.lookup,ht.typeIs,?_⟩
 exact HT.getItem_tuple_whole ht hs pl pu (by rw [hlen];exact hw) ⟨.ref a,H,I,rfl,q⟩
theorem zy6 (xs:List D) (lo hi:Option Int) (h:HT.sIx xs.length 0 lo=0/\HT.sIx xs.length xs.length hi=xs.length):zby xs lo hi=xs:=by
 unfold zby;rw [h.1,h.2];simp
end
noncomputable def zl0:D->D->Sto->Option (D × Sto)
 | .tup xs,.tup ys,S=>if xs.length+ys.length<=sizeLine then some (.tup (xs++ys),S) else none
 | _,_,_=>none
def zl1 (K:QFg):R2:=λx y H Q=>∃a b ys,x=.ref a/\y=.ref b/\SqT K H a []/\SqT K H b ys/\Q (.ref b) H
theorem zy7 {X:Cx}:OpR X (binaryOp .Add) (zl1 X.K):=by
 intro pins s σ H x y v u Q I rx ry h
 obtain ⟨a,b,ys,rfl,rfl,ha,hb,q⟩:=h
 cases rx
 cases ry
 obtain ⟨its,r1,p1,_⟩:=I.tuple ha
 obtain ⟨its2,r2,p2,_⟩:=I.tuple hb
 cases r1
 obtain ⟨⟨cls,dd,data,sl⟩,ho,hc,n,hd⟩:=id p1
 obtain ⟨⟨cls2,dd2,data2,sl2⟩,ho2,hc2,n2,hd2⟩:=id p2
 simp only at hc hd hc2 hd2
 subst hc hd hc2 hd2
 exact concat_meets ⟨_,ho,rfl⟩ ⟨_,ho2,rfl⟩ noFill_tuple_add seq_tuple_add PySem.F.slot_tuple_add PySem.F.entry_tuple_add (PySem.F.args_tuple_add_2 _ _)
   (tuple_addW0 a b ([]:List Value).toArray its2.toArray n n2 dd dd2 sl sl2 (by simp)) ⟨ho,ho2,⟨.ref b,H,I,rfl,q⟩⟩
theorem zy8 {K:QFg}:Op3 K zl0 (λx y H Q=>zlr K x y H Q\/zl1 K x y H Q):=by
 intro ρ S H x y x' y' v S' Q sim rx ry h p
 unfold zl0 at h
 split at h
 ·obtain ⟨hz,e⟩:=za7 h
  cases e
  cases rx with
  | @tup xs a vs ha r =>
   cases ry with
   | @tup ys b ws hb q =>
    cases r with
    | nil=>exact .inr ⟨a,b,ws,rfl,rfl,SqT.of ha,SqT.of hb,p ρ H _ (Ext.refl ..) sim (.tup hb q)⟩
    | cons r1 r2 =>
     refine .inl ⟨a,b,_,ws,rfl,rfl,SqT.of ha,SqT.of hb,by simp,by rw [<-(RDs.cons r1 r2).length,<-q.length];exact hz,λe=>?_,λ_=>?_⟩
     ·subst e
      cases q
      rw [List.append_nil] at p
      exact p ρ H _ (Ext.refl ..) sim (.tup ha (.cons r1 r2))
     ·exact zit sim ((RDs.cons r1 r2).append q) p
 ·cases h
section
variable {X:Cx}{a b:Expr}{ma mb:EM}{pos:Pos}
end
noncomputable def zix:FM
 | [.tup xs],S=>some (.int xs.length,S)
 | [.ref n],S=>(lstOf S n).bind λxs=>some (.int xs.length,S)
 | _,_=>none
noncomputable def zf0:FM
 | [.int i],S=>some (.int (if i<0 then -i else i),S)
 | _,_=>none
noncomputable def zl2:FM
 | [.int i],S=>some (.int i,S)
 | [.bl b],S=>some (.int (if b then 1 else 0),S)
 | _,_=>none
noncomputable def zd2:FM
 | [.tup xs],S=>some (.tup xs,S)
 | [.ref n],S=>(lstOf S n).bind λxs=>some (.tup xs,S)
 | _,_=>none
section
variable {K:QFg}
theorem zy9:Fn3 K zix (λxs H Q=>∃p ys,xs=[.ref p]/\(SqL K H p ys\/SqT K H p ys)/\Q (.int ys.length) H):=by
 intro ρ S H xs vs v S' Q sim r h p
 unfold zix at h
 split at h
 ·cases h
  obtain ⟨w,rfl,rw'⟩:=r.one
  cases rw' with
  | tup ha r2=>exact ⟨_,_,rfl,.inr (SqT.of ha),by rw [<-r2.length];exact p ρ H _ (Ext.refl ..) sim (.int _)⟩
 ·obtain ⟨ys,h1,h⟩:=bnd h
  cases h
  obtain ⟨w,rfl,rw'⟩:=r.one
  obtain ⟨a,us,ha,sq,r2⟩:=sim.lstOf h1
  cases rw' with
  | ref hn =>
   rw [ha] at hn;cases hn
   exact ⟨_,_,rfl,.inl sq,by rw [<-r2.length];exact p ρ H _ (Ext.refl ..) sim (.int _)⟩
 ·cases h
theorem zza:Fn3 K zf0 (λxs H Q=>∃i,xs=[.int i]/\Q (.int (if i<0 then -i else i)) H):=by
 intro ρ S H xs vs v S' Q sim r h p
 unfold zf0 at h
 split at h
 ·cases h
  obtain ⟨w,rfl,rw'⟩:=r.one
  cases rw'
  exact ⟨_,rfl,p ρ H _ (Ext.refl ..) sim (.int _)⟩
 ·cases h
theorem zzb:Fn3 K zl2 (λxs H Q=>(∃i,xs=[.int i]/\Q (.int i) H)\/∃k,xs=[.bl k]/\Q (.int (if k then 1 else 0)) H):=by
 intro ρ S H xs vs v S' Q sim r h p
 unfold zl2 at h
 split at h
 ·cases h
  obtain ⟨w,rfl,rw'⟩:=r.one
  cases rw'
  exact .inl ⟨_,rfl,p ρ H _ (Ext.refl ..) sim (.int _)⟩
 ·cases h
  obtain ⟨w,rfl,rw'⟩:=r.one
  cases rw'
  exact .inr ⟨_,rfl,p ρ H _ (Ext.refl ..) sim (.int _)⟩
 ·cases h
theorem zzc:Fn3 K zd2 (λxs H Q=>∃p ys,xs=[.ref p]/\((SqL K H p ys/\∀l,H l=none->Q (.ref l) (upd H l (.tup ys)))\/(SqT K H p ys/\Q (.ref p) H))):=by
 intro ρ S H xs vs v S' Q sim r h p
 unfold zd2 at h
 split at h
 ·cases h
  obtain ⟨w,rfl,rw'⟩:=r.one
  cases rw' with
  | tup ha r2=>exact ⟨_,_,rfl,.inr ⟨SqT.of ha,p ρ H _ (Ext.refl ..) sim (.tup ha r2)⟩⟩
 ·obtain ⟨ys,h1,h⟩:=bnd h
  cases h
  obtain ⟨w,rfl,rw'⟩:=r.one
  obtain ⟨a,us,ha,sq,r2⟩:=sim.lstOf h1
  cases rw' with
  | ref hn =>
   rw [ha] at hn;cases hn
   exact ⟨_,_,rfl,.inl ⟨sq,zit sim r2 p⟩⟩
 ·cases h
end
noncomputable def zcs:D->List D->Sto->Option (D × Sto)
 | .ref n,[x],S=>match S[n]? with
  | some (.lst xs)=>if xs.length<sizeLine then some (.non,S.set n (.lst (xs++[x]))) else none
  | _=>none
 | _,_,_=>none
section
variable {K:QFg}
theorem zzd:Mt3 K zcs zpc:=by
 intro ρ S H x x' xs vs v S' Q sim rx r h p
 unfold zcs at h
 split at h
 ·split at h
  ·rename_i n y S ys e
   obtain ⟨hz,e2⟩:=za7 h
   cases e2
   obtain ⟨w,rfl,rw'⟩:=r.one
   obtain ⟨a,us,ha,hH,r2⟩:=sim.lst e
   cases rx with
   | ref hn =>
    rw [ha] at hn;cases hn
    exact ⟨a,us,w,rfl,rfl,hH,by rw [<-r2.length];exact hz,p ρ _ _ (zil ha hH) (sim.set ha e hH (r2.append (.cons rw' .nil))) .non⟩
  ·cases h
 ·cases h
end
noncomputable def zg2:D->Sto->Option (List D)
 | .ref n,S=>lstOf S n
 | _,_=>none
noncomputable def zb5 (f:D->List D->Sto->Option (D × Sto)) (o:EM) (as:AM):EM:=λl S=>(o l S).bind λp=>(zg2 p.1 p.2).bind λ_=>(as l p.2).bind λq=>f p.1 q.1 q.2
section
variable {X:Cx}{a o e:Expr}{es:List Expr}{mo:EM}{mA:AM}{name:Str}{apos cpos pos:Pos}{id:String}{f:D->List D->Sto->Option (D × Sto)}{r:V->List V->Hp->VK->Prop}
theorem zze {K:QFg}{ρ:List Addr}{S:Sto}{H:Hp}{x:D}{x':V}{xs:List D}(sim:Sim K ρ S H) (rx:RD ρ H x x') (h:zg2 x S=some xs):tyV K "list" x' H:=by
 unfold zg2 at h
 split at h
 ·obtain ⟨a,us,ha,sq,r2⟩:=sim.lstOf h
  cases rx with
  | ref hn =>
   rw [ha] at hn;cases hn
   exact .inl ⟨rfl,us,sq⟩
 ·cases h
theorem zkg (slot:Slot "list" name id) (hty:typeOf (.builtin id)=pure (.type "method_descriptor")) (hm:MtM X id r) (h3:Mt3 X.K f r) (ho:PE3 X o mo) (ha:PA3 X (e :: es) mA)
  (hbase:attributeBase o name X.env (eval o X.env)=eval o X.env:=by rfl)
  (hfew:((backTo cpos (starEach (e :: es) X.env)).all (λx=>!x.1) && (backToKw cpos (keywordEach [] X.env)).all (λx=>x.1.isSome)
   && decide ((e :: es).length+([]:List Keyword).length+(if ([]:List Keyword).isEmpty then 0 else 1)<30))=true:=by rfl)
  (hline:(apos.endLine == cpos.line)=true:=by rfl) (hs:starEach (e :: es) X.env=(false,eval e X.env) :: starEach es X.env:=by rfl) (hplain:(backTo cpos (starEach es X.env)).any (·.1)=false:=by rfl) :
  PE3 X (.Call (.Attribute o name apos) (e :: es) [] cpos) (zb5 f mo mA) :=
 PE.imp (zo9 PySem.F.plainAttrs_list slot hty hm ho ha hbase hfew hline hs hplain) λσ H Q hx1_=>by
  obtain ⟨ρ,l,S,v,S',sim,ro,hq,p⟩:=hx1_
  obtain ⟨⟨x,S1⟩,h1,hq⟩:=bnd hq
  obtain ⟨xs,h2,hq⟩:=bnd hq
  obtain ⟨⟨ys,S2⟩,h4,hq⟩:=bnd hq
  exact ⟨ρ,l,S,x,S1,sim,ro,h1,λρ1 H1 x' e1 s1 r1=>⟨zze s1 r1 h2,ρ1,l,S1,ys,S2,s1,ro.mono e1,h4,λρ2 H2 vs e2 s2 r2=>h3 ρ2 S2 H2 x x' ys vs v S' Q s2 (r1.mono e2) r2 hq (p.ext (e1.trans e2))⟩⟩
theorem zet {m:EM}(ho:PE3 X o mo) (he:PE3 X e m)
  (hbase:attributeBase o "append" X.env (eval o X.env)=eval o X.env:=by rfl)
  (hfew:((backTo cpos (starEach [e] X.env)).all (λx=>!x.1) && (backToKw cpos (keywordEach [] X.env)).all (λx=>x.1.isSome)
   && decide ([e].length+([]:List Keyword).length+(if ([]:List Keyword).isEmpty then 0 else 1)<30))=true:=by rfl)
  (hline:(apos.endLine == cpos.line)=true:=by rfl) (hs:starEach [e] X.env=(false,eval e X.env) :: starEach [] X.env:=by rfl) :
  PE3 X (.Call (.Attribute o "append" apos) [e] [] cpos) (zb5 zcs mo (zab m zae)) :=
 zkg PySem.F.slot_list_append PySem.F.type_list_append zpd zzd ho (zad he zag hs) hbase hfew hline hs
end
section
variable {X:Cx}{a:Expr}{ma:EM}{pos p p2:Pos}
end
def sp3 (K:QFg) (n:Nat) (f:FM):Sp:=λvs H Q _=>vs.length=n/\∃ρ ds S v S',Sim K ρ S H/\RDs ρ H ds vs/\f ds S=some (v,S')/\Pv K ρ H v S' Q
section
variable {X:Cx}{a:Expr}{es:List Expr}{mA:AM}{pos p:Pos}{x:Str}{k:Nat}{f:Addr}{fd:FuncData}{ps:List Str}{m:FM}
theorem zzf {n:Nat}(F:FnOk X.prog X.w X.K X.mg X.base CX0 k f fd ps (sp3 X.K n m)) (hr:Room k X.A) (hg:Gl X x) (hm:X.mg x=some (.ref f)) (hk:PySem.W.keepIn X.K (.ref f)=true) (hb:Binds X.K fd ps [])
  (ha:PA3 X (a :: es) mA) (hl:∀l S v S',mA l S=some (v,S')->v.length=n) (hdb:(x == ("__debug__":Str))=false:=by decide) (he:starEach (a :: es) X.env=(false,eval a X.env) :: starEach es X.env:=by rfl) (hpl:(backTo pos (starEach es X.env)).any (·.1)=false:=by rfl) :
  PE3 X (.Call (.Name x p) (a :: es) [] pos) (zaf m mA) :=
 PE.imp (zxg F hr hg hm hk hb .nil zpj ha hdb he hpl) λσ H Q hx3_=>by
  obtain ⟨ρ,l,S,v,S',sim,ro,hq,p⟩:=hx3_
  obtain ⟨⟨xs,S1⟩,h1,hq⟩:=bnd hq
  exact ⟨ρ,l,S,xs,S1,sim,ro,h1,λρ1 H1 vs e1 s1 r1=>⟨by rw [List.append_nil,<-r1.length];exact hl _ _ _ _ h1,ρ1,xs,S1,v,S',s1,by rw [List.append_nil];exact r1,hq,p.ext e1⟩⟩
theorem zbc:∀l S v S',zae l S=some (v,S')->v.length=0:=λl S v S' h=>by cases h;rfl
theorem zar {n:Nat}{m:EM}{mA:AM}(h:∀l S v S',mA l S=some (v,S')->v.length=n):∀l S v S',zab m mA l S=some (v,S')->v.length=n+1:=λl S v S' q=>by
 obtain ⟨⟨x,S1⟩,h1,q⟩:=bnd q
 obtain ⟨⟨y,S2⟩,h2,q⟩:=bnd q
 cases q
 rw [List.length_cons,h _ _ _ _ h2]
end
noncomputable def zay:SM:=λl S=>some (.nx,l,S)
noncomputable def zaj (a b:SM):SM:=λl S=>(a l S).bind λp=>match p.1 with
 | .nx=>b p.2.1 p.2.2
 | f=>some (f,p.2)
noncomputable def zct (e:EM):SM:=λl S=>(e l S).bind λp=>some (.nx,l,p.2)
noncomputable def zba (e:EM):SM:=λl S=>(e l S).bind λp=>some (.rt p.1,l,p.2)
noncomputable def sIf (c:TM) (a b:SM):SM:=λl S=>(c l S).bind λp=>if p.1=true then a l p.2 else b l p.2
noncomputable def zam (e:EM) (g:GM):SM:=λl S=>(e l S).bind λp=>(g p.1 l p.2).bind λq=>some (.nx,q)
noncomputable def zah (i:Nat):GM:=λd l S=>some (l.set i (some d),S)
noncomputable def zcg:GsM
 | [],l,S=>some (l,S)
 | _,_,_=>none
noncomputable def zbb (g:GM) (r:GsM):GsM
 | x :: xs,l,S=>(g x l S).bind λp=>r xs p.1 p.2
 | _,_,_=>none
noncomputable def zco (n:Nat) (g:GsM):GM
 | .tup xs,l,S=>if xs.length=n then g xs l S else none
 | _,_,_=>none
noncomputable def zdg:D->D->D->Sto->Option Sto
 | .ref n,.int i,v,S=>match S[n]? with
  | some (.lst xs)=>(ixN xs.length i).bind λj=>some (S.set n (.lst (xs.set j v)))
  | _=>none
 | _,_,_,_=>none
noncomputable def zfe (o i:EM):GM:=λv l S=>(o l S).bind λp=>(i l p.2).bind λq=>(zdg p.1 q.1 v q.2).bind λS'=>some (l,S')
section
variable {X:Cx}{st:Stmt}{rest:List Stmt}{m n:SM}{e c:Expr}{me:EM}{pos:Pos}
theorem zbu:zcn X [] zay:=PSs.imp zvx λE σ H hx1_=>by
 obtain ⟨ρ,l,S,f,l',S',sim,ro,hm,p⟩:=hx1_
 cases hm
 exact p ρ H σ (Ext.refl ..) sim ro
theorem zak (h1:PS3 X st m) (h2:zcn X rest n):zcn X (st :: rest) (zaj m n):=PSs.imp (zoe h1 h2) λE σ H hx2_=>by
 obtain ⟨ρ,l,S,f,l',S',sim,ro,hm,p⟩:=hx2_
 obtain ⟨⟨g,l1,S1⟩,q1,hm⟩:=bnd hm
 refine ⟨ρ,l,S,g,l1,S1,sim,ro,q1,λρ1 H1 σ1 e1 s1 r1=>?_⟩
 cases g with
 | nx=>exact ⟨ρ1,l1,S1,f,l',S',s1,r1,hm,λρ2 H2 σ2 e2 s2 r2=>p ρ2 H2 σ2 (e1.trans e2) s2 r2⟩
 | bk=>cases hm;exact p ρ1 H1 σ1 e1 s1 r1
 | ct=>cases hm;exact p ρ1 H1 σ1 e1 s1 r1
 | rt d=>cases hm;exact p ρ1 H1 σ1 e1 s1 r1
theorem zat (h1:PS3 X st m):zcn X [st] m:=zvy h1
theorem zdt (he:PE3 X e me) (hs:swapsWith e none pos.line X.env=pure false:=by rfl):PS3 X (.Expr e pos) (zct me):=PS.imp (zv0 he hs) λE σ H hx6_=>by
 obtain ⟨ρ,l,S,f,l',S',sim,ro,hm,p⟩:=hx6_
 obtain ⟨⟨x,S1⟩,q1,hm⟩:=bnd hm
 cases hm
 exact ⟨ρ,l,S,x,_,sim,ro,q1,λρ1 H1 x' e1 s1 _=>p ρ1 H1 σ e1 s1 (ro.mono e1)⟩
theorem zbh (he:PE3 X e me):PS3 X (.Return (some e) pos) (zba me):=PS.imp (zv2 he) λE σ H hx7_=>by
 obtain ⟨ρ,l,S,f,l',S',sim,ro,hm,p⟩:=hx7_
 obtain ⟨⟨x,S1⟩,q1,hm⟩:=bnd hm
 cases hm
 exact ⟨ρ,l,S,x,_,sim,ro,q1,λρ1 H1 x' e1 s1 r1=>p ρ1 H1 σ e1 s1 (ro.mono e1) x' r1⟩
theorem zbv {c:Expr}{a b:List Stmt}{mc:TM}(hc:PT3 X c mc) (ha:zcn X a m) (hb:zcn X b n):PS3 X (.If c a b pos) (sIf mc m n):=PS.imp (zof hc ha hb) λE σ H hx9_=>by
 obtain ⟨ρ,l,S,f,l',S',sim,ro,hm,p⟩:=hx9_
 obtain ⟨⟨x,S1⟩,q1,hm⟩:=bnd hm
 refine ⟨ρ,l,S,x,S1,sim,ro,q1,λρ1 H1 e1 s1=>?_⟩
 cases x with
 | true=>exact zfc ⟨ρ1,l,S1,f,l',S',s1,ro.mono e1,hm,λρ2 H2 σ2 e2 s2 r2=>p ρ2 H2 σ2 (e1.trans e2) s2 r2⟩
 | false=>exact zfb ⟨ρ1,l,S1,f,l',S',s1,ro.mono e1,hm,λρ2 H2 σ2 e2 s2 r2=>p ρ2 H2 σ2 (e1.trans e2) s2 r2⟩
noncomputable def zb6:SM:=λ_ _=>none
theorem zqb:PS3 X st zb6:=PS.imp zv5 λE σ H hx10_=>by obtain ⟨ρ,l,S,f,l',S',sim,ro,hm,p⟩:=hx10_;cases hm
variable {tgt o i:Expr}{g:GM}{gs:GsM}{ts':List Expr}{mo mi:EM}
theorem zax (j:Nat) {x:Str}(hN:X.N.Nodup) (hi:X.N[j]? = some x:=by rfl) (hx:Loc X.env.scope x:=by first|exact Or.inl rfl|exact Or.inr rfl) (hf:X.fn x=true\/X.env.scope.names.lookup x=some .local:=by first|exact .inl rfl|exact .inr rfl|assumption):PG3 X (.Name x pos) (zah j) :=
 PG.imp (zv6 hN hi hx hf) λv σ H Q hx11_=>by
  obtain ⟨ρ,l,S,d,l',S',sim,ro,rd,hm,p⟩:=hx11_
  cases hm
  exact p ρ H _ (Ext.refl ..) sim (ro.set j rd)
theorem zcu:zin X [] zcg:=PGs.imp zv9 λv σ H Q hx12_=>by
 obtain ⟨ρ,l,S,d,l',S',sim,ro,rd,hm,p⟩:=hx12_
 cases rd with
 | nil=>cases hm;exact ⟨rfl,p ρ H _ (Ext.refl ..) sim ro⟩
 | cons _ _=>cases hm
theorem zbi (h1:PG3 X tgt g) (h2:zin X ts' gs) (hs:(assignEach (tgt :: ts') X.env).map (·.2)=assign tgt X.env :: (assignEach ts' X.env).map (·.2):=by rfl):zin X (tgt :: ts') (zbb g gs):=PGs.imp (zwa h1 h2 hs) λv σ H Q hx13_=>by
 obtain ⟨ρ,l,S,d,l',S',sim,ro,rd,hm,p⟩:=hx13_
 cases rd with
 | nil=>cases hm
 | @cons x v' xs vs r1 r2 =>
  obtain ⟨⟨l1,S1⟩,q1,hm⟩:=bnd hm
  exact ⟨v',vs,rfl,ρ,l,S,x,l1,S1,sim,ro,r1,q1,λρ1 H1 σ1 e1 s1 ro1=>⟨ρ1,l1,S1,xs,l',S',s1,ro1,r2.mono e1,hm,λρ2 H2 σ2 e2 s2 ro2=>p ρ2 H2 σ2 (e1.trans e2) s2 ro2⟩⟩
theorem zc3 {es:List Expr}{k n:Nat}(hc:X.calm=true) (h:zin X es gs) (hn:(assignEach es X.env).length=n:=by rfl) (hst:(assignEach es X.env).findIdx? (·.1)=none:=by rfl):PG3 X (.Tuple es k pos) (zco n gs) :=
 PG.imp (zoh hc h hn hst) λv σ H Q hx14_=>by
  obtain ⟨ρ,l,S,d,l',S',sim,ro,rd,hm,p⟩:=hx14_
  cases rd with
  | @tup xs a vs ha r =>
   have hm:(if xs.length=n then gs xs l S else none)=some (l',S'):=hm
   by_cases hl:xs.length=n
   ·rw [if_pos hl] at hm
    exact ⟨a,vs,rfl,SqT.of ha,by rw [<-r.length];exact hl,ρ,l,S,xs,l',S',sim,ro,r,hm,p⟩
   ·rw [if_neg hl] at hm;cases hm
  | _=>cases hm
theorem zzg {K:QFg}{ρ:List Addr}{S S':Sto}{H:Hp}{x y z:D}{x' y' z':V}{Q:Hp->Prop}(sim:Sim K ρ S H) (rx:RD ρ H x x') (ry:RD ρ H y y') (rz:RD ρ H z z') (h:zdg x y z S=some S') (q:∀H',Ext ρ H ρ H'->Sim K ρ S' H'->Q H'):rSetL x' y' z' H Q:=by
 unfold zdg at h
 split at h
 ·split at h
  ·rename_i hx
   obtain ⟨j,hj,h⟩:=bnd h
   cases h
   cases ry
   obtain ⟨a,us,ha',hH,r3⟩:=sim.lst hx
   cases rx with
   | ref hn =>
    rw [ha'] at hn;cases hn
    exact ⟨a,us,_,j,rfl,rfl,hH,by rw [<-r3.length];exact hj,q _ (zil ha' hH) (sim.set ha' hx hH (r3.set rz j))⟩
  ·cases h
 ·cases h
theorem ziy (ho:PE3 X o mo) (hi:PE3 X i mi)
  (ha:∀v,assign (.Subscript o i pos) X.env v=(do
   let ov <-holding [v] (eval o X.env)
   let iv <-holding [v,ov] (eval i X.env)
   standAt pos
   holding [v,ov,iv] (setItem ov iv v)
   release [v,ov,iv] []):=by intro _;rfl):PG3 X (.Subscript o i pos) (zfe mo mi) :=
 PG.imp (zwd ho hi zxw ha) λv σ H Q hx15_=>by
  obtain ⟨ρ,l,S,d,l',S',sim,ro,rd,hm,p⟩:=hx15_
  obtain ⟨⟨x,S1⟩,q1,hm⟩:=bnd hm
  obtain ⟨⟨y,S2⟩,q2,hm⟩:=bnd hm
  obtain ⟨S3,q3,hm⟩:=bnd hm
  cases hm
  exact ⟨ρ,l,S,x,S1,sim,ro,q1,λρ1 H1 x' e1 s1 r1=>⟨ρ1,l,S1,y,S2,s1,ro.mono e1,q2,λρ2 H2 y' e2 s2 r2=>zzg s2 (r1.mono e2) r2 (rd.mono (e1.trans e2)) q3 λH3 e3 s3=>p ρ2 H3 σ (e1.trans (e2.trans e3)) s3 (ro.mono (e1.trans (e2.trans e3)))⟩⟩
theorem zdh (he:PE3 X e me) (hg:PG3 X tgt g) (hs:swapsWithSole [tgt] e pos.line X.env=pure false:=by rfl) (hw:swappedStores [tgt] e X.env=pure none:=by rfl)
  (h1:(assignEach [tgt] X.env).map (·.2)=[assign tgt X.env]:=by rfl):PS3 X (.Assign [tgt] e pos) (zam me g):=PS.imp (zwe he hg hs hw h1) λE σ H hx16_=>by
 obtain ⟨ρ,l,S,f,l',S',sim,ro,hm,p⟩:=hx16_
 obtain ⟨⟨x,S1⟩,q1,hm⟩:=bnd hm
 obtain ⟨⟨l2,S2⟩,q2,hm⟩:=bnd hm
 cases hm
 exact ⟨ρ,l,S,x,S1,sim,ro,q1,λρ1 H1 x' e1 s1 r1=>⟨ρ1,l,S1,x,_,_,s1,ro.mono e1,r1,q2,λρ2 H2 σ2 e2 s2 r2=>p ρ2 H2 σ2 (e1.trans e2) s2 r2⟩⟩
theorem zas (j:Nat) {x:Str}{pos':Pos}(hN:X.N.Nodup) (he:PE3 X e me) (hi:X.N[j]? = some x:=by rfl) (hx:Loc X.env.scope x:=by first|exact Or.inl rfl|exact Or.inr rfl) (hs:swapsWith e (some (.Name x pos')) pos.line X.env=pure false:=by rfl) (hf:X.fn x=true\/X.env.scope.names.lookup x=some .local:=by first|exact .inl rfl|exact .inr rfl|assumption) :
  PS3 X (.Assign [.Name x pos'] e pos) (zam me (zah j)):=PS.imp (zwf hN hi hx he hs hf) λE σ H hx17_=>by
 obtain ⟨ρ,l,S,f,l',S',sim,ro,hm,p⟩:=hx17_
 obtain ⟨⟨x,S1⟩,q1,hm⟩:=bnd hm
 cases hm
 exact ⟨ρ,l,S,x,_,sim,ro,q1,λρ1 H1 x' e1 s1 r1=>p ρ1 H1 _ e1 s1 ((ro.mono e1).set j r1)⟩
end
noncomputable def zcd (g:GM) (b:SM):List D->SM
 | [],l,S=>some (.nx,l,S)
 | x :: xs,l,S=>(g x l S).bind λp=>(b p.1 p.2).bind λq=>match q.1 with
  | .nx=>zcd g b xs q.2.1 q.2.2
  | .ct=>zcd g b xs q.2.1 q.2.2
  | .bk=>some (.nx,q.2)
  | .rt d=>some (.rt d,q.2)
noncomputable def zdu (g:GM) (b:SM) (n:Nat):Nat->Nat->SM
 | 0,_,_,_=>none
 | k+1,i,l,S=>(lstOf S n).bind λxs=>match xs[i]? with
  | none=>some (.nx,l,S)
  | some x=>(g x l S).bind λp=>(b p.1 p.2).bind λq=>match q.1 with
   | .nx=>zdu g b n k (i+1) q.2.1 q.2.2
   | .ct=>zdu g b n k (i+1) q.2.1 q.2.2
   | .bk=>some (.nx,q.2)
   | .rt d=>some (.rt d,q.2)
noncomputable def zcp (e:EM) (g:GM) (b:SM):SM:=λl S=>(e l S).bind λp=>match p.1 with
 | .tup xs=>zcd g b xs l p.2
 | .ref n=>(lstOf p.2 n).bind λxs=>zdu g b n (xs.length+1) 0 l p.2
 | _=>none
noncomputable def za3 (lo:Int) (n:Nat):List D:=(List.range n).map λ(i:Nat)=>.int (lo+i)
noncomputable def zbx (as:AM):Lo->Sto->Option ((Int × Nat) × Sto):=λl S=>(as l S).bind λp=>match p.1 with
 | [.int j]=>if -(2 ^ 62)<=j/\j<2 ^ 62 then some ((0,j.toNat),p.2) else none
 | _=>none
noncomputable def zeu (as:AM):Lo->Sto->Option ((Int × Nat) × Sto):=λl S=>(as l S).bind λp=>match p.1 with
 | [.int i,.int j]=>if -(2 ^ 62)<=i/\i<2 ^ 62/\-(2 ^ 62)<=j/\j<2 ^ 62 then some ((i,(j-i).toNat),p.2) else none
 | _=>none
noncomputable def zdi (r:Lo->Sto->Option ((Int × Nat) × Sto)) (g:GM) (b:SM):SM:=λl S=>(r l S).bind λp=>zcd g b (za3 p.1.1 p.1.2) l p.2
section
variable {K:QFg}{g:GM}{b:SM}{E:Ends}
theorem zl3 {next:SM}{x:D}{v:V}{ρ:List Addr}{l:Lo}{S:Sto}{H:Hp}{σ:St}{f:Fl}{l':Lo}{S':Sto}(sim:Sim K ρ S H) (ro:RO ρ H l σ) (rx:RD ρ H x v)
  (hm:((g x l S).bind λp=>(b p.1 p.2).bind λq=>match q.1 with
   | .nx=>next q.2.1 q.2.2
   | .ct=>next q.2.1 q.2.2
   | .bk=>some (.nx,q.2)
   | .rt d=>some (.rt d,q.2))=some (f,l',S')) (p:∀ρ' H' σ',Ext ρ H ρ' H'->Sim K ρ' S' H'->RO ρ' H' l' σ'->zim ρ' H' E σ' f)
  {N:St->Hp->Prop} (hN:∀ρ1 H1 σ1 l1 S1,Ext ρ H ρ1 H1->Sim K ρ1 S1 H1->RO ρ1 H1 l1 σ1->next l1 S1=some (f,l',S')->N σ1 H1) :
  tg K g v σ H λσ2 H2=>ts K b { E with nx:=N,ct:=N,bk:=E.nx } σ2 H2:=by
 obtain ⟨⟨l1,S1⟩,q1,hm⟩:=bnd hm
 obtain ⟨⟨fl,l2,S2⟩,q2,hm⟩:=bnd hm
 refine ⟨ρ,l,S,x,l1,S1,sim,ro,rx,q1,λρ1 H1 σ1 e1 s1 r1=>⟨ρ1,l1,S1,fl,l2,S2,s1,r1,q2,λρ2 H2 σ2 e2 s2 r2=>?_⟩⟩
 cases fl with
 | nx=>exact hN ρ2 H2 σ2 l2 S2 (e1.trans e2) s2 r2 hm
 | ct=>exact hN ρ2 H2 σ2 l2 S2 (e1.trans e2) s2 r2 hm
 | bk=>cases hm;exact p ρ2 H2 σ2 (e1.trans e2) s2 r2
 | rt d=>cases hm;exact p ρ2 H2 σ2 (e1.trans e2) s2 r2
end
section
variable {X:Cx}{tgt iter:Expr}{body:List Stmt}{g:GM}{b:SM}{m:EM}{pos:Pos}
theorem zl4 {K:QFg}{J:It}{vs:List V}{xs:List D}{ρ:List Addr}{l:Lo}{S:Sto}{H:Hp}{σ:St}{f:Fl}{l':Lo}{S':Sto}{E:Ends}(R:List Addr->Hp->Prop) (hR:∀ρ H ρ' H',Ext ρ H ρ' H'->R ρ H->R ρ' H')
  (hgo:∀(i:Nat) ρ H v,R ρ H->vs[i]? = some v->J.go i H) (hy:∀(i:Nat) ρ H v H',R ρ H->i<vs.length->J.yld i H v H'->H' = H/\vs[i]? = some v) (hst:∀ρ H,R ρ H->J.stop vs.length H)
  (hv:∀ρ H,R ρ H->RDs ρ H xs vs) (r0:R ρ H)
  (sim:Sim K ρ S H) (ro:RO ρ H l σ) (hm:zcd g b xs l S=some (f,l',S')) (p:∀ρ' H' σ',Ext ρ H ρ' H'->Sim K ρ' S' H'->RO ρ' H' l' σ'->zim ρ' H' E σ' f) :
  ∃W:Nat->Nat->St->Hp->Prop,(∃m,W 0 m σ H)/\∀i m σ H,W i m σ H ->
   (J.stop i H/\E.nx σ H)\/(J.go i H/\∃N:St->Hp->Prop,(∀σ' H',N σ' H'->∃m',m' < m/\W (i+1) m' σ' H')/\∀x H',J.yld i H x H'->tg K g x σ H' λσ2 H2=>ts K b { E with nx:=N,ct:=N,bk:=E.nx } σ2 H2):=by
 refine ⟨λi m σ1 H1=>m=xs.length-i/\i<=xs.length/\∃ρ1 l1 S1,Ext ρ H ρ1 H1/\Sim K ρ1 S1 H1/\RO ρ1 H1 l1 σ1/\zcd g b (xs.drop i) l1 S1=some (f,l',S'),⟨xs.length,by simp,Nat.zero_le _,ρ,l,S,Ext.refl ..,sim,ro,hm⟩,?_⟩
 rintro i m σ1 H1 ⟨rfl,hi,ρ1,l1,S1,e1,s1,ro1,hm1⟩
 have R1:=hR _ _ _ _ e1 r0
 have hlen:=(hv _ _ r0).length
 by_cases hlt:i<xs.length
 ·have hx:xs[i]? = some xs[i]:=qge hlt
  obtain ⟨v,hvi,rv⟩:=(hv _ _ R1).get hx
  rw [List.drop_eq_getElem_cons hlt] at hm1
  refine .inr ⟨hgo i ρ1 H1 v R1 hvi,_,λσ' H' h=>h,λy H' hyl=>?_⟩
  obtain ⟨e,hy2⟩:=hy i ρ1 H1 y H' R1 (by omega) hyl
  subst e
  rw [hvi] at hy2;cases hy2
  refine zl3 (next:=zcd g b (xs.drop (i+1))) s1 ro1 rv hm1 (λρ' H' σ' e'=>p ρ' H' σ' (e1.trans e')) λρ2 H2 σ2 l2 S2 e2 s2 ro2 hm2=>?_
  exact ⟨xs.length-(i+1),by omega,rfl,hlt,ρ2,l2,S2,e1.trans e2,s2,ro2,hm2⟩
 ·have hil:i=xs.length:=by omega
  subst hil
  rw [List.drop_length] at hm1
  cases hm1
  exact .inl ⟨by rw [hlen];exact hst _ _ R1,p ρ1 H1 σ1 e1 s1 ro1⟩
theorem zl5 (ρ:List Addr) (H:Hp) (lo:Int) (n:Nat):RDs ρ H (za3 lo n) ((List.range n).map λ(i:Nat)=>V.int (lo+i)):=by
 unfold za3
 generalize List.range n=l
 induction l with
 | nil=>exact .nil
 | cons a r ih=>exact .cons (.int _) ih
theorem zqc {lo:Int}{n i:Nat}{v:V}(h:i<n) (hv:v=.int (lo+i)):((List.range n).map λ(i:Nat)=>V.int (lo+i))[i]? = some v:=by
 rw [qgm,List.getElem?_range h,hv];rfl
theorem PI.or {wi wj:TI}(h:PI X tgt iter wi) (h':PI X tgt iter wj):PI X tgt iter (λσ H R=>wi σ H R\/wj σ H R):=by
 intro pins s σ H R I q
 rcases q with q|q
 ·exact h pins s σ H R I q
 ·exact h' pins s σ H R I q
theorem zzh {K:QFg}{n:Nat}{a:Addr}{ρ:List Addr}{l:Lo}{S:Sto}{H:Hp}{σ:St}{f:Fl}{l':Lo}{S':Sto}{E:Ends}{k:Nat}(ha:ρ[n]? = some a)
  (sim:Sim K ρ S H) (ro:RO ρ H l σ) (hm:zdu g b n k 0 l S=some (f,l',S')) (p:∀ρ' H' σ',Ext ρ H ρ' H'->Sim K ρ' S' H'->RO ρ' H' l' σ'->zim ρ' H' E σ' f) :
  ∃W:Nat->Nat->St->Hp->Prop,(∃m,W 0 m σ H)/\∀i m σ H,W i m σ H ->
   ((Itl K a).stop i H/\E.nx σ H)\/((Itl K a).go i H/\∃N:St->Hp->Prop,(∀σ' H',N σ' H'->∃m',m' < m/\W (i+1) m' σ' H')/\∀x H',(Itl K a).yld i H x H'->tg K g x σ H' λσ2 H2=>ts K b { E with nx:=N,ct:=N,bk:=E.nx } σ2 H2):=by
 refine ⟨λi m σ1 H1=>∃ρ1 l1 S1,Ext ρ H ρ1 H1/\Sim K ρ1 S1 H1/\RO ρ1 H1 l1 σ1/\zdu g b n m i l1 S1=some (f,l',S'),⟨k,ρ,l,S,Ext.refl ..,sim,ro,hm⟩,?_⟩
 rintro i m σ1 H1 ⟨ρ1,l1,S1,e1,s1,ro1,hm1⟩
 cases m with
 | zero=>cases hm1
 | succ m =>
  have ha1:=e1.pre n a ha
  unfold zdu at hm1
  obtain ⟨xs,hx,hm1⟩:=bnd hm1
  obtain ⟨a',vs,ha',sq,rv⟩:=s1.lstOf hx
  rw [ha1] at ha';cases ha'
  cases hi:xs[i]? with
  | none =>
   rw [hi] at hm1
   cases hm1
   have hl:xs.length<=i:=List.getElem?_eq_none_iff.mp hi
   exact .inl ⟨⟨vs,sq,by rw [<-rv.length];exact hl⟩,p ρ1 H1 σ1 e1 s1 ro1⟩
  | some x =>
   rw [hi] at hm1
   obtain ⟨v,hvi,r⟩:=rv.get hi
   refine .inr ⟨⟨vs,v,sq,hvi⟩,_,λσ' H' h=>h,λy H' hyl=>?_⟩
   obtain ⟨e,hy2⟩:=hyl
   subst e
   have hy3:=hy2 vs sq
   rw [hvi] at hy3;cases hy3
   refine zl3 (next:=zdu g b n m (i+1)) s1 ro1 r hm1 (λρ' H' σ' e'=>p ρ' H' σ' (e1.trans e')) λρ2 H2 σ2 l2 S2 e2 s2 ro2 hm2=>?_
   exact ⟨m,Nat.lt_succ_self m,ρ2,l2,S2,e1.trans e2,s2,ro2,hm2⟩
theorem zf1 (hp:PassesOwn (model X.prog X.w) X.A X.env X.xe) (hc:X.calm=true) (hi:PE3 X iter m) (hg:PG3 X tgt g) (hb:zcn X body b)
  (hs:∀x,foldedSetIterable iter X.env x=pure x:=by intro _;rfl):PS3 X (.For tgt iter body [] pos) (zcp m g b) :=
 PS.imp (zid hp hc (PI.or (zoi hi) (zll hi)) hg hb hs) λE σ H hx18_=>by
  obtain ⟨ρ,l,S,f,l',S',sim,ro,hm,p⟩:=hx18_
  obtain ⟨⟨x,S1⟩,q1,hm⟩:=bnd hm
  dsimp only at hm
  split at hm
  ·rename_i xs
   refine .inr ⟨ρ,l,S,.tup xs,S1,sim,ro,q1,λρ1 H1 x' e1 s1 r1=>?_⟩
   cases r1 with
   | @tup xs a vs ha r =>
    refine ⟨a,rfl,⟨vs,SqT.of ha⟩,zl4 (vs:=vs) (λρ' H'=>H' a=some (.tup vs)/\RDs ρ' H' xs vs) (λρ H ρ' H' e ⟨h1,h2⟩=>⟨e.tup _ _ h1,h2.mono e⟩)
     (λi ρ H v ⟨h1,_⟩ hv=>⟨vs,v,SqT.of h1,hv⟩) (λi ρ H v H' ⟨h1,_⟩ _ hy=>⟨hy.1,hy.2 vs (SqT.of h1)⟩) (λρ H ⟨h1,_⟩=>⟨vs,SqT.of h1,qlr _⟩) (λρ H h=>h.2) ⟨ha,r⟩ s1 (ro.mono e1) hm λρ' H' σ' e'=>p ρ' H' σ' (e1.trans e')⟩
  ·rename_i n
   obtain ⟨xs,hx,hm⟩:=bnd hm
   refine .inl ⟨ρ,l,S,.ref n,S1,sim,ro,q1,λρ1 H1 x' e1 s1 r1=>?_⟩
   obtain ⟨a,vs,ha,sq,rv⟩:=s1.lstOf hx
   cases r1 with
   | ref hn =>
    rw [ha] at hn;cases hn
    exact ⟨a,rfl,⟨vs,sq⟩,zzh ha s1 (ro.mono e1) hm (λρ' H' σ' e'=>p ρ' H' σ' (e1.trans e'))⟩
  ·cases hm
theorem ziz {a:Expr}{mA:AM}{p0 pos':Pos}(hp:PassesOwn (model X.prog X.w) X.A X.env X.xe) (hc:X.calm=true) (hgl:Gl X "range") (hmg:X.mg "range" = none) (ha:PA3 X [a] mA) (hg:PG3 X tgt g) (hb:zcn X body b)
  (hs:∀x,foldedSetIterable (.Call (.Name "range" p0) [a] [] pos') X.env x=pure x:=by intro _;rfl) (hst:starEach [a] X.env=[(false,eval a X.env)]:=by rfl):PS3 X (.For tgt (.Call (.Name "range" p0) [a] [] pos') body [] pos) (zdi (zbx mA) g b) :=
 PS.imp (zid hp hc (zok hgl hmg ha hst) hg hb hs) λE σ H hx19_=>by
  obtain ⟨ρ,l,S,f,l',S',sim,ro,hm,p⟩:=hx19_
  obtain ⟨⟨⟨lo,n⟩,S1⟩,q1,hm⟩:=bnd hm
  obtain ⟨⟨xs,S2⟩,q2,q1⟩:=bnd q1
  dsimp only at q1 hm
  split at q1
  ·rename_i j
   obtain ⟨hz,e⟩:=za7 q1
   cases e
   refine ⟨ρ,l,S,[.int j],S1,sim,ro,q2,λρ1 H1 vs e1 s1 r1=>?_⟩
   obtain ⟨v,rfl,rv⟩:=r1.one
   cases rv
   refine ⟨j,rfl,hz.1,hz.2,zl4 (vs:=(List.range j.toNat).map λ(i:Nat)=>V.int (0+i)) (λ_ _=>True) (λ_ _ _ _ _ h=>h) (λi ρ H v _ hv=>?_) (λi ρ H v H' _ hl hy=>⟨hy.1,?_⟩) (λρ H _=>?_) (λρ H _=>zl5 ρ H 0 j.toNat) trivial s1 (ro.mono e1) hm λρ' H' σ' e'=>p ρ' H' σ' (e1.trans e')⟩
   ·have:=(qme hv).1
    simp at this
    show i<j.toNat
    omega
   ·obtain ⟨_,hy⟩:=hy
    exact zqc (by simpa using hl) hy
   ·show j.toNat<=_
    simp
  ·cases q1
theorem zzi {a a2:Expr}{mA:AM}{p0 pos':Pos}(hp:PassesOwn (model X.prog X.w) X.A X.env X.xe) (hc:X.calm=true) (hgl:Gl X "range") (hmg:X.mg "range" = none) (ha:PA3 X [a,a2] mA) (hg:PG3 X tgt g) (hb:zcn X body b)
  (hs:∀x,foldedSetIterable (.Call (.Name "range" p0) [a,a2] [] pos') X.env x=pure x:=by intro _;rfl) (hst:starEach [a,a2] X.env=[(false,eval a X.env),(false,eval a2 X.env)]:=by rfl) (hst2:starEach [a2] X.env=[(false,eval a2 X.env)]:=by rfl):PS3 X (.For tgt (.Call (.Name "range" p0) [a,a2] [] pos') body [] pos) (zdi (zeu mA) g b) :=
 PS.imp (zid hp hc (zws hgl hmg ha hst hst2) hg hb hs) λE σ H hx20_=>by
  obtain ⟨ρ,l,S,f,l',S',sim,ro,hm,p⟩:=hx20_
  obtain ⟨⟨⟨lo,n⟩,S1⟩,q1,hm⟩:=bnd hm
  obtain ⟨⟨xs,S2⟩,q2,q1⟩:=bnd q1
  dsimp only at q1 hm
  split at q1
  ·rename_i i0 j
   obtain ⟨hz,e⟩:=za7 q1
   cases e
   refine ⟨ρ,l,S,[.int lo,.int j],S1,sim,ro,q2,λρ1 H1 vs e1 s1 r1=>?_⟩
   obtain ⟨v,u,rfl,rv,ru⟩:=r1.two
   cases rv;cases ru
   refine ⟨lo,j,rfl,hz,zl4 (vs:=(List.range (j-lo).toNat).map λ(i:Nat)=>V.int (lo+i)) (λ_ _=>True) (λ_ _ _ _ _ h=>h) (λi ρ H v _ hv=>?_) (λi ρ H v H' _ hl hy=>⟨hy.1,?_⟩) (λρ H _=>?_) (λρ H _=>zl5 ρ H lo (j-lo).toNat) trivial s1 (ro.mono e1) hm λρ' H' σ' e'=>p ρ' H' σ' (e1.trans e')⟩
   ·have:=(qme hv).1
    simp at this
    show i<(j-lo).toNat
    omega
   ·obtain ⟨_,hy⟩:=hy
    exact zqc (by simpa using hl) hy
   ·show (j-lo).toNat<=_
    simp
  ·cases q1
end
noncomputable def zb2 (n:Nat) (b:SM):FM:=λds S=>(b (ds.map some++List.replicate (n-ds.length) none) S).bind λp=>match p.1 with
 | .rt d=>some (d,p.2.2)
 | .nx=>some (.non,p.2.2)
 | _=>none
theorem RDs.locals {ρ:List Addr}{H:Hp}{ds:List D}{vs:List V}(r:RDs ρ H ds vs) (N:List Str):RO ρ H (ds.map some++List.replicate (N.length-ds.length) none) (L2.start N vs):=by
 unfold L2.start
 rw [<-r.length]
 refine ⟨by simp [r.length],λi d h=>?_⟩
 by_cases hl:i<ds.length
 ·rw [List.getElem?_append_left (by simpa using hl),qgm] at h
  cases e:ds[i]? with
  | none=>rw [e] at h;cases h
  | some d' =>
   rw [e] at h
   have h':some (some d')=some (some d):=h
   cases h'
   obtain ⟨v,h1,h2⟩:=r.get e
   exact ⟨v,by rw [List.getElem?_append_left (by rw [qlm,<-r.length];exact hl),qgm,h1];rfl,h2⟩
 ·rw [List.getElem?_append_right (by simpa using hl),List.getElem?_replicate] at h
  split at h
  ·cases h
  ·cases h
theorem zqd {P:Program}{w:World}{K:QFg}{mg:Str->Option Value}{base:Heap}{x qual:Str}{st:Stmt}{f:Addr}{fd:FuncData}{N ps:List Str}{k n:Nat}{b:SM}(F:Fun K x qual st f fd) (S:FnScope N ps (za1 st)) (hn:ps.length=n)
  (hbody:∀(cdv:Value),PySem.W.codeIn K cdv qual=true->∀(A:Around) (outer:List Env) (s:Shared) (H:Hp) (E:XK),Room k (A.deeper (envOfC qual (za1 st) s.heap.objs.size f cdv)) ->
   zcn (zb1 CX0 P w K mg base N qual (za1 st) f cdv A outer s H E).nox (zdr st) b):FnOk P w K mg base CX0 (k+1) f fd ps (sp3 K n (zb2 N.length b)):=by
 obtain ⟨oc,od,kV,doc,pm,an,cdv,ct,osl,rfl,lk,hcd⟩:=F.ex
 refine zoz lk hcd S (λvs H Q E h=>by rw [h.1,hn]) λA outer s H vs Q E hr h=>?_
 obtain ⟨hl,ρ,ds,S0,v,S',sim,rd,hm,p⟩:=h
 refine ⟨_,PSs.nox (hbody cdv hcd A outer s H E hr),?_⟩
 obtain ⟨⟨fl,l',S1⟩,q,hm⟩:=bnd hm
 refine ⟨ρ,_,S0,fl,l',S1,sim,rd.locals N,q,λρ' H' σ' e' s' r'=>?_⟩
 cases fl with
 | nx=>cases hm;exact p ρ' H' _ e' s' .non
 | rt d=>cases hm;exact λv' rv=>p ρ' H' v' e' s' rv
 | bk=>cases hm
 | ct=>cases hm
noncomputable def zdj (env:Env):List (Str × NameKind)->List (Str × Addr)->List (Str × Addr)
 | [],cs=>cs
 | (n,k) :: r,cs=>if k == .free then (match env.cells.lookup n with|some c=>zdj env r ((n,c) :: cs)|none=>zdj env r cs) else zdj env r cs
theorem zqe (env:Env):∀(names:List (Str × NameKind)) (cs:List (Str × Addr)),(∀x∈names,x.2=.free->∃c,env.cells.lookup x.1=some c) ->
  (forIn names cs (λx r=>if (x.2 == NameKind.free)=true then do let c <-cellOf env x.1;pure (ForInStep.yield ((x.1,c) :: r)) else pure (ForInStep.yield r)):Sem (List (Str × Addr)))=pure (zdj env names cs)
 | [],cs,_=>rfl
 | (n,k) :: r,cs,h=>by
  have ih:=λcs=>zqe env r cs λx hx=>h x (List.mem_cons_of_mem _ hx)
  rw [List.forIn_cons]
  by_cases hk:k=.free
  ·subst hk
   obtain ⟨c,hc⟩:=h (n,.free) List.mem_cons_self rfl
   simp only [beq_self_eq_true,if_true,cellOf,hc,zdj,pure_bind,bind_assoc]
   exact ih _
  ·have hb:(k == NameKind.free)=false:=by simpa using hk
   simp only [hb,qbf,if_false,zdj,pure_bind]
   exact ih _
theorem zzj (scope:Scope) (env:Env) (h:∀x∈scope.names,x.2=.free->∃c,env.cells.lookup x.1=some c):closureFor scope env=pure (zdj env scope.names []):=by
 have e:=zqe env scope.names [] h
 unfold closureFor
 show (forIn scope.names ([]:List (Str × Addr)) (λ(x:Str × NameKind) (r:List (Str × Addr))=>if (x.2 == NameKind.free)=true then do let c <-cellOf env x.1;pure (ForInStep.yield ((x.1,c) :: r)) else pure (ForInStep.yield r)) >>= λcs=>pure cs)=_
 rw [e,pure_bind]
theorem zkh (env:Env):∀(names:List (Str × NameKind)) (cs:List (Str × Addr)),(∀x c,cs.lookup x=some c->env.cells.lookup x=some c)->∀x c,(zdj env names cs).lookup x=some c->env.cells.lookup x=some c
 | [],cs,h,x,c,q=>h x c q
 | (n,k) :: r,cs,h,x,c,q=>by
  unfold zdj at q
  split at q
  ·split at q
   ·rename_i c' e
    refine zkh env r _ (λy d hy=>?_) x c q
    rw [List.lookup_cons] at hy
    split at hy
    ·rename_i hb
     have:y=n:=by simpa using hb
     cases hy
     rw [this];exact e
    ·exact h y d hy
   ·exact zkh env r cs h x c q
  ·exact zkh env r cs h x c q
theorem zi0 (env:Env):∀(names:List (Str × NameKind)) (cs:List (Str × Addr)) (x:Str),((x,NameKind.free)∈names\/∃c,cs.lookup x=some c)->(∃c,env.cells.lookup x=some c)->∃c,(zdj env names cs).lookup x=some c
 | [],cs,x,h,_=>by
  rcases h with h|h
  ·cases h
  ·exact h
 | (n,k) :: r,cs,x,h,hx=>by
  unfold zdj
  by_cases hk:(k == NameKind.free)=true
  ·rw [if_pos hk]
   split
   ·rename_i c' e
    refine zi0 env r _ x ?_ hx
    by_cases hxn:x=n
    ·exact .inr ⟨c',by rw [hxn,List.lookup_cons];simp⟩
    ·rcases h with h|⟨c,h⟩
     ·rcases List.mem_cons.mp h with h|h
      ·cases h;exact absurd rfl hxn
      ·exact .inl h
     ·exact .inr ⟨c,by
       rw [List.lookup_cons]
       have:(x == n)=false:=by simpa using hxn
       rw [this];exact h⟩
   ·rename_i e
    refine zi0 env r _ x ?_ hx
    rcases h with h|h
    ·rcases List.mem_cons.mp h with h|h
     ·cases h
      obtain ⟨c,hc⟩:=hx
      rw [hc] at e;cases e
     ·exact .inl h
    ·exact .inr h
  ·rw [if_neg hk]
   refine zi0 env r _ x ?_ hx
   rcases h with h|h
   ·rcases List.mem_cons.mp h with h|h
    ·cases h;exact absurd rfl hk
    ·exact .inl h
   ·exact .inr h
noncomputable def cxC (X:Cx) (N':List Str) (scope:Scope) (C:Addr) (s:Shared) (H:Hp) (fp:List Addr) (pins:List (Addr × Obj)):Cx where
 prog:=X.prog
 w:=X.w
 K:=X.K
 mg:=X.mg
 base:=X.base
 A:=X.A
 N:=N'
 s₀:=s
 H₀:=H
 env:=compEnvC scope (zdj X.env scope.names []) C X.env
 outer:=X.stack
 stack:=X.stack
 ex:=fp
 fn:=λ_=>false
 calm:=X.calm
 pn:=X.pn++pins
 xe:=λ_ _=>False
section
variable {prog:Program}{w:World}{A:Around}{R:Result->Shared->Prop}{s:Shared}
theorem zzk {elt target iter:Expr}{ifs:List Expr}{scope:Scope}{pos:Pos}{it acc:Value}{env:Env}(I:Nat->Shared->Prop)
  (turn:∀n s,I n s->wpAny (model prog w) A (pyNext it) (λr s₁=>match r with
   | none=>R (.ok .next) s₁
   | some v=>wpAny (model prog w) A (letOwnedTupleGo target it v) (λ_ s₁'=>wpAny (model prog w) A (assign target env v) (λ_ s₂ =>
     wpAny (model prog w) A (forIn ifs true λc r=>if r=true then do let ok <-isTrue c env (eval c env);pure (ForInStep.yield ok) else pure (ForInStep.yield r)) (λok s₃ =>
      if ok=true then wpAny (model prog w) A (eval elt env) (λx s₄ =>
       wpAny (model prog w) A (call (.builtin "list.append") [acc,x]) (λ_ s₅=>∃m,m<n/\I m s₅) (λ_ _=>False) s₄) (λ_ _=>False) s₃
      else ∃m,m<n/\I m s₃) (λ_ _=>False) s₂) (λ_ _=>False) s₁') (λ_ _=>False) s₁) (λ_ _=>False) s)
  (n:Nat) (h:I n s) :
  codeAny (model prog w) A (.compLoop (.ListComp elt [⟨target,iter,ifs,0⟩] scope pos) 0 it acc env) R s:=by
 refine codeAny_loop rfl I (λn s hI=>?_) n h
 show wpAny _ A ((compTurn (.ListComp elt [⟨target,iter,ifs,0⟩] scope pos) 0 it acc env).onRaise (λx=>do noteFrame x env;theTreesLotGoes x)) _ _ s
 refine wpAny_noted ?_
 rw [compTurn_list]
 refine qwb (wpAny_standAt (qwb (wpAny_mono (turn n s hI) (λr s₁ h₁=>?_) λ_ _ h'=>h'.elim)))
 cases r with
 | none=>exact qwp h₁
 | some v =>
  refine qwb (wpAny_mono h₁ (λ_ s₁' h₁=>?_) λ_ _ h'=>h'.elim)
  refine qwb (wpAny_mono h₁ (λ_ s₂ h₂=>qwb (wpAny_mono h₂ (λok s₃ h₃=>?_) λ_ _ h'=>h'.elim)) λ_ _ h'=>h'.elim)
  cases ok with
  | false=>exact qwp ⟨rfl,h₃⟩
  | true =>
   exact qwb (qwb (wpAny_mono h₃ (λx s₄ h₄=>qwb (wpAny_mono h₄ (λ_ s₅ h₅=>qwp (qwp ⟨rfl,h₅⟩)) λ_ _ h'=>h'.elim)) λ_ _ h'=>h'.elim))
end
def PTs (X:Cx) (ifs:List Expr) (t:TT):Prop:=∀(pins:List (Addr × Obj)) (s:Shared) (σ:St) (H:Hp) (Q:Bool->Hp->Prop),Inv X pins σ H s->t σ H Q ->
 wpAny (model X.prog X.w) X.A (forIn ifs true λc r=>if r=true then do let ok <-isTrue c X.env (eval c X.env);pure (ForInStep.yield ok) else pure (ForInStep.yield r)) (TP X pins σ Q) X.xe s
theorem zzl {X:Cx}:PTs X [] (λ_ H Q=>Q true H):=λ_ _ _ H _ I h=>wpAny_tests_nil ⟨H,I,h⟩
theorem zzm {X:Cx}{c:Expr}{t:TT}(h:PT X c t):PTs X [c] t:=λpins s σ H Q I q=>wpAny_tests_one (h pins s σ H Q I q)
def zki (K:QFg) (wi:TI) (src:St->St) (g:TG) (tts:TT) (t:TE):TE:=λσ H Q=>wi σ H λJ H1=>∀D,H1 D=none->K.lookup D=none->∃W:Nat->Nat->St->Hp->Prop,
 (∃m,W 0 m (src σ) (upd H1 D (.lst [])))/\∀i m σ' H',W i m σ' H' ->
  (J.stop i H'/\Q (.ref D) H')\/(J.go i H'/\∃N:St->Hp->Prop,(∀σ' H',N σ' H'->∃m',m' < m/\W (i+1) m' σ' H') /\
   ∀x H'',J.yld i H' x H''->g x σ' H'' λσ2 H2=>tts σ2 H2 λb H3=>if b=true then t σ2 H3 (λv H4=>∃ys,H4 D=some (.lst ys)/\ys.length<sizeLine/\N σ2 (upd H4 D (.lst (ys++[v])))) else N σ2 H3)
theorem zqf {scope:Scope}{env:Env}:∀{names:List (Str × NameKind)}{x:Str},names.lookup x=some .free ->
  ((names.map λ(n,k)=>if (k == NameKind.free && env.scope.kind == .function && env.kindOf n == some .cell) then (n,NameKind.cell) else (n,k)).lookup x=some .cell \/
   (names.map λ(n,k)=>if (k == NameKind.free && env.scope.kind == .function && env.kindOf n == some .cell) then (n,NameKind.cell) else (n,k)).lookup x=some .free)
 | [],x,h=>by simp at h
 | (n,k) :: r,x,h=>by
  have ih:=@zqf scope env r x
  show List.lookup x ((if (k == NameKind.free && env.scope.kind == .function && env.kindOf n == some .cell)=true then (n,NameKind.cell) else (n,k)) :: _)=_\/List.lookup x ((if (k == NameKind.free && env.scope.kind == .function && env.kindOf n == some .cell)=true then (n,NameKind.cell) else (n,k)) :: _)=_
  cases hx:x == n with
  | true =>
   simp only [List.lookup_cons,hx] at h
   cases h
   by_cases hc:(NameKind.free == NameKind.free && env.scope.kind == .function && env.kindOf n == some .cell)=true
   ·rw [if_pos hc];simp [List.lookup_cons,hx]
   ·rw [if_neg hc];simp [List.lookup_cons,hx]
  | false =>
   simp only [List.lookup_cons,hx] at h
   by_cases hc:(k == NameKind.free && env.scope.kind == .function && env.kindOf n == some .cell)=true
   ·rw [if_pos hc];simp only [List.lookup_cons,hx];exact ih h
   ·rw [if_neg hc];simp only [List.lookup_cons,hx];exact ih h
structure CompSc (X:Cx) (N':List Str) (scope:Scope) (src:St->St):Prop where
 kind:scope.kind=.function
 nocell:∀y∈scope.names,y.2≠.cell
 names:∀y∈scope.names,y.2=.local->scope.names.lookup y.1=some .local
 free:∀y∈scope.names,y.2=.free->X.env.kindOf y.1=some .cell\/X.env.kindOf y.1=some .free
 rel:∀y,(relabel scope X.env).names.lookup y=some .cell\/(relabel scope X.env).names.lookup y=some .free->(y,NameKind.free)∈scope.names
 len:∀σ,(src σ).length=N'.length
 src:∀σ (i:Nat) v x,(src σ)[i]? = some (some v)->N'[i]? = some x->∃j:Nat,X.N[j]? = some x/\σ[j]? = some (some v)/\scope.names.lookup x=some .free
theorem zqg {X:Cx}{N':List Str}{elt iter tgt:Expr}{ifs:List Expr}{scope:Scope}{pos pos':Pos}{use:Option (Value->Sem Unit)}{R:Value->Shared->Prop}{pins:List (Addr × Obj)}{s:Shared}{σ:St}{H:Hp}{Q:VK}{wi:TI}{src:St->St}{g:TG}{tts:TT}{t:TE}(hcalm:X.calm=true) (sc:CompSc X N' scope src)
  (hi:PI X tgt iter wi) (hg:∀C s H fp pins,PG (cxC X N' scope C s H fp pins) tgt g) (ht:∀C s H fp pins,PTs (cxC X N' scope C s H fp pins) ifs tts) (he:∀C s H fp pins,PE (cxC X N' scope C s H fp pins) elt t)
  (hs:∀x,foldedSetIterable iter X.env x=pure x) (I:Inv X pins σ H s) (h:zki X.K wi src g tts t σ H Q)
  (fin:∀D H5 s6 C mC,Inv X pins σ H5 s6->zdo X pins H5 C->s6.heap.Ns C mC->Q (.ref D) H5->compPost (model X.prog X.w) X.A X.xe use R (.ref D) C (.ok .next) s6) :
  wpAny (model X.prog X.w) X.A (comprehension (.ListComp elt [⟨tgt,iter,ifs,0⟩] scope pos) scope X.env pos' (newList []) false (eval iter X.env) use) R X.xe s:=by
 have hasC:∀x∈scope.names,x.2=.free->∃c,X.env.cells.lookup x.1=some c:=λx hx hf=>I.ok.has x.1 (sc.free x hx hf)
 refine wpAny_comprehension_free (use:=use) (env:=X.env) rfl hs (zzj scope X.env hasC) sc.kind sc.names ?_
 show wpAny (model X.prog X.w) X.A (eval iter X.env) _ _ s
 refine wpAny_mono (hi pins s σ H _ I h) (λv s1 h1=>wpAny_mono h1 (λitv s2 h2=>?_) λ_ _ z=>z) λ_ _ z=>z
 obtain ⟨it,fp,tn,J,H2,rfl,I2,T,st2,f2,q⟩:=h2
 refine wpAny_newObj_type ?_ (by show 0<=sizeLine;exact Nat.zero_le _)
 have hD:H2 s2.heap.objs.size=none:=I2.hok.fresh (qlr _)
 have I3:Inv X pins σ (upd H2 s2.heap.objs.size (.lst [])) { s2 with heap:=s2.heap.push { cls:=.type "list",data:=.seq ([]:List Value).toArray } }:=I2.lnew (t':=s2.toks) .nil (Nat.zero_le _)
 obtain ⟨W,⟨m0,w0⟩,turn⟩:=q s2.heap.objs.size hD (by
  cases e:X.K.lookup s2.heap.objs.size with
  | none=>rfl
  | some o=>exact absurd (Heap.lt_size (I2.kIn _ o e)) (Nat.lt_irrefl _))
 refine wpAny_newFunctionEnv sc.nocell (by intro y hy;simp at hy) (λh' hns hsb=>?_) sc.kind
 have fpIn:∀b∈fp,∃o,s2.heap.get? b=some o/\∀v,o.data≠.cell v:=T.obj 0 s2.heap st2
 have fpD:∀b∈fp,b≠s2.heap.objs.size:=λb hb=>let ⟨o,e,_⟩:=fpIn b hb;Nat.ne_of_lt (Heap.lt_size e)
 have f3:∀b∈fp,zdo X pins (upd H2 s2.heap.objs.size (.lst [])) b:=λb hb=>⟨by rw [zap (fpD b hb)];exact (f2 b hb).1,(f2 b hb).2⟩
 have st3:tn 0 (s2.heap.push { cls:=.type "list",data:=.seq ([]:List Value).toArray }):=T.keep _ _ _ st2 λb hb o e=>qps _ e
 clear q hD h st2 f2 fpD
 generalize upd H2 s2.heap.objs.size (.lst [])=H3 at *
 generalize hDe:s2.heap.objs.size=D at *
 have fpIn3:∀b∈fp,∃o,(s2.heap.push { cls:=.type "list",data:=.seq ([]:List Value).toArray }).get? b=some o/\∀v,o.data≠.cell v:=T.obj 0 _ st3
 clear fpIn
 generalize s2.heap.push { cls:=.type "list",data:=.seq ([]:List Value).toArray }=h3 at *
 have old:∀b o,h3.get? b=some o->h'.get? b=some o:=λb o e=>hsb.extBut b o (Nat.ne_of_lt (Heap.lt_size e)) (qps _ e)
 have stkNo:∀b,b≠X.env.locals->b ∉ X.fs->b ∉ frs X.stack:=λb h1 h2 hb=>by
  rcases List.mem_cons.mp (I3.stkSub b hb) with z|z
  ·exact h1 z
  ·exact h2 z
 have sub:=zkh X.env scope.names [] (λx c z=>by simp at z)
 have cNe:∀b o,h3.get? b=some o->b≠h3.objs.size:=λb o e=>Nat.ne_of_lt (Heap.lt_size e)
 have I4:Inv (cxC X N' scope h3.objs.size { s2 with heap:=h3 } H3 fp pins) [] (src σ) H3 { s2 with heap:=h',toks:=s2.toks+([]:List (Str × Value)).length }:=by
  refine ⟨⟨I3.ok.mod,sc.kind,I3.ok.glob,I3.ok.blt,qlr _,λx y c h1 h2=>I3.ok.inj x y c (sub x c h1) (sub y c h2),λx hx=>?_,λx c z=>absurd (show false=true from z) Bool.false_ne_true,I3.ok.hd,I3.ok.frames,.inl rfl,λb hb=>⟨?_,λx c z=>(f3 b hb).2.2.2.2.1 x c (sub x c z)⟩,λb o e=>I3.bs b o e,Nat.le_trans I3.ok.bsz I3.sz,λb o e hb=>?_,λb hb=>stkNo b (f3 b hb).2.1 (f3 b hb).2.2.1,I3.stack,I3.stkFree⟩,
   rfl,I3.bare,Un.kept old,⟨_,hns,λi x v h1 h2 h3'=>?_⟩,λx c z=>?_,I3.hok.fresh (qlr _),λx c z=>I3.freeC x c (sub x c z),λp hp=>?_,I3.hok.kept old,sc.len σ⟩
  ·have hm:=sc.rel x hx
   exact zi0 X.env scope.names [] x (.inl hm) (hasC _ hm rfl)
  ·obtain ⟨o,e,_⟩:=fpIn3 b hb
   exact cNe b o e
  ·rcases (f3 b hb).2.2.2.1 with z|z
   ·exact I3.ok.noex b o e z
   ·have:=Heap.lt_size (I3.ok.bs b o e).1
    exact absurd (Nat.lt_of_lt_of_le this z) (Nat.lt_irrefl _)
  ·obtain ⟨j,e1,e2,e3⟩:=sc.src σ i v x h2 h1
   obtain ⟨m,hn,hl⟩:=I3.loc
   have hmem:=PySem.mem_of_lookup e3
   have hk:=sc.free (x,.free) hmem rfl
   have vis:Vis X.env.scope x:=by
    rcases hk with k|k
    ·exact .inr (.inl k)
    ·exact .inr (.inr k)
   obtain ⟨u,r,lk⟩:=hl j x v e1 e2 vis
   refine ⟨u,r,.inr ⟨?_,?_⟩⟩
   ·exact zqf (scope:=scope) e3
   ·rcases lk with ⟨k,_⟩|⟨_,c,hc,hcell⟩
    ·rcases hk with k' | k' <;> (rw [k] at k';cases k')
    ·obtain ⟨c',hc'⟩:=zi0 X.env scope.names [] x (.inl hmem) ⟨c,hc⟩
     have:=sub x c' hc'
     rw [hc] at this;cases this
     obtain ⟨o,ho,hd⟩:=hcell
     exact ⟨c,hc',o,old _ _ ho,hd⟩
  ·obtain ⟨v,o,ho,hd⟩:=I3.cell x c (sub x c z)
   exact ⟨v,o,old _ _ ho,hd⟩
  ·have hp':p∈X.pn++pins:=by simpa [cxC] using hp
   obtain ⟨e,n,ne,nf,d⟩:=I3.pin p hp'
   exact ⟨old _ _ e,n,cNe _ _ e,stkNo _ ne nf,d⟩
 have st4:tn 0 h':=T.keep _ _ _ st3 λb hb o e=>old b o e
 have fr4:∀b∈fp,H3 b=none:=λb hb=>(f3 b hb).1
 have stat:∀{H':Hp},(∀b∈fp,H' b=none)->∀b∈fp,zdo (cxC X N' scope h3.objs.size { s2 with heap:=h3 } H3 fp pins) [] H' b:=λhn b hb=>by
  obtain ⟨g0,g1,g2,g3,g4,g5⟩:=f3 b hb
  obtain ⟨o,e,_⟩:=fpIn3 b hb
  exact ⟨hn b hb,cNe b o e,stkNo b g1 g2,.inl hb,λx c z=>g4 x c (sub x c z),λp hp=>g5 p (by simpa [cxC] using hp)⟩
 have loop:codeAny (model X.prog X.w) X.A (.compLoop (.ListComp elt [⟨tgt,iter,ifs,0⟩] scope pos) 0 (.ref it) (.ref D) (compEnvC scope (zdj X.env scope.names []) h3.objs.size X.env))
   (compPost (model X.prog X.w) X.A X.xe use R (.ref D) h3.objs.size) { s2 with heap:=h',toks:=s2.toks+([]:List (Str × Value)).length }:=by
  refine zzk (λn s'=>∃i σ' H',Inv (cxC X N' scope h3.objs.size { s2 with heap:=h3 } H3 fp pins) [] σ' H' s'/\tn i s'.heap/\(∀b∈fp,H' b=none)/\W i n σ' H') ?_ m0 ⟨0,src σ,H3,I4,st4,fr4,w0⟩
  rintro n s5 ⟨i,σ5,H5,I5,st5,fr5,w5⟩
  rcases turn i n σ5 H5 w5 with ⟨stop,qn⟩|⟨go,N,hN,step⟩
  ·refine wpAny_mono (T.done (cxC X N' scope h3.objs.size { s2 with heap:=h3 } H3 fp pins) rfl rfl rfl hcalm i [] s5 σ5 H5 (λ_ _=>False) I5 (stat fr5) st5 stop) (λr s6 hr=>?_) λ_ _ z=>z
   obtain ⟨hr,I6⟩:=hr
   subst hr
   obtain ⟨mC,hnC,_⟩:=I6.loc
   have IX:Inv X pins σ H5 s6:=I3.call' (s':=s6) (ch:=fp) I6.os I6.base I6.hok I6.bare λb hb=>⟨(f3 b hb).2.2.2.1,(f3 b hb).2.1,(f3 b hb).2.2.2.2.1,(f3 b hb).2.2.2.2.2⟩
   exact fin D H5 s6 h3.objs.size mC IX (I3.fpOk (qlr _) I6.free) hnC qn
  ·refine wpAny_mono (T.item (cxC X N' scope h3.objs.size { s2 with heap:=h3 } H3 fp pins) rfl rfl rfl hcalm i [] s5 σ5 H5 (λ_ _=>False) I5 (stat fr5) st5 go) (λr s6 hr=>?_) λ_ _ z=>z
   obtain ⟨u,hr,h6⟩:=hr
   subst hr
   refine wpAny_mono h6 (λ_ s7 h7=>?_) λ_ _ z=>z
   obtain ⟨x,H7,I7,r7,y7,st7,fr7⟩:=h7
   have I7':=I7.pinned (stat fr7) (T.obj _ _ st7)
   refine wpAny_mono (hg _ _ _ _ _ _ s7 σ5 H7 x u _ I7' r7 (step x H7 y7)) (λ_ s8 h8=>?_) λ_ _ z=>z
   obtain ⟨σ8,H8,I8,q8⟩:=h8
   have again:∀{H9:Hp} {s9:Shared},Inv (cxC X N' scope h3.objs.size { s2 with heap:=h3 } H3 fp pins) ([]++zic fp s7.heap) σ8 H9 s9->N σ8 H9->∃m,m<n/\∃i σ' H',Inv (cxC X N' scope h3.objs.size { s2 with heap:=h3 } H3 fp pins) [] σ' H' s9/\tn i s9.heap/\(∀b∈fp,H' b=none)/\W i m σ' H':=λ{H9 s9} I9 n9=>by
    obtain ⟨m',hm,w9⟩:=hN σ8 H9 n9
    refine ⟨m',hm,i+1,σ8,H9,I9.unpinned,T.keep _ _ _ st7 λb hb o e=>(I9.pin (b,o) (List.mem_append_right _ (List.mem_append_right _ (zjy hb e)))).1,λb hb=>?_,w9⟩
    obtain ⟨o,e,d⟩:=T.obj _ _ st7 b hb
    exact (I9.pin (b,o) (List.mem_append_right _ (List.mem_append_right _ (zjy hb e)))).2.1
   refine wpAny_mono (ht _ _ _ _ _ _ s8 σ8 H8 _ I8 q8) (λok s9 h9=>?_) λ_ _ z=>z
   obtain ⟨H9,I9,q9⟩:=h9
   cases ok with
   | false=>exact again I9 q9
   | true =>
    refine wpAny_mono (he _ _ _ _ _ _ s9 σ8 H9 _ I9 q9) (λy s10 h10=>?_) λ_ _ z=>z
    obtain ⟨vy,H10,I10,r10,ys,hys,hz,nx⟩:=h10
    refine wpAny_mono (zpd (X:=cxC X N' scope h3.objs.size { s2 with heap:=h3 } H3 fp pins) _ s10 σ8 H10 (.ref D) [vy] (.ref D) [y] (λ_ H'=>N σ8 H') I10 rfl (.cons r10 .nil) ⟨D,ys,vy,rfl,rfl,hys,hz,nx⟩) (λ_ s11 h11=>?_) λ_ _ z=>z
    obtain ⟨_,H11,I11,_,n11⟩:=h11
    exact again I11 n11
 exact codeAny_compStart_list loop (T.self _ 0 _ _ _ st4 loop)
theorem zzn {X:Cx}{N':List Str}{elt iter tgt:Expr}{ifs:List Expr}{scope:Scope}{pos:Pos}{wi:TI}{src:St->St}{g:TG}{tts:TT}{t:TE}(hcalm:X.calm=true) (sc:CompSc X N' scope src)
  (hi:PI X tgt iter wi) (hg:∀C s H fp pins,PG (cxC X N' scope C s H fp pins) tgt g) (ht:∀C s H fp pins,PTs (cxC X N' scope C s H fp pins) ifs tts) (he:∀C s H fp pins,PE (cxC X N' scope C s H fp pins) elt t)
  (hs:∀x,foldedSetIterable iter X.env x=pure x:=by intro _;rfl):PE X (.ListComp elt [⟨tgt,iter,ifs,0⟩] scope pos) (zki X.K wi src g tts t):=by
 intro pins s σ H Q I h
 rw [eval_ListComp]
 refine zqg (use:=none) hcalm sc hi hg ht he hs I h λD H5 s6 C mC IX fp hn q=>⟨mC,hn,λh'' sb=>⟨.ref D,H5,?_,rfl,q⟩⟩
 exact IX.turned (t':=s6.toks) (λb o hb e=>sb.extBut b o hb e) fp.1 fp.2.1 fp.2.2.2.1 fp.2.2.2.2.1 fp.2.2.2.2.2
theorem zzo {X:Cx}{N':List Str}{elt iter tgt:Expr}{ifs:List Expr}{scope:Scope}{pos spos py:Pos}{wi:TI}{src:St->St}{g:TG}{tts:TT}{t:TE}{i:Nat}{y:Str}(hN:X.N.Nodup) (hi':X.N[i]? = some y) (hx:Loc X.env.scope y)
  (hsw:swapsWith (.ListComp elt [⟨tgt,iter,ifs,0⟩] scope pos) (some (.Name y py)) spos.line X.env=pure true) (hf:X.fn y=true\/X.env.scope.names.lookup y=some .local)
  (hcalm:X.calm=true) (sc:CompSc X N' scope src)
  (hi:PI X tgt iter wi) (hg:∀C s H fp pins,PG (cxC X N' scope C s H fp pins) tgt g) (ht:∀C s H fp pins,PTs (cxC X N' scope C s H fp pins) ifs tts) (he:∀C s H fp pins,PE (cxC X N' scope C s H fp pins) elt t)
  (hs:∀x,foldedSetIterable iter X.env x=pure x:=by intro _;rfl):PS X (.Assign [.Name y py] (.ListComp elt [⟨tgt,iter,ifs,0⟩] scope pos) spos) (zlj (zki X.K wi src g tts t) (zli i)):=by
 intro pins s σ H D I h
 rw [exec_Assign_Name_used _ _ _ _ hsw]
 refine qwb (wpAny_standAt (qwb ?_))
 show wpAny _ X.A (do let _ <-comprehension (.ListComp elt [⟨tgt,iter,ifs,0⟩] scope pos) scope X.env _ (newList []) false (eval iter X.env) (some (assign (.Name y py) X.env))) _ _ s
 refine qwb (wpAny_mono (zqg (use:=some (assign (.Name y py) X.env)) (R:=λ_ s'=>SP X pins D .next s') hcalm sc hi hg ht he hs I h λD' H5 s6 C mC IX fp hn q=>?_) (λ_ s' hq=>qwp (qwp hq)) λ_ _ e=>e)
 show wpAny _ X.A (assign (.Name y py) X.env (.ref D')) _ _ s6
 refine wpAny_assign_Name (zoc (v:=.ref D') IX hN hi' hx rfl (λs' I' ha=>?_) hf)
 obtain ⟨a,sb,ha⟩:=ha
 have hCa:C≠a:=by
  rcases ha with ha|ha
  ·rw [ha];exact fp.2.1
  ·exact λz=>fp.2.2.2.2.1 y a ha z.symm
 refine ⟨mC,hn.sameBut sb hCa,λh'' sb''=>⟨_,H5,?_,q⟩⟩
 exact I'.turned (t':=s'.toks) (λb o hb e=>sb''.extBut b o hb e) fp.1 fp.2.1 fp.2.2.2.1 fp.2.2.2.2.1 fp.2.2.2.2.2
section
variable {K:QFg}{ρ ρ':List Addr}{H H':Hp}{S:Sto}
theorem Sim.notin {a:Addr}(s:Sim K ρ S H) (h1:H a=none) (h2:K.lookup a=none):∀n:Nat,ρ[n]?≠some a:=λn hn=>by
 have hl:n<S.length:=by rw [<-s.len];exact (qme hn).1
 have q:=s.at' n a _ hn (qge hl)
 cases e:S[n] with
 | lst xs=>rw [e] at q;obtain ⟨vs,z,_⟩:=q;rw [h1] at z;cases z
 | flst xs =>
  rw [e] at q
  obtain ⟨vs,z,_⟩:=q
  rcases z with ⟨o,z⟩|⟨o,_,_,z,_⟩
  ·rw [h1] at z;cases z
  ·rw [h2] at z;cases z
 | iset g m=>rw [e] at q;have q:H a=_:=q;rw [h1] at q;cases q
 | dct kvs=>rw [e] at q;obtain ⟨vs,z,_⟩:=q;rw [h1] at z;cases z
 | tdct kvs=>rw [e] at q;obtain ⟨vs,z,_⟩:=q;rw [h1] at z;cases z
 | fdct kvs=>rw [e] at q;obtain ⟨o,vs,z,_⟩:=q;rw [h1] at z;cases z
 | ftdct kvs=>rw [e] at q;obtain ⟨o,vs,z,_⟩:=q;rw [h1] at z;cases z
 | tset ks=>rw [e] at q;obtain ⟨xs,_,z,_⟩:=q;rw [h1] at z;cases z
 | fnc x=>rw [e] at q;obtain ⟨_,o,z⟩:=q;rw [h2] at z;cases z
 | exc c=>rw [e] at q;obtain ⟨C,_,z⟩:=q;rw [h1] at z;cases z
theorem Sim.adopt {a:Addr}{xs:List D}{vs:List V}(s:Sim K ρ S H) (ha:H a=some (.lst vs)) (hn:∀n:Nat,ρ[n]?≠some a) (r:RDs ρ H xs vs):Sim K (ρ++[a]) (S++[.lst xs]) H:=by
 refine ⟨by simp [s.len],λi j b x1 x2 h1 h2 h3 h4 m1 m2=>?_,λn b o h1 h2=>?_⟩
 ·rcases za8 h1 with g1|⟨e1,f1⟩ <;> rcases za8 h2 with g2|⟨e2,f2⟩
  ·rcases za8 h3 with h3|⟨e3,_⟩ <;> rcases za8 h4 with h4|⟨e4,_⟩
   ·exact s.nd i j b _ _ g1 g2 h3 h4 m1 m2
   ·have:=(qme g2).1;have:=s.len;omega
   ·have:=(qme g1).1;have:=s.len;omega
   ·omega
  ·subst f2;exact absurd g1 (hn i)
  ·subst f1;exact absurd g2 (hn j)
  ·omega
 ·rcases za8 h1 with h1|⟨e1,f1⟩
  ·rcases za8 h2 with h2|⟨e2,f2⟩
   ·exact (s.at' n b o h1 h2).more ext0_push
   ·have:=(qme h1).1;have:=s.len;omega
  ·subst f1
   rcases za8 h2 with h2|⟨e2,f2⟩
   ·have:=(qme h2).1;have:=s.len;omega
   ·subst f2
    exact ⟨vs,ha,r.mono0 ext0_push⟩
theorem Sim.beside {a:Addr}{ys:List V}{u:HO}(s:Sim K ρ S H) (ha:H a=some (.lst ys)) (hn:∀n:Nat,ρ[n]?≠some a):Sim K ρ S (upd H a u) :=
 ⟨s.len,s.nd,λn b o h1 h2=>(s.at' n b o h1 h2).written ha λ_ z=>hn n (by rw [h1,z])⟩
theorem Ext.beside {a:Addr}{ys:List V}{u:HO}{ρ0:List Addr}{H0:Hp}(e:Ext ρ0 H0 ρ H) (h0:H0 a=none) (ha:H a=some (.lst ys)):Ext ρ0 H0 ρ (upd H a u) :=
 ⟨⟨e.pre,λb vs h=>by rw [zap (zd7 (e.tup b vs h) ha (by intro z;cases z))];exact e.tup b vs h,λb o vs h=>by rw [zap (zd7 (e.frz b o vs h) ha (by intro z;cases z))];exact e.frz b o vs h⟩,λb vs h n=>⟨by rw [zap (zbd h h0)];exact (e.out b vs h n).1,(e.out b vs h n).2⟩⟩
theorem Ext.adopt {a:Addr}{ρ0:List Addr}{H0:Hp}(e:Ext ρ0 H0 ρ H) (h0:H0 a=none):Ext ρ0 H0 (ρ++[a]) H :=
 ⟨⟨λn b h=>(ext0_push (H:=H)).pre n b (e.pre n b h),e.tup,e.frz⟩,λb vs h n=>⟨(e.out b vs h n).1,λi hi=>by
  rcases za8 hi with hi|⟨_,z⟩
  ·exact (e.out b vs h n).2 i hi
  ·rw [z,h0] at h;cases h⟩⟩
end
abbrev ItM:=Nat->Sto->Option (Option D)
abbrev IM:=Lo->Sto->Option (ItM × Nat × Sto)
def zev (K:QFg) (ρ:List Addr) (H:Hp) (it:ItM) (J:It):Prop:=∀(i:Nat) ρ' S' H',Ext ρ H ρ' H'->Sim K ρ' S' H' ->
 (it i S' = some none->J.stop i H')/\∀x,it i S' = some (some x)->J.go i H'/\∀y H'',J.yld i H' y H''->H'' = H'/\RD ρ' H' x y
inductive ti (K:QFg) (im:IM) (σ:St) (H:Hp) (R:It->Hp->Prop):Prop
 | mk (ρ:_) (l:_) (S:_) (it:_) (k:_) (S':_) (_:Sim K ρ S H) (_:RO ρ H l σ) (_:im l S=some (it,k,S')) (_:∀ρ' H' J,Ext ρ H ρ' H'->Sim K ρ' S' H'->zev K ρ' H' it J->R J H')
def PI3 (X:Cx) (tgt iter:Expr) (im:IM):Prop:=PI X tgt iter (ti X.K im)
theorem PI.imp {X:Cx}{tgt iter:Expr}{t u:TI}(h:PI X tgt iter t) (i:∀σ H R,u σ H R->t σ H R):PI X tgt iter u:=λpins s σ H Q I q=>h pins s σ H Q I (i _ _ _ q)
noncomputable def itX (xs:List D):ItM:=λi _=>some xs[i]?
noncomputable def itL (n:Nat):ItM:=λi S=>(lstOf S n).bind λxs=>some xs[i]?
noncomputable def zec (e:EM):IM:=λl S=>(e l S).bind λp=>match p.1 with
 | .tup xs=>some (itX xs,xs.length+1,p.2)
 | .ref n=>(lstOf p.2 n).bind λxs=>some (itL n,xs.length+1,p.2)
 | _=>none
noncomputable def zew (r:Lo->Sto->Option ((Int × Nat) × Sto)):IM:=λl S=>(r l S).bind λp=>some (itX (za3 p.1.1 p.1.2),p.1.2+1,p.2)
section
variable {K:QFg}
theorem zl6 {ρ:List Addr}{H:Hp}{a:Addr}{xs:List D}{vs:List V}(ha:H a=some (.tup vs)) (r:RDs ρ H xs vs):zev K ρ H (itX xs) (Itt K a):=by
 intro i ρ' S' H' e s
 have ha':=SqT.of (K:=K) (e.tup _ _ ha)
 have r':=r.mono e
 refine ⟨λh=>?_,λx h=>?_⟩
 ·have h:xs[i]? = none:=qoi h
  exact ⟨vs,ha',by rw [<-r.length];exact List.getElem?_eq_none_iff.mp h⟩
 ·have h:xs[i]? = some x:=qoi h
  obtain ⟨v,hv,rv⟩:=r'.get h
  refine ⟨⟨vs,v,ha',hv⟩,λy H'' ⟨e1,e2⟩=>⟨e1,?_⟩⟩
  have:=e2 vs ha'
  rw [hv] at this;cases this
  exact rv
theorem zl7 {ρ:List Addr}{H:Hp}{a:Addr}{n:Nat}(ha:ρ[n]? = some a):zev K ρ H (itL n) (Itl K a):=by
 intro i ρ' S' H' e s
 have ha':=e.pre _ _ ha
 refine ⟨λh=>?_,λx h=>?_⟩
 ·obtain ⟨xs,h1,h⟩:=bnd h
  have h:xs[i]? = none:=qoi h
  obtain ⟨b,vs,hb,sq,r⟩:=s.lstOf h1
  rw [ha'] at hb;cases hb
  exact ⟨vs,sq,by rw [<-r.length];exact List.getElem?_eq_none_iff.mp h⟩
 ·obtain ⟨xs,h1,h⟩:=bnd h
  have h:xs[i]? = some x:=qoi h
  obtain ⟨b,vs,hb,sq,r⟩:=s.lstOf h1
  rw [ha'] at hb;cases hb
  obtain ⟨v,hv,rv⟩:=r.get h
  refine ⟨⟨vs,v,sq,hv⟩,λy H'' ⟨e1,e2⟩=>⟨e1,?_⟩⟩
  have:=e2 vs sq
  rw [hv] at this;cases this
  exact rv
theorem zzp {ρ:List Addr}{H:Hp}{lo:Int}{n:Nat}:zev K ρ H (itX (za3 lo n)) (Itr lo n):=by
 intro i ρ' S' H' e s
 refine ⟨λh=>?_,λx h=>?_⟩
 ·have h:(za3 lo n)[i]? = none:=qoi h
  have:=List.getElem?_eq_none_iff.mp h
  simp [za3] at this
  exact this
 ·have h:(za3 lo n)[i]? = some x:=qoi h
  have hl:=(qme h).1
  simp only [za3,qlm,List.length_range] at hl
  refine ⟨hl,λy H'' ⟨e1,e2⟩=>⟨e1,?_⟩⟩
  unfold za3 at h
  rw [qgm,List.getElem?_range hl] at h
  cases h
  rw [e2]
  exact .int _
end
section
variable {X:Cx}{tgt iter:Expr}{m:EM}{mA:AM}{p0 pos':Pos}{a a2:Expr}
theorem zl8 (hi:PE3 X iter m):PI3 X tgt iter (zec m):=PI.imp (PI.or (zoi hi) (zll hi)) λσ H R hx1_=>by
 obtain ⟨ρ,l,S,it,k,S',sim,ro,hm,p⟩:=hx1_
 obtain ⟨⟨x,S1⟩,q1,hm⟩:=bnd hm
 dsimp only at hm
 split at hm
 ·rename_i xs
  cases hm
  refine .inr ⟨ρ,l,S,.tup xs,_,sim,ro,q1,λρ1 H1 x' e1 s1 r1=>?_⟩
  cases r1 with
  | @tup xs a vs ha r=>exact ⟨a,rfl,⟨vs,SqT.of ha⟩,p ρ1 H1 _ e1 s1 (zl6 ha r)⟩
 ·rename_i n
  obtain ⟨xs,hx,hm⟩:=bnd hm
  cases hm
  refine .inl ⟨ρ,l,S,.ref n,_,sim,ro,q1,λρ1 H1 x' e1 s1 r1=>?_⟩
  obtain ⟨a,vs,ha,sq,rv⟩:=s1.lstOf hx
  cases r1 with
  | ref hn =>
   rw [ha] at hn;cases hn
   exact ⟨a,rfl,⟨vs,sq⟩,p ρ1 H1 _ e1 s1 (zl7 ha)⟩
 ·cases hm
theorem zi1 (hgl:Gl X "range") (hmg:X.mg "range" = none) (ha:PA3 X [a] mA) (hst:starEach [a] X.env=[(false,eval a X.env)]:=by rfl):PI3 X tgt (.Call (.Name "range" p0) [a] [] pos') (zew (zbx mA)) :=
 PI.imp (zok hgl hmg ha hst) λσ H R hx2_=>by
  obtain ⟨ρ,l,S,it,k,S',sim,ro,hm,p⟩:=hx2_
  obtain ⟨⟨⟨lo,n⟩,S1⟩,q1,hm⟩:=bnd hm
  cases hm
  obtain ⟨⟨xs,S2⟩,q2,q1⟩:=bnd q1
  dsimp only at q1
  split at q1
  ·rename_i j
   obtain ⟨hz,e⟩:=za7 q1
   cases e
   refine ⟨ρ,l,S,[.int j],_,sim,ro,q2,λρ1 H1 vs e1 s1 r1=>?_⟩
   obtain ⟨v,rfl,rv⟩:=r1.one
   cases rv
   exact ⟨j,rfl,hz.1,hz.2,p ρ1 H1 _ e1 s1 zzp⟩
  ·cases q1
end
noncomputable def zdv (it:ItM) (g:GM) (t:TM) (e:EM):Nat->Nat->Lo->Sto->Option (List D × Sto)
 | 0,_,_,_=>none
 | k+1,i,l,S=>(it i S).bind λo=>match o with
  | none=>some ([],S)
  | some x=>(g x l S).bind λp=>(t p.1 p.2).bind λq=>if q.1=true then (e p.1 q.2).bind λr=>(zdv it g t e k (i+1) p.1 r.2).bind λz=>some (r.1 :: z.1,z.2) else zdv it g t e k (i+1) p.1 q.2
noncomputable def zbn {α:Type}(ixs:List (Option Nat)) (l:List (Option α)):List (Option α):=ixs.map λo=>match o with
 | some j=>(l[j]?).join
 | none=>none
noncomputable def zcq (im:IM) (ixs:List (Option Nat)) (g:GM) (t:TM) (e:EM):EM:=λl S=>(im l S).bind λp=>(zdv p.1 g t e p.2.1 0 (zbn ixs l) p.2.2).bind λz=>if z.1.length<=sizeLine then some (.ref z.2.length,z.2++[.lst z.1]) else none
noncomputable def zd3:TM:=λ_ S=>some (true,S)
theorem zzq {ρ:List Addr}{H:Hp}{l:Lo}{σ:St}(ixs:List (Option Nat)) (r:RO ρ H l σ):RO ρ H (zbn ixs l) (zbn ixs σ):=by
 refine ⟨by simp [zbn],λi d h=>?_⟩
 unfold zbn at h ⊢
 rw [qgm] at h ⊢
 cases e:ixs[i]? with
 | none=>rw [e] at h;cases h
 | some o =>
  rw [e] at h
  cases o with
  | none=>cases h
  | some j =>
   have h:((l[j]?).join:Option D)=some d:=qoi h
   cases e2:l[j]? with
   | none=>rw [e2] at h;cases h
   | some o2 =>
    rw [e2] at h
    have h:o2=some d:=h
    subst h
    obtain ⟨v,h1,h2⟩:=r.get j d e2
    exact ⟨v,by show some ((σ[j]?).join)=_;rw [h1];rfl,h2⟩
inductive CI3 (K:QFg) (it:ItM) (g:GM) (t:TM) (e:EM) (S2:Sto) (all:List D) (ρ1:List Addr) (H1:Hp) (Da:Addr) (i m:Nat) (σ':St) (H':Hp):Prop
 | mk (ρ':List Addr) (l':Lo) (S':Sto) (ds:List D) (vs:List V) (rest:List D) (_:Ext ρ1 H1 ρ' H') (_:Sim K ρ' S' H') (_:RO ρ' H' l' σ') (_:H' Da=some (.lst vs)) (_:(∀n:Nat,ρ'[n]?≠some Da)) (_:RDs ρ' H' ds vs) (_:zdv it g t e m i l' S' = some (rest,S2)) (_:ds++rest=all)
theorem zqh {K:QFg}{im:IM}{ixs:List (Option Nat)}{g:GM}{t:TM}{e:EM}(σ:St) (H:Hp) (Q:VK) (q:te K (zcq im ixs g t e) σ H Q):zki K (ti K im) (zbn ixs) (tg K g) (tt K t) (te K e) σ H Q:=by
 obtain ⟨ρ,l,S,v,S',sim,ro,hm,p⟩:=q
 obtain ⟨⟨it,k,S1⟩,q1,hm⟩:=bnd hm
 obtain ⟨⟨all,S2⟩,q2,hm⟩:=bnd hm
 obtain ⟨hz,he⟩:=za7 hm
 cases he
 refine ⟨ρ,l,S,it,k,S1,sim,ro,q1,λρ1 H1 J e1 s1 io D hD hK=>?_⟩
 dsimp only at q2 hz p
 refine ⟨λi m σ' H'=>CI3 K it g t e S2 all ρ1 H1 D i m σ' H',⟨k,?_⟩,?_⟩
 ·exact ⟨ρ1,zbn ixs l,S1,[],[],all,zcc hD,s1.laid hD,(zzq ixs (ro.mono e1)).mono (zcc hD),zbw,s1.notin hD hK,.nil,q2,rfl⟩
 ·rintro i m σ' H' ⟨ρ',l',S',ds,vs,rest,e2,s2,ro2,hD2,hn2,rd2,hc,hall⟩
  cases m with
  | zero=>cases hc
  | succ m =>
   unfold zdv at hc
   obtain ⟨o,ho,hc⟩:=bnd hc
   obtain ⟨iStop,iGo⟩:=io i ρ' S' H' e2 s2
   cases o with
   | none =>
    cases hc
    rw [List.append_nil] at hall
    subst hall
    refine .inl ⟨iStop ho,p (ρ'++[D]) H' (.ref D) (e1.trans (e2.adopt hD)) (s2.adopt hD2 hn2 rd2) (.ref ?_)⟩
    rw [<-s2.len];exact zd0 ρ' D
   | some x =>
    obtain ⟨⟨l3,S3⟩,q3,hc⟩:=bnd hc
    obtain ⟨⟨b,S4⟩,q4,hc⟩:=bnd hc
    obtain ⟨hgo,hy⟩:=iGo x ho
    refine .inr ⟨hgo,_,λσ' H' h=>h,λy H'' hyl=>?_⟩
    obtain ⟨rfl,ry⟩:=hy y H'' hyl
    refine ⟨ρ',l',S',x,l3,S3,s2,ro2,ry,q3,λρ3 H3 σ3 e3 s3 ro3=>⟨ρ3,l3,S3,b,S4,s3,ro3,q4,λρ4 H4 e4 s4=>?_⟩⟩
    obtain ⟨hD3,hn3⟩:=e3.out D _ hD2 hn2
    obtain ⟨hD4,hn4⟩:=e4.out D _ hD3 hn3
    cases b with
    | false=>exact zfb ⟨m,Nat.lt_succ_self m,ρ4,l3,S4,ds,vs,rest,e2.trans (e3.trans e4),s4,ro3.mono e4,hD4,hn4,rd2.mono (e3.trans e4),hc,hall⟩
    | true =>
     have hc:((e l3 S4).bind λr=>(zdv it g t e m (i+1) l3 r.2).bind λz=>some (r.1 :: z.1,z.2))=some (rest,S2):=hc
     obtain ⟨⟨y5,S5⟩,q5,hc⟩:=bnd hc
     obtain ⟨⟨rest',S6⟩,q6,hc⟩:=bnd hc
     cases hc
     refine zfc ⟨ρ4,l3,S4,y5,S5,s4,ro3.mono e4,q5,λρ5 H5 v5 e5 s5 r5=>?_⟩
     obtain ⟨hD5,hn5⟩:=e5.out D _ hD4 hn4
     have e25:=e2.trans (e3.trans (e4.trans e5))
     have rd5:=rd2.mono (e3.trans (e4.trans e5))
     have hlen:vs.length<sizeLine:=by
      have h1:=rd5.length
      have h2:=congrArg List.length hall
      rw [qla,List.length_cons] at h2
      omega
     refine ⟨vs,hD5,hlen,m,Nat.lt_succ_self m,ρ5,l3,S5,ds++[y5],vs++[v5],rest',e25.beside hD hD5,s5.beside hD5 hn5,?_,zbw,hn5,((rd5.append (.cons r5 .nil)).mono0 (zj5 hD5)),q6,by rw [<-hall];simp⟩
     have r0:=(ro3.mono e4).mono e5
     exact ⟨r0.len,λi d h=>let ⟨w,h1,h2⟩:=r0.get i d h;⟨w,h1,h2.mono0 (zj5 hD5)⟩⟩
theorem zf2 {X:Cx}:PTs X [] (tt X.K zd3):=λpins s σ H Q I hx4_=>by
 obtain ⟨ρ,l,S,v,S',sim,ro,hm,p⟩:=hx4_
 cases hm
 exact zzl pins s σ H Q I (p ρ H (Ext.refl ..) sim)
theorem zzr {X:Cx}{c:Expr}{t:TM}(h:PT3 X c t):PTs X [c] (tt X.K t):=zzm h
theorem zi2 {X:Cx}{N':List Str}{elt iter tgt:Expr}{ifs:List Expr}{scope:Scope}{pos:Pos}{im:IM}{ixs:List (Option Nat)}{g:GM}{t:TM}{e:EM}(hcalm:X.calm=true) (sc:CompSc X N' scope (zbn ixs))
  (hi:PI3 X tgt iter im) (hg:∀C s H fp pins,PG3 (cxC X N' scope C s H fp pins) tgt g) (ht:∀C s H fp pins,PTs (cxC X N' scope C s H fp pins) ifs (tt X.K t)) (he:∀C s H fp pins,PE3 (cxC X N' scope C s H fp pins) elt e)
  (hs:∀x,foldedSetIterable iter X.env x=pure x:=by intro _;rfl):PE3 X (.ListComp elt [⟨tgt,iter,ifs,0⟩] scope pos) (zcq im ixs g t e) :=
 PE.imp (zzn (g:=tg X.K g) (tts:=tt X.K t) (t:=te X.K e) hcalm sc hi hg ht he hs) zqh
theorem zl9 (j:Nat) {X:Cx}{N':List Str}{elt iter tgt:Expr}{ifs:List Expr}{scope:Scope}{pos spos py:Pos}{y:Str}{im:IM}{ixs:List (Option Nat)}{g:GM}{t:TM}{e:EM}(hN:X.N.Nodup) (hcalm:X.calm=true) (sc:CompSc X N' scope (zbn ixs))
  (hi:PI3 X tgt iter im) (hg:∀C s H fp pins,PG3 (cxC X N' scope C s H fp pins) tgt g) (ht:∀C s H fp pins,PTs (cxC X N' scope C s H fp pins) ifs (tt X.K t)) (he:∀C s H fp pins,PE3 (cxC X N' scope C s H fp pins) elt e)
  (hi':X.N[j]? = some y:=by rfl) (hx:Loc X.env.scope y:=by first|exact Or.inl rfl|exact Or.inr rfl)
  (hsw:swapsWith (.ListComp elt [⟨tgt,iter,ifs,0⟩] scope pos) (some (.Name y py)) spos.line X.env=pure true:=by with_unfolding_all rfl) (hf:X.fn y=true\/X.env.scope.names.lookup y=some .local:=by first|exact .inl rfl|exact .inr rfl|assumption)
  (hs:∀x,foldedSetIterable iter X.env x=pure x:=by intro _;rfl):PS3 X (.Assign [.Name y py] (.ListComp elt [⟨tgt,iter,ifs,0⟩] scope pos) spos) (zam (zcq im ixs g t e) (zah j)) :=
 PS.imp (zzo (g:=tg X.K g) (tts:=tt X.K t) (t:=te X.K e) hN hi' hx hsw hf hcalm sc hi hg ht he hs) λE σ H hx5_=>by
  obtain ⟨ρ,l,S,f,l',S',sim,ro,hm,p⟩:=hx5_
  obtain ⟨⟨x,S1⟩,q1,hm⟩:=bnd hm
  cases hm
  exact zqh σ H _ ⟨ρ,l,S,x,S1,sim,ro,q1,λρ1 H1 x' e1 s1 r1=>p ρ1 H1 _ e1 s1 ((ro.mono e1).set j r1)⟩
noncomputable def zma:D->D->Sto->Option (D × Sto)
 | .int i,.int j,S=>some (.int (i+j),S)
 | .tup xs,.tup ys,S=>if xs.length+ys.length<=sizeLine then some (.tup (xs++ys),S) else none
 | .ref n,.ref m,S=>match S[n]?,S[m]? with
  | some (.lst xs),some (.lst ys)=>if xs.length+ys.length<=sizeLine then some (.ref S.length,S++[.lst (xs++ys)]) else none
  | _,_=>none
 | _,_,_=>none
theorem zzs {K:QFg}:Op3 K zma (λx y H Q=>rI0 (λi j=>.int (i+j)) x y H Q\/(zlr K x y H Q\/zl1 K x y H Q)\/zpg x y H Q):=by
 intro ρ S H x y x' y' v S' Q sim rx ry h p
 unfold zma at h
 split at h
 ·cases rx;cases ry;cases h
  exact .inl ⟨_,_,rfl,rfl,p ρ H _ (Ext.refl ..) sim (.int _)⟩
 ·refine .inr (.inl (zy8 ρ S H _ _ x' y' v S' Q sim rx ry ?_ p))
  unfold zl0
  exact h
 ·split at h
  ·rename_i xs ys e1 e2
   obtain ⟨hz,e⟩:=za7 h
   cases e
   obtain ⟨a,us,ha,hH,r2⟩:=sim.lst e1
   obtain ⟨b,ws,hb,hH2,r3⟩:=sim.lst e2
   cases rx with
   | ref hn =>
    rw [ha] at hn;cases hn
    cases ry with
    | ref hm =>
     rw [hb] at hm;cases hm
     exact .inr (.inr ⟨a,b,us,ws,rfl,rfl,hH,hH2,by rw [<-r2.length,<-r3.length];exact hz,zfy sim (r2.append r3) p⟩)
  ·cases h
 ·cases h
section
variable {X:Cx}{a b:Expr}{ma mb:EM}{pos:Pos}
end
def Has (P:Program) (w:World) (K:QFg) (mg:Str->Option Value) (base:Heap) (x:Str) (k n:Nat) (m:FM):Prop :=
 ∃(f:Addr) (fd:FuncData) (ps:List Str),FnOk P w K mg base CX0 k f fd ps (sp3 K n m)/\mg x=some (.ref f)/\PySem.W.keepIn K (.ref f)=true/\Binds K fd ps []
section
variable {X:Cx}{a:Expr}{es:List Expr}{mA:AM}{pos p:Pos}{x:Str}{k j n:Nat}{m:FM}
theorem zbf (F:Has X.prog X.w X.K X.mg X.base x k n m) (hr:Room j X.A) (hkj:k<=j) (hg:Gl X x)
  (ha:PA3 X (a :: es) mA) (hl:∀l S v S',mA l S=some (v,S')->v.length=n) (hdb:(x == ("__debug__":Str))=false:=by decide) (he:starEach (a :: es) X.env=(false,eval a X.env) :: starEach es X.env:=by rfl) (hpl:(backTo pos (starEach es X.env)).any (·.1)=false:=by rfl) :
  PE3 X (.Call (.Name x p) (a :: es) [] pos) (zaf m mA):=by
 obtain ⟨f,fd,ps,F,hm,hk,hb⟩:=F
 exact zzf F (hr.mono hkj) hg hm hk hb ha hl hdb he hpl
theorem zzt:bootBuiltins "abs" = some (.builtin "abs"):=by decide +kernel
theorem zzu:bootBuiltins "int" = some (.type "int"):=by decide +kernel
theorem zzv:bootBuiltins "tuple" = some (.type "tuple"):=by decide +kernel
theorem zqi:bootBuiltins "list" = some (.type "list"):=by decide +kernel
theorem zmb (hg:Gl X "abs") (hm:X.mg "abs" = none) (ha:PA3 X (a :: es) mA) (he:starEach (a :: es) X.env=(false,eval a X.env) :: starEach es X.env:=by rfl) (hpl:(backTo pos (starEach es X.env)).any (·.1)=false:=by rfl):PE3 X (.Call (.Name "abs" p) (a :: es) [] pos) (zaf zf0 mA) :=
 zg1 zw8 zza hg hm zzt ha (by decide) (by decide) he hpl
theorem zf3 (hg:Gl X "tuple") (hm:X.mg "tuple" = none) (ha:PA3 X (a :: es) mA) (he:starEach (a :: es) X.env=(false,eval a X.env) :: starEach es X.env:=by rfl) (hpl:(backTo pos (starEach es X.env)).any (·.1)=false:=by rfl):PE3 X (.Call (.Name "tuple" p) (a :: es) [] pos) (zaf zd2 mA) :=
 zlx zx5 zzc hg hm zzv ha (by decide) (by decide) he hpl
end
theorem zzw {P:Program}{w:World}{K:QFg}{mg:Str->Option Value}{base:Heap}{x:Str}{st:Stmt}{f:Addr}{fd:FuncData}{N ps:List Str}{k n:Nat}{b:SM}(F:Fun K x x st f fd) (hm:mg x=some (.ref f)) (S:FnScope N ps (za1 st)) (hn:ps.length=n) (hb:Binds K fd ps [])
  (hbody:∀(cdv:Value),PySem.W.codeIn K cdv x=true->∀(A:Around) (outer:List Env) (s:Shared) (H:Hp) (E:XK),Room k (A.deeper (envOfC x (za1 st) s.heap.objs.size f cdv)) ->
   zcn (zb1 CX0 P w K mg base N x (za1 st) f cdv A outer s H E).nox (zdr st) b):Has P w K mg base x (k+1) n (zb2 N.length b) :=
 ⟨f,fd,ps,zqd F S hn hbody,hm,F.kp,hb⟩
noncomputable def chk (scO scope:Scope) (NO N':List Str) (ixs:List (Option Nat)):Bool :=
 decide (scope.kind=.function) && (scope.names.all λy=>y.2 != .cell) && (scope.names.all λy=>y.2 != .local || scope.names.lookup y.1 == some .local) &&
 (scope.names.all λy=>y.2 != .free || (scO.names.lookup y.1 == some .cell || scO.names.lookup y.1 == some .free)) && (ixs.length == N'.length) &&
 ((List.range ixs.length).all λi=>match ixs[i]? with|some (some j)=>(NO[j]? == N'[i]? && (match N'[i]? with|some x=>scope.names.lookup x == some .free|none=>false))|_=>true)
theorem zf4 {X:Cx}{scO scope:Scope}{NO N':List Str}{ixs:List (Option Nat)}(hX:X.env.scope=scO) (hN:X.N=NO) (h:chk scO scope NO N' ixs=true):CompSc X N' scope (zbn ixs):=by
 unfold chk at h
 simp only [Bool.and_eq_true,decide_eq_true_eq,List.all_eq_true,beq_iff_eq,Bool.or_eq_true,bne_iff_ne,ne_eq] at h
 obtain ⟨⟨⟨⟨⟨h1,h2⟩,h3⟩,h4⟩,h5⟩,h6⟩:=h
 refine ⟨h1,h2,λy hy hl=>?_,λy hy hl=>?_,λy hy=>?_,λσ=>by simp [zbn,h5],λσ i v x hv hx=>?_⟩
 ·rcases h3 y hy with z|z
  ·exact absurd hl z
  ·exact z
 ·show X.env.scope.names.lookup y.1=_\/X.env.scope.names.lookup y.1=_
  rw [hX]
  rcases h4 y hy with z|z
  ·exact absurd hl z
  ·exact z
 ·have mem:∃k,(k=NameKind.cell\/k=NameKind.free)/\(y,k)∈(relabel scope X.env).names:=by
   rcases hy with z|z
   ·exact ⟨_,.inl rfl,PySem.mem_of_lookup z⟩
   ·exact ⟨_,.inr rfl,PySem.mem_of_lookup z⟩
  obtain ⟨k,hk,hm⟩:=mem
  unfold relabel at hm
  obtain ⟨⟨n,k'⟩,hm1,hm2⟩:=List.mem_map.mp hm
  dsimp only at hm2
  split at hm2
  ·rename_i hc
   have:k' = .free:=by
    rw [Bool.and_eq_true,Bool.and_eq_true] at hc
    exact eq_of_beq hc.1.1
   cases hm2
   rw [<-this];exact hm1
  ·cases hm2
   rcases hk with z|z
   ·exact absurd z (h2 _ hm1)
   ·rw [<-z];exact hm1
 ·have hl:i<ixs.length:=by
   have:=(qme hv).1
   simpa [zbn] using this
  unfold zbn at hv
  rw [qgm] at hv
  have q:=h6 i (List.mem_range.mpr hl)
  cases e:ixs[i]? with
  | none=>rw [e] at hv;cases hv
  | some o =>
   rw [e] at hv
   cases o with
   | none=>cases hv
   | some j =>
    rw [e] at q
    dsimp only at q
    rw [hx] at q
    simp only [Bool.and_eq_true,beq_iff_eq] at q
    have hv:((σ[j]?).join:Option V)=some v:=qoi hv
    refine ⟨j,by rw [hN];exact q.1,?_,q.2⟩
    cases e2:σ[j]? with
    | none=>rw [e2] at hv;cases hv
    | some o2=>rw [e2] at hv;have hv:o2=some v:=hv;rw [hv]
theorem zzx {K:QFg}{H:Hp}{a:Addr}{ns:List Int}{m:FM}(hO:zj1 H) (hS:SqL K H a (ns.map V.int)) (h:∃S',m [.ref 0] [.flst (ns.map D.int)]=some (.bl true,S')):sp3 K 1 m [.ref a] H (λv _=>v=.bl true) λ_ _ _=>False:=by
 obtain ⟨S',h⟩:=h
 have rn:∀ns:List Int,RDs [a] H (ns.map D.int) (ns.map V.int):=λns=>by
  induction ns with
  | nil=>exact .nil
  | cons x r ih=>exact .cons (.int x) ih
 refine ⟨rfl,[a],[.ref 0],_,_,S',⟨rfl,λi j b o1 o2 h1 h2 h3 h4 m1 m2=>?_,λn b o h1 h2=>?_⟩,.cons (.ref rfl) .nil,h,λρ' H' v' e s r=>?_⟩
 ·cases i with
  | zero=>cases h3;cases m1
  | succ i=>cases h3
 ·cases n with
  | succ n=>cases h1
  | zero =>
   cases h1;cases h2
   refine ⟨_,?_,rn ns⟩
   rcases hS with (z|⟨o,z⟩)|z
   ·rcases hO a with y|⟨o,xs,y⟩ <;> (rw [z] at y;cases y)
   ·exact .inl ⟨o,z⟩
   ·exact .inr z
 ·cases r;rfl
noncomputable def top (b:List Stmt) (i:Nat):Stmt:=b.getD i (.Pass ⟨0,0,0,0⟩)
def We (m:EM) (l:Lo) (S:Sto) (Q:D->Sto->Prop):Prop:=∃v S',m l S=some (v,S')/\Q v S'
def Wt (m:TM) (l:Lo) (S:Sto) (Q:Bool->Sto->Prop):Prop:=∃v S',m l S=some (v,S')/\Q v S'
def Wa (m:AM) (l:Lo) (S:Sto) (Q:List D->Sto->Prop):Prop:=∃v S',m l S=some (v,S')/\Q v S'
def Wo (o:Option (D × Sto)) (Q:D->Sto->Prop):Prop:=∃v S',o=some (v,S')/\Q v S'
def Wg (o:Option (Lo × Sto)) (Q:Lo->Sto->Prop):Prop:=∃l S',o=some (l,S')/\Q l S'
def Wr (o:Option (Fl × Lo × Sto)) (Q:Fl->Lo->Sto->Prop):Prop:=∃f l S',o=some (f,l,S')/\Q f l S'
abbrev Ws (m:SM) (l:Lo) (S:Sto) (Q:Fl->Lo->Sto->Prop):Prop:=Wr (m l S) Q
section
variable {a b c:EM}{t u:TM}{l:Lo}{S:Sto}{Q:D->Sto->Prop}{QB:Bool->Sto->Prop}{QA:List D->Sto->Prop}{QS:Fl->Lo->Sto->Prop}{QG:Lo->Sto->Prop}
theorem zao {i:Nat}:We (zaa i) l S Q = ∃d,l[i]? = some (some d)/\Q d S:=by
 apply propext;unfold We zaa
 constructor
 ·rintro ⟨v,S',h,q⟩
  split at h
  ·rename_i d e;cases h;exact ⟨_,e,q⟩
  ·cases h
 ·rintro ⟨d,e,q⟩
  exact ⟨d,S,by rw [e],q⟩
theorem zcb {d:D}:We (eC d) l S Q=Q d S:=by
 apply propext;unfold We eC
 exact ⟨λhx1_=>by obtain ⟨v,S',h,q⟩:=hx1_;cases h;exact q,λq=>⟨_,_,rfl,q⟩⟩
theorem zb7 {f:D->D->Sto->Option (D × Sto)}:We (eOp f a b) l S Q=We a l S λx S1=>We b l S1 λy S2=>Wo (f x y S2) Q:=by
 apply propext
 constructor
 ·rintro ⟨v,S',h,q⟩
  obtain ⟨⟨x,S1⟩,h1,h⟩:=bnd h
  obtain ⟨⟨y,S2⟩,h2,h⟩:=bnd h
  exact ⟨x,S1,h1,y,S2,h2,v,S',h,q⟩
 ·rintro ⟨x,S1,h1,y,S2,h2,v,S',h,q⟩
  exact ⟨v,S',by unfold eOp;rw [h1];show (b l S1).bind _=_;rw [h2];exact h,q⟩
theorem zf5 {f:D->Sto->Option (D × Sto)}:We (eUn f a) l S Q=We a l S λx S1=>Wo (f x S1) Q:=by
 apply propext
 constructor
 ·rintro ⟨v,S',h,q⟩
  obtain ⟨⟨x,S1⟩,h1,h⟩:=bnd h
  exact ⟨x,S1,h1,v,S',h,q⟩
 ·rintro ⟨x,S1,h1,v,S',h,q⟩
  exact ⟨v,S',by unfold eUn;rw [h1];exact h,q⟩
theorem zbz:Wa zae l S QA=QA [] S:=by
 apply propext
 exact ⟨λhx2_=>by obtain ⟨v,S',h,q⟩:=hx2_;cases h;exact q,λq=>⟨_,_,rfl,q⟩⟩
theorem zb0 {r:AM}:Wa (zab a r) l S QA=We a l S λx S1=>Wa r l S1 λxs S2=>QA (x :: xs) S2:=by
 apply propext
 constructor
 ·rintro ⟨v,S',h,q⟩
  obtain ⟨⟨x,S1⟩,h1,h⟩:=bnd h
  obtain ⟨⟨y,S2⟩,h2,h⟩:=bnd h
  cases h
  exact ⟨x,S1,h1,y,_,h2,q⟩
 ·rintro ⟨x,S1,h1,y,S2,h2,q⟩
  exact ⟨x :: y,S2,by unfold zab;rw [h1];show (r l S1).bind _=_;rw [h2];rfl,q⟩
theorem zb8 {f:FM}{r:AM}:We (zaf f r) l S Q=Wa r l S λxs S1=>Wo (f xs S1) Q:=by
 apply propext
 constructor
 ·rintro ⟨v,S',h,q⟩
  obtain ⟨⟨x,S1⟩,h1,h⟩:=bnd h
  exact ⟨x,S1,h1,v,S',h,q⟩
 ·rintro ⟨x,S1,h1,v,S',h,q⟩
  exact ⟨v,S',by unfold zaf;rw [h1];exact h,q⟩
theorem zch {f:D->List D->Sto->Option (D × Sto)}{r:AM}:We (zb5 f a r) l S Q=We a l S λx S1=>(∃xs,zg2 x S1=some xs)/\Wa r l S1 λys S2=>Wo (f x ys S2) Q:=by
 apply propext
 constructor
 ·rintro ⟨v,S',h,q⟩
  obtain ⟨⟨x,S1⟩,h1,h⟩:=bnd h
  obtain ⟨xs,h2,h⟩:=bnd h
  obtain ⟨⟨y,S2⟩,h3,h⟩:=bnd h
  exact ⟨x,S1,h1,⟨xs,h2⟩,y,S2,h3,v,S',h,q⟩
 ·rintro ⟨x,S1,h1,⟨xs,h2⟩,y,S2,h3,v,S',h,q⟩
  refine ⟨v,S',?_,q⟩
  unfold zb5;rw [h1];show (zg2 x S1).bind _=_;rw [h2];show (r l S1).bind _=_;rw [h3];exact h
theorem zci:Wt (tE a) l S QB=We a l S λx S1=>∃k,x=.bl k/\QB k S1:=by
 apply propext
 constructor
 ·rintro ⟨v,S',h,q⟩
  obtain ⟨⟨x,S1⟩,h1,h⟩:=bnd h
  refine ⟨x,S1,h1,?_⟩
  cases x with
  | bl k=>cases h;exact ⟨_,rfl,q⟩
  | _=>cases h
 ·rintro ⟨x,S1,h1,k,rfl,q⟩
  exact ⟨k,S1,by unfold tE;rw [h1];rfl,q⟩
theorem zg3:Wt (zen t u) l S QB=Wt t l S λk S1=>if k=true then Wt u l S1 QB else QB false S1:=by
 apply propext
 constructor
 ·rintro ⟨v,S',h,q⟩
  obtain ⟨⟨x,S1⟩,h1,h⟩:=bnd h
  refine ⟨x,S1,h1,?_⟩
  cases x with
  | true=>exact ⟨v,S',h,q⟩
  | false=>cases h;exact q
 ·rintro ⟨x,S1,h1,h⟩
  cases x with
  | true=>obtain ⟨v,S',h,q⟩:=h;exact ⟨v,S',by unfold zen;rw [h1];exact h,q⟩
  | false=>exact ⟨false,S1,by unfold zen;rw [h1];rfl,h⟩
theorem zex:Wt (zeb t u) l S QB=Wt t l S λk S1=>if k=true then QB true S1 else Wt u l S1 QB:=by
 apply propext
 constructor
 ·rintro ⟨v,S',h,q⟩
  obtain ⟨⟨x,S1⟩,h1,h⟩:=bnd h
  refine ⟨x,S1,h1,?_⟩
  cases x with
  | false=>exact ⟨v,S',h,q⟩
  | true=>cases h;exact q
 ·rintro ⟨x,S1,h1,h⟩
  cases x with
  | false=>obtain ⟨v,S',h,q⟩:=h;exact ⟨v,S',by unfold zeb;rw [h1];exact h,q⟩
  | true=>exact ⟨true,S1,by unfold zeb;rw [h1];rfl,h⟩
theorem zqj:Wt zd3 l S QB=QB true S:=by
 apply propext
 exact ⟨λhx3_=>by obtain ⟨v,S',h,q⟩:=hx3_;cases h;exact q,λq=>⟨_,_,rfl,q⟩⟩
theorem zg4:We (zio a b) l S Q=We a l S λx S1=>∃k,x=.bl k/\if k=true then Q (.bl true) S1 else We b l S1 Q:=by
 apply propext
 constructor
 ·rintro ⟨v,S',h,q⟩
  obtain ⟨⟨x,S1⟩,h1,h⟩:=bnd h
  refine ⟨x,S1,h1,?_⟩
  cases x with
  | bl k =>
   cases k with
   | false=>exact ⟨false,rfl,v,S',h,q⟩
   | true=>cases h;exact ⟨true,rfl,q⟩
  | _=>cases h
 ·rintro ⟨x,S1,h1,k,rfl,h⟩
  cases k with
  | false=>obtain ⟨v,S',h,q⟩:=h;exact ⟨v,S',by unfold zio;rw [h1];exact h,q⟩
  | true=>exact ⟨_,S1,by unfold zio;rw [h1];rfl,h⟩
theorem zf6:We (zj7 a) l S Q=We a l S λx S1=>∃k,x=.bl k/\Q (.bl (!k)) S1:=by
 apply propext
 constructor
 ·rintro ⟨v,S',h,q⟩
  obtain ⟨⟨x,S1⟩,h1,h⟩:=bnd h
  refine ⟨x,S1,h1,?_⟩
  cases x with
  | bl k=>cases h;exact ⟨k,rfl,q⟩
  | _=>cases h
 ·rintro ⟨x,S1,h1,k,rfl,h⟩
  exact ⟨_,S1,by unfold zj7;rw [h1];rfl,h⟩
theorem zg5:We (zeo t a b) l S Q=Wt t l S λk S1=>if k=true then We a l S1 Q else We b l S1 Q:=by
 apply propext
 constructor
 ·rintro ⟨v,S',h,q⟩
  obtain ⟨⟨x,S1⟩,h1,h⟩:=bnd h
  refine ⟨x,S1,h1,?_⟩
  cases x with
  | true=>exact ⟨v,S',h,q⟩
  | false=>exact ⟨v,S',h,q⟩
 ·rintro ⟨x,S1,h1,h⟩
  cases x with
  | true=>obtain ⟨v,S',h,q⟩:=h;exact ⟨v,S',by unfold zeo;rw [h1];exact h,q⟩
  | false=>obtain ⟨v,S',h,q⟩:=h;exact ⟨v,S',by unfold zeo;rw [h1];exact h,q⟩
variable {m n:SM}
theorem zdk:Ws zay l S QS=QS .nx l S:=by
 apply propext
 exact ⟨λhx4_=>by obtain ⟨f,v,S',h,q⟩:=hx4_;cases h;exact q,λq=>⟨_,_,_,rfl,q⟩⟩
theorem zg6:Ws (zaj m n) l S QS=Ws m l S λf l1 S1=>match f with | .nx=>Ws n l1 S1 QS|f=>QS f l1 S1:=by
 apply propext
 constructor
 ·rintro ⟨f,v,S',h,q⟩
  obtain ⟨⟨g,l1,S1⟩,h1,h⟩:=bnd h
  refine ⟨g,l1,S1,h1,?_⟩
  cases g with
  | nx=>exact ⟨f,v,S',h,q⟩
  | _=>cases h;exact q
 ·rintro ⟨g,l1,S1,h1,h⟩
  cases g with
  | nx=>obtain ⟨f,v,S',h,q⟩:=h;exact ⟨f,v,S',by unfold zaj;rw [h1];exact h,q⟩
  | bk=>exact ⟨_,_,_,by unfold zaj;rw [h1];rfl,h⟩
  | ct=>exact ⟨_,_,_,by unfold zaj;rw [h1];rfl,h⟩
  | rt d=>exact ⟨_,_,_,by unfold zaj;rw [h1];rfl,h⟩
theorem zaz (R:Lo->Sto->Prop) (h1:Ws m l S λf l1 S1=>f=.nx/\R l1 S1) (h2:∀l1 S1,R l1 S1->Ws n l1 S1 QS):Ws (zaj m n) l S QS:=by
 rw [zg6]
 obtain ⟨f,l1,S1,e,rfl,r⟩:=h1
 exact ⟨_,_,_,e,h2 l1 S1 r⟩
theorem zdw:Ws (sIf t m n) l S QS=Wt t l S λk S1=>if k=true then Ws m l S1 QS else Ws n l S1 QS:=by
 apply propext
 constructor
 ·rintro ⟨f,v,S',h,q⟩
  obtain ⟨⟨x,S1⟩,h1,h⟩:=bnd h
  refine ⟨x,S1,h1,?_⟩
  cases x with
  | true=>exact ⟨f,v,S',h,q⟩
  | false=>exact ⟨f,v,S',h,q⟩
 ·rintro ⟨x,S1,h1,h⟩
  cases x with
  | true=>obtain ⟨f,v,S',h,q⟩:=h;exact ⟨f,v,S',by unfold sIf;rw [h1];exact h,q⟩
  | false=>obtain ⟨f,v,S',h,q⟩:=h;exact ⟨f,v,S',by unfold sIf;rw [h1];exact h,q⟩
theorem zcv:Ws (zct a) l S QS=We a l S λ_ S1=>QS .nx l S1:=by
 apply propext
 constructor
 ·rintro ⟨f,v,S',h,q⟩
  obtain ⟨⟨x,S1⟩,h1,h⟩:=bnd h
  cases h
  exact ⟨x,_,h1,q⟩
 ·rintro ⟨x,S1,h1,q⟩
  exact ⟨_,_,_,by unfold zct;rw [h1];rfl,q⟩
theorem zey:Ws (zba a) l S QS=We a l S λx S1=>QS (.rt x) l S1:=by
 apply propext
 constructor
 ·rintro ⟨f,v,S',h,q⟩
  obtain ⟨⟨x,S1⟩,h1,h⟩:=bnd h
  cases h
  exact ⟨x,_,h1,q⟩
 ·rintro ⟨x,S1,h1,q⟩
  exact ⟨_,_,_,by unfold zba;rw [h1];rfl,q⟩
theorem zbq {g:GM}:Ws (zam a g) l S QS=We a l S λx S1=>Wg (g x l S1) λl2 S2=>QS .nx l2 S2:=by
 apply propext
 constructor
 ·rintro ⟨f,v,S',h,q⟩
  obtain ⟨⟨x,S1⟩,h1,h⟩:=bnd h
  obtain ⟨⟨l2,S2⟩,h2,h⟩:=bnd h
  cases h
  exact ⟨x,S1,h1,_,_,h2,q⟩
 ·rintro ⟨x,S1,h1,l2,S2,h2,q⟩
  refine ⟨_,_,_,?_,q⟩
  unfold zam;rw [h1];show (g x l S1).bind _=_;rw [h2];rfl
theorem za4 {i:Nat}{d:D}:Wg (zah i d l S) QG=QG (l.set i (some d)) S:=by
 apply propext
 exact ⟨λhx7_=>by obtain ⟨v,S',h,q⟩:=hx7_;cases h;exact q,λq=>⟨_,_,rfl,q⟩⟩
theorem zc4 {k:Nat}{gs:GsM}{xs:List D}:Wg (zco k gs (.tup xs) l S) QG=(xs.length=k/\Wg (gs xs l S) QG):=by
 apply propext
 constructor
 ·rintro ⟨v,S',h,q⟩
  have h:(if xs.length=k then gs xs l S else none)=some (v,S'):=h
  by_cases hl:xs.length=k
  ·rw [if_pos hl] at h;exact ⟨hl,v,S',h,q⟩
  ·rw [if_neg hl] at h;cases h
 ·rintro ⟨hl,v,S',h,q⟩
  exact ⟨v,S',by show (if xs.length=k then gs xs l S else none)=_;rw [if_pos hl];exact h,q⟩
theorem zc5:Wg (zcg [] l S) QG=QG l S:=by
 apply propext
 exact ⟨λhx8_=>by obtain ⟨v,S',h,q⟩:=hx8_;cases h;exact q,λq=>⟨_,_,rfl,q⟩⟩
theorem zc6 {g:GM}{gs:GsM}{x:D}{xs:List D}:Wg (zbb g gs (x :: xs) l S) QG=Wg (g x l S) λl1 S1=>Wg (gs xs l1 S1) QG:=by
 apply propext
 constructor
 ·rintro ⟨v,S',h,q⟩
  obtain ⟨⟨l1,S1⟩,h1,h⟩:=bnd h
  exact ⟨l1,S1,h1,v,S',h,q⟩
 ·rintro ⟨l1,S1,h1,v,S',h,q⟩
  exact ⟨v,S',by show (g x l S).bind _=_;rw [h1];exact h,q⟩
theorem zg7 {o i:EM}{v:D}:Wg (zfe o i v l S) QG=We o l S λx S1=>We i l S1 λy S2=>∃S',zdg x y v S2=some S'/\QG l S':=by
 apply propext
 constructor
 ·rintro ⟨l',S',h,q⟩
  obtain ⟨⟨x,S1⟩,h1,h⟩:=bnd h
  obtain ⟨⟨y,S2⟩,h2,h⟩:=bnd h
  obtain ⟨S3,h3,h⟩:=bnd h
  cases h
  exact ⟨x,S1,h1,y,S2,h2,_,h3,q⟩
 ·rintro ⟨x,S1,h1,y,S2,h2,S3,h3,q⟩
  refine ⟨l,S3,?_,q⟩
  unfold zfe;rw [h1];show (i l S1).bind _=_;rw [h2];show (zdg x y v S2).bind _=_;rw [h3];rfl
theorem za9 {d:D}:Wo (some (d,S)) Q=Q d S:=by
 apply propext
 exact ⟨λhx9_=>by obtain ⟨v,S',h,q⟩:=hx9_;cases h;exact q,λq=>⟨_,_,rfl,q⟩⟩
theorem zed {α:Type}{o:Option α}{f:α->Option (D × Sto)}:Wo (o.bind f) Q = ∃x,o=some x/\Wo (f x) Q:=by
 cases o with
 | none=>simp [Wo]
 | some x=>simp [Wo]
theorem zee {p:Prop} [Decidable p] {x:D × Sto}:Wo (if p then some x else none) Q=(p/\Q x.1 x.2):=by
 obtain ⟨a,b⟩:=x
 by_cases hp:p
 ·rw [if_pos hp]
  apply propext
  exact ⟨λhx10_=>by obtain ⟨v,S',h,q⟩:=hx10_;cases h;exact ⟨hp,q⟩,λq=>⟨a,b,rfl,q.2⟩⟩
 ·simp [hp,Wo]
theorem zdl {g:Int->Int->D}{i j:Int}:Wo (oI0 g (.int i) (.int j) S) Q=Q (g i j) S:=za9
theorem zf7 {C:Int->Int->Bool}{g:Int->Int->D}{i j:Int}:Wo (oI C g (.int i) (.int j) S) Q=(C i j=true/\Q (g i j) S):=zee
theorem zf8 {xs:List D}{i:Int}:Wo (dIx (.tup xs) (.int i) S) Q = ∃v,L2.atI xs i=some v/\Q v S:=by
 show Wo ((L2.atI xs i).bind λv=>some (v,S)) Q=_
 rw [zed];simp only [za9]
theorem zf9 {k:Nat}{i:Int}:Wo (dIx (.ref k) (.int i) S) Q = ∃xs,lstOf S k=some xs/\∃v,L2.atI xs i=some v/\Q v S:=by
 show Wo ((lstOf S k).bind λxs=>(L2.atI xs i).bind λv=>some (v,S)) Q=_
 rw [zed];simp only [zed,za9]
theorem zga {xs:List D}:Wo (zix [.tup xs] S) Q=Q (.int xs.length) S:=za9
theorem zgb {k:Nat}:Wo (zix [.ref k] S) Q = ∃xs,lstOf S k=some xs/\Q (.int xs.length) S:=by
 show Wo ((lstOf S k).bind λxs=>some (.int xs.length,S)) Q=_
 rw [zed];simp only [za9]
theorem zg8 {i:Int}:Wo (zf0 [.int i] S) Q=Q (.int (if i<0 then -i else i)) S:=za9
theorem zdm {xs:List D}:Wo (zaq xs S) Q=(xs.length<=sizeLine/\Q (.tup xs) S):=zee
theorem zff {xs:List D}:Wo (zbk xs S) Q=(xs.length<=sizeLine/\Q (.ref S.length) (S++[.lst xs])):=zee
theorem zfg {k:Nat}:Wo (zd2 [.ref k] S) Q = ∃xs,lstOf S k=some xs/\Q (.tup xs) S:=by
 show Wo ((lstOf S k).bind λxs=>some (.tup xs,S)) Q=_
 rw [zed];simp only [za9]
theorem zgc {i j:Int}:Wo (dEq (.int i) (.int j) S) Q=Q (.bl (decide (i=j))) S:=za9
theorem zfh {i j:Str}:Wo (dNe (.str i) (.str j) S) Q=Q (.bl (!decide (i=j))) S:=za9
theorem zg9 {x:D}:Wo (dIs x .non S) Q=Q (.bl (zb4 x)) S:=by
 cases x <;> exact za9
theorem zha {x:D}:Wo (zeq x .non S) Q=Q (.bl (!zb4 x)) S:=by
 cases x <;> exact za9
theorem zzy {k:Nat}{x:D}:Wo (zcs (.ref k) [x] S) Q = ∃xs,S[k]? = some (.lst xs)/\xs.length<sizeLine/\Q .non (S.set k (.lst (xs++[x]))):=by
 show Wo (match S[k]? with|some (.lst xs)=>if xs.length<sizeLine then some (.non,S.set k (.lst (xs++[x]))) else none|_=>none) Q=_
 cases e:S[k]? with
 | none=>simp [Wo]
 | some o =>
  cases o with
  | lst xs=>simp [zee]
  | flst xs=>simp [Wo]
  | iset f n=>simp [Wo]
  | dct kvs=>simp [Wo]
  | fdct kvs=>simp [Wo]
  | ftdct kvs=>simp [Wo]
  | tset ks=>simp [Wo]
  | fnc x=>simp [Wo]
  | tdct kvs=>simp [Wo]
  | exc c=>simp [Wo]
theorem zcj {k:Nat}{b:SM}{ds:List D}:Wo (zb2 k b ds S) Q=Ws b (ds.map some++List.replicate (k-ds.length) none) S λf _ S1=>match f with | .rt d=>Q d S1 | .nx=>Q .non S1|_=>False:=by
 apply propext
 constructor
 ·rintro ⟨v,S',h,q⟩
  obtain ⟨⟨f,l1,S1⟩,h1,h⟩:=bnd h
  refine ⟨f,l1,S1,h1,?_⟩
  cases f with
  | rt d=>cases h;exact q
  | nx=>cases h;exact q
  | bk=>cases h
  | ct=>cases h
 ·rintro ⟨f,l1,S1,h1,q⟩
  cases f with
  | rt d=>exact ⟨_,_,by unfold zb2;rw [h1];rfl,q⟩
  | nx=>exact ⟨_,_,by unfold zb2;rw [h1];rfl,q⟩
  | bk=>cases q
  | ct=>cases q
end
theorem Wo.mono {o:Option (D × Sto)}{Q Q':D->Sto->Prop}(h:Wo o Q) (i:∀v S,Q v S->Q' v S):Wo o Q':=let ⟨v,S,e,q⟩:=h;⟨v,S,e,i v S q⟩
theorem Wr.mono {o:Option (Fl × Lo × Sto)}{Q Q':Fl->Lo->Sto->Prop}(h:Wr o Q) (i:∀f v S,Q f v S->Q' f v S):Wr o Q':=let ⟨f,v,S,e,q⟩:=h;⟨f,v,S,e,i f v S q⟩
section
variable {g:GM}{b:SM}{l:Lo}{S:Sto}{QS:Fl->Lo->Sto->Prop}
theorem zzz {as:AM}:Ws (zdi (zbx as) g b) l S QS=Wa as l S λxs S1=>∃j,xs=[.int j]/\(-(2 ^ 62)<=j/\j<2 ^ 62)/\Wr (zcd g b (za3 0 j.toNat) l S1) QS:=by
 apply propext
 constructor
 ·rintro ⟨f,v,S',h,q⟩
  obtain ⟨⟨⟨lo,n⟩,S1⟩,h1,h⟩:=bnd h
  obtain ⟨⟨xs,S2⟩,h2,h1⟩:=bnd h1
  dsimp only at h1
  split at h1
  ·rename_i j
   obtain ⟨hz,e⟩:=za7 h1
   cases e
   exact ⟨_,_,h2,j,rfl,hz,f,v,S',h,q⟩
  ·cases h1
 ·rintro ⟨xs,S1,h1,j,rfl,hz,f,v,S',h,q⟩
  refine ⟨f,v,S',?_,q⟩
  have:zbx as l S=some ((0,j.toNat),S1):=by
   unfold zbx;rw [h1];show (if _ then _ else _)=_;rw [if_pos hz]
  unfold zdi;show (zbx as l S).bind _=_;rw [this];exact h
theorem zqk {e:EM}:Ws (zcp e g b) l S QS=We e l S λx S1=>Wr (match x with | .tup xs=>zcd g b xs l S1 | .ref n=>(lstOf S1 n).bind λxs=>zdu g b n (xs.length+1) 0 l S1|_=>none) QS:=by
 apply propext
 constructor
 ·rintro ⟨f,v,S',h,q⟩
  obtain ⟨⟨x,S1⟩,h1,h⟩:=bnd h
  exact ⟨x,S1,h1,f,v,S',h,q⟩
 ·rintro ⟨x,S1,h1,f,v,S',h,q⟩
  exact ⟨f,v,S',by unfold zcp;rw [h1];exact h,q⟩
theorem zql {lo:Int}{n i:Nat}{x:D}(h:(za3 lo n)[i]? = some x):i<n/\x=.int (lo+i):=by
 have hl:=(qme h).1
 simp only [za3,qlm,List.length_range] at hl
 unfold za3 at h
 rw [qgm,List.getElem?_range hl] at h
 exact ⟨hl,(qoi h).symm⟩
theorem zfi (lo:Int) (n:Nat):(za3 lo n).length=n:=by simp [za3]
end
mutual
noncomputable def zau (S:Sto):Nat->D->Option PyData
 | 0,_=>none
 | _+1,.non=>some .none
 | _+1,.bl b=>some (.bool b)
 | _+1,.int i=>if i.natAbs.log2<1920 then some (.int i) else none
 | _+1,.str x=>some (.str x)
 | k+1,.tup xs=>(zbm S k xs).bind λds=>some (.tuple ds)
 | k+1,.ref n=>(lstOf S n).bind λxs=>(zbm S k xs).bind λds=>some (.list ds)
 | _+1,.fn _=>none
termination_by k=>(k,0)
noncomputable def zbm (S:Sto):Nat->List D->Option (List PyData)
 | _,[]=>some []
 | k,x :: xs=>(zau S k x).bind λd=>(zbm S k xs).bind λds=>some (d :: ds)
termination_by k xs=>(k,xs.length+1)
end
noncomputable def zd4:FM
 | [x],S=>(zau S 140 x).bind λd=>if d.shown.length<=sizeLine then some (.str d.shown,S) else none
 | _,_=>none
section
variable {X:Cx}{pins:List (Addr × Obj)}{σ:St}{H:Hp}{s:Shared}{ρ:List Addr}{S:Sto}
theorem zmc (I:Inv X pins σ H s) (sim:Sim X.K ρ S H) {k:Nat}(ih:∀(d:D) (v:V) (u:Value) (p:PyData),RD ρ H d v->RelV v u->zau S k d=some p->(∃as,Reads s.heap u p as)/\p.showable=true/\p.hasDict=false/\p.depth<=k):∀(xs:List D) (vs:List V) (us:List Value) (ds:List PyData),RDs ρ H xs vs->Vals vs us->zbm S k xs=some ds->(∃as,ReadsAll s.heap us ds as)/\PyData.showableAll ds=true/\PyData.hasDictAll ds=false/\PyData.depthAll ds<=k:=by
 intro xs
 induction xs with
 | nil =>
  intro vs us ds r e h
  unfold zbm at h;cases h;cases r;cases e
  exact ⟨⟨_,.nil⟩,rfl,rfl,Nat.zero_le _⟩
 | cons x xs ihx =>
  intro vs us ds r e h
  unfold zbm at h
  obtain ⟨d,h1,h⟩:=bnd h
  obtain ⟨ds',h2,h⟩:=bnd h
  cases h
  cases r with
  | cons r1 r2 =>
   cases e with
   | cons e1 e2 =>
    obtain ⟨⟨as,q1⟩,q2,q3,q4⟩:=ih x _ _ d r1 e1 h1
    obtain ⟨⟨bs,p1⟩,p2,p3,p4⟩:=ihx _ _ ds' r2 e2 h2
    refine ⟨⟨_,.cons q1 p1⟩,?_,?_,?_⟩
    ·unfold PyData.showableAll;rw [q2,p2];rfl
    ·unfold PyData.hasDictAll;rw [q3,p3];rfl
    ·unfold PyData.depthAll;omega
theorem zgd (I:Inv X pins σ H s) (sim:Sim X.K ρ S H):∀(k:Nat) (d:D) (v:V) (u:Value) (p:PyData),RD ρ H d v->RelV v u->zau S k d=some p->(∃as,Reads s.heap u p as)/\p.showable=true/\p.hasDict=false/\p.depth<=k:=by
 intro k
 induction k with
 | zero=>intro d v u p _ _ h;unfold zau at h;cases h
 | succ k ih =>
  intro d v u p r e h
  cases d with
  | non  =>
   unfold zau at h;cases h;cases r;cases e
   exact ⟨⟨_,.none⟩,rfl,rfl,Nat.zero_le _⟩
  | bl b =>
   unfold zau at h;cases h;cases r;cases e
   exact ⟨⟨_,.bool b⟩,rfl,rfl,Nat.zero_le _⟩
  | int i =>
   unfold zau at h
   obtain ⟨hz,e2⟩:=za7 h
   cases e2;cases r
   obtain ⟨t,rfl⟩:=e
   exact ⟨⟨_,.int i t⟩,by unfold PyData.showable;exact decide_eq_true hz,rfl,Nat.zero_le _⟩
  | str x =>
   unfold zau at h;cases h;cases r
   obtain ⟨t,rfl⟩:=e
   exact ⟨⟨_,.str x t⟩,rfl,rfl,Nat.zero_le _⟩
  | fn _=>unfold zau at h;cases h
  | tup xs =>
   unfold zau at h
   obtain ⟨ds,h1,h⟩:=bnd h
   cases h
   cases r with
   | tup ha r =>
    cases e
    obtain ⟨its,rv,⟨o,ho,hc,n,hd⟩,hz⟩:=I.tuple (SqT.of ha)
    obtain ⟨⟨as,h2⟩,h3,h4,h5⟩:=zmc I sim ih xs _ _ ds r rv h1
    refine ⟨⟨as,.tuple ho hc hd (by simpa using h2)⟩,?_,?_,?_⟩
    ·unfold PyData.showable;exact h3
    ·unfold PyData.hasDict;exact h4
    ·unfold PyData.depth;omega
  | ref n =>
   unfold zau at h
   obtain ⟨xs,h0,h⟩:=bnd h
   obtain ⟨ds,h1,h⟩:=bnd h
   cases h
   obtain ⟨a,vs,ha,sq,rd⟩:=sim.lstOf h0
   cases r with
   | ref hn =>
    rw [ha] at hn;cases hn
    cases e
    obtain ⟨its,rv,pl,hz⟩:=I.list sq
    obtain ⟨o,ho,hc,m,hd⟩:=pl.isList
    obtain ⟨⟨as,h2⟩,h3,h4,h5⟩:=zmc I sim ih xs _ _ ds rd rv h1
    refine ⟨⟨_,.list ho hc hd (by simpa using h2)⟩,?_,?_,?_⟩
    ·unfold PyData.showable;exact h3
    ·unfold PyData.hasDict;exact h4
    ·unfold PyData.depth;omega
theorem zz0 (I:Inv X pins σ H s) (sim:Sim X.K ρ S H):∀(k:Nat) (xs:List D) (vs:List V) (us:List Value) (ds:List PyData),RDs ρ H xs vs->Vals vs us->zbm S k xs=some ds->(∃as,ReadsAll s.heap us ds as)/\PyData.showableAll ds=true/\PyData.hasDictAll ds=false/\PyData.depthAll ds<=k
 | k=>zmc I sim (zgd I sim k)
end
section
variable {X:Cx}{a:Expr}{es:List Expr}{mA:AM}{pos p:Pos}
theorem zz1 {k:Nat}(hr:Room k X.A):CallR X (.builtin "repr") (λxs H Q=>∃v ρ S d pd,xs=[v]/\Sim X.K ρ S H/\RD ρ H d v/\zau S 140 d=some pd/\pd.shown.length<=sizeLine/\Q (.str pd.shown) H):=by
 intro pins s σ H xs us Q I r h
 obtain ⟨v,ρ,S,d,pd,rfl,sim,rd,hp,hz,q⟩:=h
 obtain ⟨u,rfl,ru⟩:=zdq r
 have key:=zgd I sim 140 d v u pd rd ru hp
 have byRef:∀a,u=.ref a->wpAny (model X.prog X.w) X.A (call (.builtin "repr") [u]) (EP X pins σ Q) X.xe s:=λb hb=>by
  subst hb
  obtain ⟨⟨as,h1⟩,h2,h3,h4⟩:=key
  have hu:X.A.units+(pd.depth+1)<cLine:=by have:=hr.un;omega
  refine repr_of_reads' h1 h2 (λz=>by rw [h3] at z;cases z) hr.gd hu (λ_ _ e=>e) (λh' u tk hk=>?_) hz
  exact ⟨.str pd.shown,H,I.kept hk,⟨u,rfl⟩,q⟩
 have hp':=hp
 cases rd with
 | non=>cases ru;unfold zau at hp';cases hp';exact P.repr_of_none ⟨.str _,H,I.tok _,⟨_,rfl⟩,q⟩
 | bl b=>cases ru;unfold zau at hp';cases hp';exact P.repr_of_bool ⟨.str _,H,I.tok _,⟨_,by cases b <;> rfl⟩,q⟩
 | int i =>
  obtain ⟨t,rfl⟩:=ru
  unfold zau at hp'
  obtain ⟨hi,e⟩:=za7 hp'
  cases e
  exact P.repr_of_int hi ⟨.str _,H,I.tok _,⟨_,rfl⟩,q⟩
 | str x=>obtain ⟨t,rfl⟩:=ru;unfold zau at hp';cases hp';exact P.repr_of_str ⟨.str _,H,I.tok _,⟨_,rfl⟩,q⟩ hz
 | tup ha r=>exact byRef _ ru
 | ref hn=>exact byRef _ ru
 | fn b=>unfold zau at hp';cases hp'
theorem zz2 {K:QFg}:Fn3 K zd4 (λxs H Q=>∃v ρ S d pd,xs=[v]/\Sim K ρ S H/\RD ρ H d v/\zau S 140 d=some pd/\pd.shown.length<=sizeLine/\Q (.str pd.shown) H):=by
 intro ρ S H xs vs v S' Q sim r h p
 unfold zd4 at h
 split at h
 ·obtain ⟨pd,h1,h⟩:=bnd h
  obtain ⟨hz,e⟩:=za7 h
  cases e
  obtain ⟨w,rfl,rw'⟩:=r.one
  exact ⟨w,ρ,_,_,pd,rfl,sim,rw',h1,hz,p ρ H _ (Ext.refl ..) sim (.str _)⟩
 ·cases h
theorem zz3:bootBuiltins "repr" = some (.builtin "repr"):=by decide +kernel
theorem zkj {k:Nat}(hr:Room k X.A) (hg:Gl X "repr") (hm:X.mg "repr" = none) (ha:PA3 X (a :: es) mA) (he:starEach (a :: es) X.env=(false,eval a X.env) :: starEach es X.env:=by rfl) (hpl:(backTo pos (starEach es X.env)).any (·.1)=false:=by rfl):PE3 X (.Call (.Name "repr" p) (a :: es) [] pos) (zaf zd4 mA) :=
 zg1 (zz1 hr) zz2 hg hm zz3 ha (by decide) (by decide) he hpl
end
theorem zz4 {x:D}{S:Sto}{Q:D->Sto->Prop}:Wo (zd4 [x] S) Q = ∃pd,zau S 140 x=some pd/\pd.shown.length<=sizeLine/\Q (.str pd.shown) S:=by
 show Wo ((zau S 140 x).bind λd=>if d.shown.length<=sizeLine then some (.str d.shown,S) else none) Q=_
 rw [zed]
 simp only [zee]
theorem zz5:fillsNumberSlot (.type "tuple") "mul" = pure false :=
 PySem.fillsNumberSlot_seq (id:="tuple.__mul__") (r:=some (.builtin "tuple.__rmul__")) PySem.F.slot_tuple_mul.lookup (by decide +kernel) PySem.F.slot_tuple_rmul.lookup (by decide +kernel)
theorem zz6:seqRepeat? (.type "tuple")=pure (some (.builtin "tuple.__mul__")):=by
 unfold seqRepeat?
 rw [PySem.seqSlot_of (T:="tuple") (name:="__mul__") (id:="tuple.__mul__") PySem.F.slot_tuple_mul.lookup (by decide +kernel),PySem.seqSlot_of (T:="tuple") (name:="__rmul__") (id:="tuple.__rmul__") PySem.F.slot_tuple_rmul.lookup (by decide +kernel)]
 rfl
open PySem.AutoSeq1 (wpAny_loadPart')
theorem zz7 (a:Int) (t:Tok) (l:Addr) (items:Array Value) (n:Nat) (dd:Option Addr) (sl:Array (Option Value)) :
  Meets (Builtin.«int.__rmul__» ⟨[.int a t,.ref l],[]⟩) (λ_ R s=>s.heap.get? l=some { cls:=.type "tuple",dict:=dd,data:=.seq items n,slots:=sl }/\R (.ok (.ret Value.notImplemented)) s) :=
 .of_wp λprog w A R s h=>by obtain ⟨hp,g,d,tk,os⟩:=s;obtain ⟨hl,h⟩:=h;wp_walk;exact ⟨_,rfl,h⟩
section
variable {prog:Program}{w:World}{A:Around}{E:Value->Shared->Prop}{s:Shared}
theorem zz8 {t:Addr}{items:Array Value}{k:Int}{u:Tok}{Q:Value->Shared->Prop}(ht:IsTup s.heap t items) (k0:2<=k) (k1:k<2 ^ 31) (hi:items.isEmpty=false) (hz:items.size*k.toNat<=sizeLine)
  (h:Q (.ref s.heap.objs.size) { s with heap:=s.heap.push { cls:=.type "tuple",data:=.seq ((List.replicate k.toNat items).foldl (·++·) #[]) } }) (h6:((List.replicate k.toNat items).foldl (·++·) #[]).size<=sizeLine) :
  wpAny (model prog w) A (call (.builtin "tuple.__mul__") [.ref t,.int k u]) Q E s:=by
 refine wpAny_call_entry PySem.F.slot_tuple_mul ht.typeIs PySem.F.entry_tuple_mul ?_ (PySem.F.args_tuple_mul_2 _ _)
 show wpAny _ _ (asIndex (.int k u) >>= _) _ _ s
 refine qwb ?_
 show wpAny _ _ (pure k) _ _ s
 refine qwp ?_
 have e1:(decide (k < -(2 ^ 63)) || decide (k ≥ 2 ^ 63))=false:=by
  rw [Bool.or_eq_false_iff];exact ⟨decide_eq_false (by omega),decide_eq_false (by omega)⟩
 have e2:(items.isEmpty || k == 1)=false:=by rw [hi,Bool.false_or];exact beq_false_of_ne (by omega)
 have e3:(decide (k<=0) || items.isEmpty)=false:=by rw [hi,Bool.or_false];exact decide_eq_false (by omega)
 show wpAny _ _ (if (decide (k < -(2 ^ 63)) || decide (k ≥ 2 ^ 63))=true then _ else _) _ _ s
 rw [if_neg (by rw [e1];exact Bool.false_ne_true)]
 refine qwb (tupleItemsOf_ ht ?_)
 show wpAny _ _ (if (items.isEmpty || k == 1)=true then _ else _) _ _ s
 rw [if_neg (by rw [e2];exact Bool.false_ne_true)]
 show wpAny _ _ (if (decide (k<=0) || items.isEmpty)=true then _ else _) _ _ s
 rw [if_neg (by rw [e3];exact Bool.false_ne_true)]
 have hk:(items.size:Int)*k=((items.size*k.toNat:Nat):Int):=by rw [Int.natCast_mul,Int.toNat_of_nonneg (by omega)]
 have hs:(sizeLine:Nat)=16777216:=by decide
 show wpAny _ _ (if (items.size:Int)*k > (2 ^ 63-1) / 8 then _ else _) _ _ s
 rw [if_neg (by rw [hk];omega)]
 show wpAny _ _ (if Builtin.Tuple.tupleTooMany ((items.size:Int)*k)=true then _ else _) _ _ s
 rw [if_neg (by unfold Builtin.Tuple.tupleTooMany;rw [hk];simp only [decide_eq_true_eq];omega)]
 first
  | exact qwb (m:=Builtin.Tuple.tupleExact _) (wpAny_newObj_type (qwp ⟨_,rfl,h⟩) h6)
  | exact qwb (m:=Builtin.Tuple.tupleExact _) (wpAny_newObj_type (qwp ⟨_,rfl,qwp h⟩) h6)
theorem zz9 {t:Addr}{items:Array Value}{u:Tok}{Q:Value->Shared->Prop}(ht:IsTup s.heap t items) (h:Q (.ref t) s) :
  wpAny (model prog w) A (call (.builtin "tuple.__mul__") [.ref t,.int 1 u]) Q E s:=by
 refine wpAny_call_entry PySem.F.slot_tuple_mul ht.typeIs PySem.F.entry_tuple_mul ?_ (PySem.F.args_tuple_mul_2 _ _)
 show wpAny _ _ (asIndex (.int 1 u) >>= _) _ _ s
 refine qwb ?_
 show wpAny _ _ (pure (1:Int)) _ _ s
 refine qwp ?_
 show wpAny _ _ (if (decide ((1:Int) < -(2 ^ 63)) || decide ((1:Int) ≥ 2 ^ 63))=true then _ else _) _ _ s
 rw [if_neg (by decide)]
 refine qwb (tupleItemsOf_ ht ?_)
 show wpAny _ _ (if (items.isEmpty || (1:Int) == 1)=true then _ else _) _ _ s
 rw [if_pos (by simp)]
 unfold Builtin.Tuple.tupleIsExact
 refine qwb (qwb (wpAny_typeOf ht.typeIs (qwp ?_)))
 rw [if_pos (by decide)]
 exact qwb (wpAny_rule (qwp ⟨_,rfl,h⟩))
theorem yaa {t:Addr}{items:Array Value}{k:Int}{u:Tok}{Q:Value->Shared->Prop}(ht:IsTup s.heap t items) (k0:k=0) (hi:items.isEmpty=false)
  (h:Q (.ref s.heap.objs.size) { s with heap:=s.heap.push { cls:=.type "tuple",data:=.seq #[] } }) :
  wpAny (model prog w) A (call (.builtin "tuple.__mul__") [.ref t,.int k u]) Q E s:=by
 subst k0
 refine wpAny_call_entry PySem.F.slot_tuple_mul ht.typeIs PySem.F.entry_tuple_mul ?_ (PySem.F.args_tuple_mul_2 _ _)
 show wpAny _ _ (asIndex (.int 0 u) >>= _) _ _ s
 refine qwb ?_
 show wpAny _ _ (pure (0:Int)) _ _ s
 refine qwp ?_
 show wpAny _ _ (if (decide ((0:Int) < -(2 ^ 63)) || decide ((0:Int) ≥ 2 ^ 63))=true then _ else _) _ _ s
 rw [if_neg (by decide)]
 refine qwb (tupleItemsOf_ ht ?_)
 show wpAny _ _ (if (items.isEmpty || (0:Int) == 1)=true then _ else _) _ _ s
 rw [if_neg (by rw [hi];decide)]
 show wpAny _ _ (if (decide ((0:Int)<=0) || items.isEmpty)=true then _ else _) _ _ s
 rw [if_pos (by simp)]
 first
  | exact qwb (m:=Builtin.Tuple.tupleExact _) (wpAny_newObj_type (qwp ⟨_,rfl,h⟩) (Nat.zero_le _))
  | exact qwb (m:=Builtin.Tuple.tupleExact _) (wpAny_newObj_type (qwp ⟨_,rfl,h⟩) (by decide))
end
def zqm (K:QFg):R2:=λx y H Q=>∃a k xs,x=.ref a/\y=.int k/\SqT K H a xs/\xs≠[]/\0<=k/\k<2 ^ 31/\xs.length*k.toNat<=sizeLine /\
 (k=1->Q (.ref a) H)/\(k≠1->∀p,H p=none->Q (.ref p) (upd H p (.tup (List.replicate k.toNat xs).flatten)))
theorem yab {X:Cx}:OpR X (binaryOp .Mult) (zqm X.K):=by
 intro pins s σ H x y v u Q I rx ry h
 obtain ⟨a,k,xs,rfl,rfl,hx,hne,k0,k1,hz,q1,q2⟩:=h
 cases rx
 obtain ⟨t,rfl⟩:=ry
 obtain ⟨its,r,pt,_⟩:=I.tuple hx
 have hne':its≠[]:=λz=>hne (r.nil_iff.mp z)
 have hie:its.toArray.isEmpty=false:=by cases its with
  | nil=>exact absurd rfl hne'
  | cons _ _=>simp
 obtain ⟨⟨cls,dd,data,sl⟩,ho,hc,n,hd⟩:=id pt
 simp only at hc hd
 subst hc hd
 refine wpAny_binaryOp_repeat_ref (T:="tuple") (U:="int") (by decide) ⟨_,ho,rfl⟩ (λs'=>typeIs_int s' k t) zz5 PySem.F.fills_int_mul PySem.F.slot_int_rmul zz6 PySem.F.slot_int_index.lookup
  (call_meets PySem.F.slot_int_rmul (typeIs_int s k t) PySem.F.entry_int_rmul (PySem.F.args_int_rmul_2 _ _) (zz7 k t a its.toArray n dd sl) ⟨ho,rfl,⟨_,ho,rfl⟩,?_⟩)
 have f0:∀m:Nat,List.foldl (λx1 x2=>x1++x2) #[] (List.replicate m its.toArray)=(List.replicate m its).flatten.toArray:=λm=>by
  have:=zlt its m []
  rw [List.nil_append] at this
  exact this
 have hl:xs.length=its.length:=r.length
 by_cases e1:k=1
 ·subst e1
  exact zz9 pt ⟨.ref a,H,I,rfl,q1 rfl⟩
 ·by_cases e0:k=0
  ·refine yaa pt e0 hie ?_
   have hv:Vals ([]:List V) ([]:List Value):=.nil
   refine ⟨.ref s.heap.objs.size,_,I.laid (t':=s.toks) (o:=.tup []) (λb ob q=>qps _ q) (qlr _) ?_,rfl,?_⟩
   ·exact ⟨Nat.zero_le _,[],.nil,IsTD.new _ _⟩
   ·have:=q2 e1 _ (I.hok.fresh (qlr _))
    subst e0
    exact this
  ·have hlen:(List.replicate k.toNat its).flatten.length=k.toNat*its.length:=zlu its k.toNat
   refine zz8 pt (by omega) k1 hie (by rw [List.size_toArray,<-hl];exact hz) ?_ ?_
   ·rw [f0]
    refine ⟨.ref s.heap.objs.size,_,I.laid (t':=s.toks) (o:=.tup (List.replicate k.toNat xs).flatten) (λb ob q=>qps _ q) (qlr _) ?_,rfl,q2 e1 _ (I.hok.fresh (qlr _))⟩
    exact ⟨by rw [zlu,Nat.mul_comm];exact hz,_,r.rep k.toNat,IsTD.new _ _⟩
   ·rw [f0,List.size_toArray,hlen,Nat.mul_comm,<-hl];exact hz
noncomputable def zez:D->D->Sto->Option (D × Sto)
 | .int i,.int j,S=>if (-(2 ^ 64)<i/\i<2 ^ 64)\/(-(2 ^ 64)<j/\j<2 ^ 64) then some (.int (i*j),S) else none
 | .tup (x :: xs),.int k,S=>if 0<=k/\k<2 ^ 31/\(xs.length+1)*k.toNat<=sizeLine then some (.tup (List.replicate k.toNat (x :: xs)).flatten,S) else none
 | _,_,_=>none
theorem yac {K:QFg}:Op3 K zez (λx y H Q=>rI CMul (λi j=>.int (i*j)) x y H Q\/zqm K x y H Q):=by
 intro ρ S H x y x' y' v S' Q sim rx ry h p
 unfold zez at h
 split at h
 ·obtain ⟨hc,e⟩:=za7 h
  cases e;cases rx;cases ry
  exact .inl ⟨_,_,rfl,rfl,hc,p ρ H _ (Ext.refl ..) sim (.int _)⟩
 ·rename_i x xs k
  obtain ⟨⟨k0,k1,hz⟩,e⟩:=za7 h
  cases e;cases ry
  cases rx with
  | @tup _ a vs ha r =>
   have hl:=r.length
   refine .inr ⟨a,k,vs,rfl,rfl,SqT.of ha,?_,k0,k1,by rw [<-hl];exact hz,λe=>?_,λ_=>zit sim (r.rep k.toNat) p⟩
   ·intro z;rw [z] at hl;cases hl
   ·subst e
    have e2:(List.replicate (1:Int).toNat (x :: xs)).flatten=x :: xs:=by simp
    rw [e2] at p
    exact p ρ H _ (Ext.refl ..) sim (.tup ha r)
 ·cases h
section
variable {X:Cx}{a b:Expr}{ma mb:EM}{pos:Pos}
theorem zkk (ha:PE3 X a ma) (hb:PE3 X b mb):PE3 X (.BinOp a .Mult b pos) (eOp zez ma mb):=zfx (op_mul.or yab) yac ha hb
end
noncomputable def whl (c:TM) (b:SM):Nat->SM
 | 0,_,_=>none
 | k+1,l,S=>(c l S).bind λp=>if p.1=true then (b l p.2).bind λq=>match q.1 with
  | .nx=>whl c b k q.2.1 q.2.2
  | .ct=>whl c b k q.2.1 q.2.2
  | .bk=>some (.nx,q.2)
  | .rt d=>some (.rt d,q.2) else some (.nx,l,p.2)
section
variable {X:Cx}{c:Expr}{body:List Stmt}{mc:TM}{mb:SM}{pos:Pos}
theorem zmd (n:Nat) (hp:PassesOwn (model X.prog X.w) X.A X.env X.xe) (hc:PT3 X c mc) (hb:zcn X body mb):PS3 X (.While c body [] pos) (whl mc mb n) :=
 PS.imp (zwk hp hc hb) λE σ H hx1_=>by
  obtain ⟨ρ,l,S,f,l',S',sim,ro,hm,p⟩:=hx1_
  refine ⟨λm σ1 H1=>∃ρ1 l1 S1,Ext ρ H ρ1 H1/\Sim X.K ρ1 S1 H1/\RO ρ1 H1 l1 σ1/\whl mc mb m l1 S1=some (f,l',S'),⟨n,ρ,l,S,Ext.refl ..,sim,ro,hm⟩,?_⟩
  rintro m σ1 H1 ⟨ρ1,l1,S1,e1,s1,ro1,hm1⟩
  cases m with
  | zero=>cases hm1
  | succ m =>
   unfold whl at hm1
   obtain ⟨⟨k,S2⟩,q1,hm1⟩:=bnd hm1
   refine ⟨ρ1,l1,S1,k,S2,s1,ro1,q1,λρ2 H2 e2 s2=>?_⟩
   cases k with
   | false =>
    cases hm1
    exact zfb (p ρ2 H2 σ1 (e1.trans e2) s2 (ro1.mono e2))
   | true =>
    have hm1:((mb l1 S2).bind λq=>match q.1 with
     | .nx=>whl mc mb m q.2.1 q.2.2
     | .ct=>whl mc mb m q.2.1 q.2.2
     | .bk=>some (.nx,q.2)
     | .rt d=>some (.rt d,q.2))=some (f,l',S'):=hm1
    obtain ⟨⟨fl,l3,S3⟩,q2,hm1⟩:=bnd hm1
    refine zfc ⟨_,λσ' H' h=>h,ρ2,l1,S2,fl,l3,S3,s2,ro1.mono e2,q2,λρ3 H3 σ3 e3 s3 ro3=>?_⟩
    cases fl with
    | nx=>exact ⟨m,Nat.lt_succ_self m,ρ3,l3,S3,e1.trans (e2.trans e3),s3,ro3,hm1⟩
    | ct=>exact ⟨m,Nat.lt_succ_self m,ρ3,l3,S3,e1.trans (e2.trans e3),s3,ro3,hm1⟩
    | bk=>cases hm1;exact p ρ3 H3 σ3 (e1.trans (e2.trans e3)) s3 ro3
    | rt d=>cases hm1;exact p ρ3 H3 σ3 (e1.trans (e2.trans e3)) s3 ro3
theorem zqn (j:Nat) {x:Str}{e:Expr}{me:EM}{pos':Pos}(hN:X.N.Nodup) (he:PE3 X e me) (hi:X.N[j]? = some x:=by rfl) (hx:Loc X.env.scope x:=by first|exact Or.inl rfl|exact Or.inr rfl) (hf:X.fn x=true\/X.env.scope.names.lookup x=some .local:=by first|exact .inl rfl|exact .inr rfl|assumption) :
  PS3 X (.AugAssign (.Name x pos') .Add e pos) (zam (eOp zkd (zaa j) me) (zah j)):=PS.imp (zwh hN hi hx he zwi hf) λE σ H hx2_=>by
 obtain ⟨ρ,l,S,f,l',S',sim,ro,hm,p⟩:=hx2_
 obtain ⟨⟨y,S1⟩,q1,hm⟩:=bnd hm
 obtain ⟨⟨x1,S2⟩,q2,q1⟩:=bnd q1
 obtain ⟨⟨x2,S3⟩,q3,q1⟩:=bnd q1
 cases hm
 unfold zaa at q2
 split at q2
 ·rename_i d ed
  cases q2
  obtain ⟨w,h1,h2⟩:=ro.get j _ ed
  refine ⟨w,h1,ρ,l,_,x2,S3,sim,ro,q3,λρ1 H1 x' e1 s1 r1=>?_⟩
  dsimp only at q1
  unfold zkd oI0 at q1
  split at q1
  ·cases q1
   cases h2;cases r1
   exact ⟨_,_,rfl,rfl,p ρ1 H1 _ e1 s1 ((ro.mono e1).set j (.int _))⟩
  ·cases q1
 ·cases q2
end
section
variable {X:Cx}
variable {a b:Expr}{ma mb:EM}{pos:Pos}
end
noncomputable def zge:D->D->Sto->Option (D × Sto):=λx y S=>(zau S 60 x).bind λp=>(zau S 60 y).bind λq=>if p.canLay0=true/\q.canLay0=true then some (.bl (p.eqv q),S) else none
noncomputable def zhb:D->D->Sto->Option (D × Sto):=λx y S=>(zau S 60 x).bind λp=>(zau S 60 y).bind λq=>if p.canLay0=true/\q.canLay0=true then some (.bl (!p.eqv q),S) else none
def zkl (K:QFg) (neg:Bool):R2:=λx y H Q=>∃ρ S dx dy p q,Sim K ρ S H/\RD ρ H dx x/\RD ρ H dy y/\zau S 60 dx=some p/\zau S 60 dy=some q/\p.canLay0=true/\q.canLay0=true/\Q (.bl (if neg then !p.eqv q else p.eqv q)) H
section
variable {X:Cx}
theorem yad {k:Nat}(hr:Room k X.A):OpR X (compareOp .Eq) (zkl X.K false):=by
 intro pins s σ H x y v u Q I rx ry h
 obtain ⟨ρ,S,dx,dy,p,q,sim,r1,r2,h1,h2,c1,c2,hq⟩:=h
 obtain ⟨⟨as,k1⟩,_,_,k2⟩:=zgd I sim 60 dx x v p r1 rx h1
 obtain ⟨⟨bs,k3⟩,_,_,k4⟩:=zgd I sim 60 dy y u q r2 ry h2
 have hu:X.A.units+min p.depth q.depth<cLine:=by have:=hr.un;have:min p.depth q.depth<=p.depth:=Nat.min_le_left _ _;omega
 exact PySem.SeqAt.compareEq_reads k1 k3 c1 c2 hu ⟨.bl _,H,I,rfl,hq⟩
theorem yae {k:Nat}(hr:Room k X.A):OpR X (compareOp .NotEq) (zkl X.K true):=by
 intro pins s σ H x y v u Q I rx ry h
 obtain ⟨ρ,S,dx,dy,p,q,sim,r1,r2,h1,h2,c1,c2,hq⟩:=h
 obtain ⟨⟨as,k1⟩,_,_,k2⟩:=zgd I sim 60 dx x v p r1 rx h1
 obtain ⟨⟨bs,k3⟩,_,_,k4⟩:=zgd I sim 60 dy y u q r2 ry h2
 have hu:X.A.units+min p.depth q.depth<cLine:=by have:=hr.un;have:min p.depth q.depth<=p.depth:=Nat.min_le_left _ _;omega
 exact PySem.SeqAt.compareNe_reads k1 k3 c1 c2 hu ⟨.bl _,H,I,rfl,hq⟩
theorem yaf {K:QFg}:Op3 K zge (zkl K false):=by
 intro ρ S H x y x' y' v S' Q sim rx ry h p
 obtain ⟨d1,h1,h⟩:=bnd h
 obtain ⟨d2,h2,h⟩:=bnd h
 obtain ⟨hc,e⟩:=za7 h
 cases e
 exact ⟨ρ,_,x,y,d1,d2,sim,rx,ry,h1,h2,hc.1,hc.2,p ρ H _ (Ext.refl ..) sim (.bl _)⟩
theorem yag {K:QFg}:Op3 K zhb (zkl K true):=by
 intro ρ S H x y x' y' v S' Q sim rx ry h p
 obtain ⟨d1,h1,h⟩:=bnd h
 obtain ⟨d2,h2,h⟩:=bnd h
 obtain ⟨hc,e⟩:=za7 h
 cases e
 exact ⟨ρ,_,x,y,d1,d2,sim,rx,ry,h1,h2,hc.1,hc.2,p ρ H _ (Ext.refl ..) sim (.bl _)⟩
variable {a b:Expr}{ma mb:EM}{pos:Pos}{k:Nat}
theorem yah (hr:Room k X.A) (ha:PE3 X a ma) (hb:PE3 X b mb):PT3 X (.Compare a [.Eq] [b] pos) (tE (eOp zge ma mb)):=zc1 (yad hr) yaf ha hb (zdp b)
theorem yai (hr:Room k X.A) (ha:PE3 X a ma) (hb:PE3 X b mb):PT3 X (.Compare a [.NotEq] [b] pos) (tE (eOp zhb ma mb)):=zc1 (yae hr) yag ha hb (zdp b)
end
noncomputable def zgf:D->Bool
 | .non=>true | .bl _=>true | .int _=>true | .str _=>true
 | _=>false
noncomputable def zef:D->D->Bool
 | .non,.non=>true
 | .bl a,.bl b=>a == b
 | .bl a,.int b=>(if a then 1 else 0) == b
 | .int a,.bl b=>a == (if b then 1 else 0)
 | .int a,.int b=>a == b
 | .str a,.str b=>a == b
 | _,_=>false
noncomputable def zqo (S:Sto):D->Option (List D)
 | .tup xs=>some xs
 | .ref n=>lstOf S n
 | _=>none
noncomputable def zkm (neg:Bool):D->D->Sto->Option (D × Sto):=λx y S=>(zqo S y).bind λxs=>if zgf x=true/\xs.all zgf=true then some (.bl (if neg then !(xs.any λy=>zef y x) else xs.any λy=>zef y x),S) else none
theorem zqp {ρ:List Addr}{H:Hp}{x:D}{x':V}(r:RD ρ H x x'):zd9 x' = zgf x:=by
 cases r <;> rfl
theorem yaj {ρ:List Addr}{H:Hp}{x y:D}{x' y':V}(r:RD ρ H x x') (r':RD ρ H y y'):eqV x' y' = zef x y:=by
 cases r <;> cases r' <;> rfl
theorem zqq {ρ:List Addr}{H:Hp}:∀{xs:List D}{vs:List V},RDs ρ H xs vs->vs.all zd9=xs.all zgf
 | _,_,.nil=>rfl
 | _,_,.cons r q=>by rw [List.all_cons,List.all_cons,zqp r,zqq q]
theorem zqr {ρ:List Addr}{H:Hp}{x:D}{x':V}(rx:RD ρ H x x'):∀{xs:List D}{vs:List V},RDs ρ H xs vs->inV x' vs=xs.any λy=>zef y x
 | _,_,.nil=>rfl
 | _,_,.cons r q=>by
  have ih:=zqr rx q
  unfold inV at ih ⊢
  rw [List.any_cons,List.any_cons,yaj r rx,ih]
theorem zqs {K:QFg}{neg:Bool}:Op3 K (zkm neg) (rIn K neg):=by
 intro ρ S H x y x' y' v S' Q sim rx ry h p
 obtain ⟨xs,h1,h⟩:=bnd h
 obtain ⟨hc,e⟩:=za7 h
 cases e
 have fin:∀a vs,y' = .ref a->(SqL K H a vs\/SqT K H a vs)->RDs ρ H xs vs->rIn K neg x' y' H Q:=λa vs e1 e2 r=>by
  refine ⟨a,vs,e1,e2,by rw [zqp rx];exact hc.1,by rw [zqq r];exact hc.2,?_⟩
  rw [zqr rx r]
  exact p ρ H _ (Ext.refl ..) sim (.bl _)
 cases ry with
 | tup ha r=>cases h1;exact fin _ _ rfl (.inr (SqT.of ha)) r
 | ref hn =>
  obtain ⟨a,vs,ha,sq,r⟩:=sim.lstOf h1
  rw [ha] at hn;cases hn
  exact fin _ _ rfl (.inl sq) r
 | _=>cases h1
noncomputable def ze0:Sto->D->Option ((Int->Bool) × Nat)
 | S,.ref n=>match S[n]? with
  | some (.iset f k)=>some (f,k)
  | _=>none
 | _,_=>none
theorem Sim.isetOf {K:QFg}{ρ:List Addr}{S:Sto}{H:Hp}{x:D}{v:V}{f:Int->Bool}{k:Nat}(s:Sim K ρ S H) (r:RD ρ H x v) (h:ze0 S x=some (f,k)):∃n a,x=.ref n/\v=.ref a/\ρ[n]? = some a/\S[n]? = some (.iset f k)/\H a=some (.set f k):=by
 unfold ze0 at h
 split at h
 ·rename_i n
  split at h
  ·rename_i f' k' e
   cases h
   cases r with
   | @ref _ a hn=>exact ⟨n,a,rfl,rfl,hn,e,s.at' n a _ hn e⟩
  ·cases h
 ·cases h
noncomputable def zi3 (neg:Bool):D->D->Sto->Option (D × Sto)
 | .int i,y,S=>(ze0 S y).bind λp=>some (.bl (if neg then !p.1 i else p.1 i),S)
 | _,_,_=>none
def zme (neg:Bool):R2:=λx y H Q=>∃i a f n,x=.int i/\y=.ref a/\H a=some (.set f n)/\Q (.bl (if neg then !f i else f i)) H
section
variable {X:Cx}
theorem op_inI:OpR X (compareOp .In) (zme false):=by
 intro pins s σ H x y v u Q I rx ry h
 obtain ⟨i,a,f,n,rfl,rfl,hH,q⟩:=h
 obtain ⟨t,rfl⟩:=rx
 cases ry
 exact PySem.wpAny_inSet_of (knd:=intKind X.prog X.w) (k:=i) (PySem.intKind_is X.prog X.w i t) rfl (I.hok a _ hH) ⟨.bl _,H,I.tok _,rfl,q⟩
theorem op_notInI:OpR X (compareOp .NotIn) (zme true):=by
 intro pins s σ H x y v u Q I rx ry h
 obtain ⟨i,a,f,n,rfl,rfl,hH,q⟩:=h
 obtain ⟨t,rfl⟩:=rx
 cases ry
 exact PySem.wpAny_notInSet_of (knd:=intKind X.prog X.w) (k:=i) (PySem.intKind_is X.prog X.w i t) rfl (I.hok a _ hH) ⟨.bl _,H,I.tok _,rfl,q⟩
theorem op3_inI {K:QFg}{neg:Bool}:Op3 K (zi3 neg) (zme neg):=by
 intro ρ S H x y x' y' v S' Q sim rx ry h p
 unfold zi3 at h
 split at h
 ·obtain ⟨⟨f,k⟩,h1,h⟩:=bnd h
  cases h
  cases rx
  obtain ⟨n,a,rfl,rfl,_,_,hH⟩:=sim.isetOf ry h1
  exact ⟨_,a,f,k,rfl,rfl,hH,p ρ H _ (Ext.refl ..) sim (.bl _)⟩
 ·cases h
noncomputable def dIn (neg:Bool):D->D->Sto->Option (D × Sto):=λx y S=>match zi3 neg x y S with|some v=>some v|none=>zkm neg x y S
variable {a b:Expr}{ma mb:EM}{pos:Pos}
theorem yak (ha:PE3 X a ma) (hb:PE3 X b mb) (hm:behindInMarks .In b=false:=by rfl):PT3 X (.Compare a [.In] [b] pos) (tE (eOp (dIn false) ma mb)):=zc1 (op_inI.or zx2) (op3_inI.or zqs) ha hb hm
theorem zqt (ha:PE3 X a ma) (hb:PE3 X b mb) (hm:behindInMarks .NotIn b=false:=by rfl):PT3 X (.Compare a [.NotIn] [b] pos) (tE (eOp (dIn true) ma mb)):=zc1 (op_notInI.or zx3) (op3_inI.or zqs) ha hb hm
end
noncomputable def zhc:D->List D->Sto->Option (D × Sto)
 | .ref n,[.int i],S=>match S[n]? with
  | some (.iset f k)=>if k+1<scanBound then some (.non,S.set n (.iset (λj=>f j || decide (j=i)) (if f i then k else k+1))) else none
  | _=>none
 | _,_,_=>none
def rAdd:V->List V->Hp->VK->Prop:=λx vs H Q=>∃a i f n,x=.ref a/\vs=[.int i]/\H a=some (.set f n)/\n+1<scanBound/\Q .non (upd H a (.set (λj=>f j || decide (j=i)) (if f i then n else n+1)))
section
variable {X:Cx}
theorem yal:MtM X "set.add" rAdd:=by
 intro pins s σ H x vs v us Q I rx rv h
 obtain ⟨a,i,f,n,rfl,rfl,hH,hz,q⟩:=h
 cases rx
 obtain ⟨u,rfl,ru⟩:=rv.one
 obtain ⟨t,rfl⟩:=ru
 refine PySem.call_set_add (knd:=intKind X.prog X.w) (k:=i) (PySem.intKind_is X.prog X.w i t) rfl (I.hok a _ hH) hz λh' sb hS=>?_
 obtain ⟨o,_,_,_,ho,_⟩:=id hS
 exact ⟨.non,_,I.write (x:=a) (e:=a) (o:=.set (λj=>f j || decide (j=i)) (if f i then n else n+1)) (by rw [hH];exact trivial) (.inl rfl) (λb o hb e=>sb.extBut b o hb e) ⟨o,ho⟩ hS,rfl,q⟩
theorem yam {K:QFg}:Mt3 K zhc rAdd:=by
 intro ρ S H x x' xs vs v S' Q sim rx r h p
 unfold zhc at h
 split at h
 ·split at h
  ·rename_i n i S f k e
   obtain ⟨hz,e2⟩:=za7 h
   cases e2
   obtain ⟨w,rfl,rw'⟩:=r.one
   cases rw'
   cases rx with
   | @ref _ a hn =>
    have hH:H a=some (.set f k):=sim.at' n a _ hn e
    refine ⟨a,i,f,k,rfl,rfl,hH,hz,p ρ _ _ (zik hn hH (zpq f k)) (sim.setG hn e rfl hH (zpq f k) ?_) .non⟩
    exact zbw
  ·cases h
 ·cases h
noncomputable def zkn (f:D->List D->Sto->Option (D × Sto)) (o:EM) (as:AM):EM:=λl S=>(o l S).bind λp=>(ze0 p.2 p.1).bind λ_=>(as l p.2).bind λq=>f p.1 q.1 q.2
variable {o e:Expr}{mo m:EM}{apos cpos:Pos}
theorem yan (ho:PE3 X o mo) (he:PE3 X e m)
  (hbase:attributeBase o "add" X.env (eval o X.env)=eval o X.env:=by rfl)
  (hfew:((backTo cpos (starEach [e] X.env)).all (λx=>!x.1) && (backToKw cpos (keywordEach [] X.env)).all (λx=>x.1.isSome)
   && decide ([e].length+([]:List Keyword).length+(if ([]:List Keyword).isEmpty then 0 else 1)<30))=true:=by rfl)
  (hline:(apos.endLine == cpos.line)=true:=by rfl) (hs:starEach [e] X.env=(false,eval e X.env) :: starEach [] X.env:=by rfl) :
  PE3 X (.Call (.Attribute o "add" apos) [e] [] cpos) (zkn zhc mo (zab m zae)) :=
 PE.imp (zo9 PySem.F.plainAttrs_set PySem.F.slot_set_add PySem.F.type_set_add yal ho (zad he zag hs) hbase hfew hline hs rfl) λσ H Q hx1_=>by
  obtain ⟨ρ,l,S,v,S',sim,ro,hq,p⟩:=hx1_
  obtain ⟨⟨x,S1⟩,h1,hq⟩:=bnd hq
  obtain ⟨⟨f,k⟩,h2,hq⟩:=bnd hq
  obtain ⟨⟨ys,S2⟩,h4,hq⟩:=bnd hq
  refine ⟨ρ,l,S,x,S1,sim,ro,h1,λρ1 H1 x' e1 s1 r1=>⟨?_,ρ1,l,S1,ys,S2,s1,ro.mono e1,h4,λρ2 H2 vs e2 s2 r2=>yam ρ2 S2 H2 x x' ys vs v S' Q s2 (r1.mono e2) r2 hq (p.ext (e1.trans e2))⟩⟩
  obtain ⟨n,a,rfl,rfl,_,_,hH⟩:=s1.isetOf r1 h2
  exact .inr (.inr (.inr ⟨rfl,f,k,hH⟩))
end
section
variable {prog:Program}{w:World}{A:Around}{E:Value->Shared->Prop}{s:Shared}
theorem zqu {env:Env}{q:Str}{Q:Bool->Shared->Prop}(h:s.heap.CodeRec env.code q) (hq:∀b,Q b s):wpAny (model prog w) A (inMainModule env) Q E s:=by
 obtain ⟨c,o,vs,t,e1,ho,hd,_⟩:=h
 unfold inMainModule
 rw [e1]
 show wpAny _ _ (fieldsOf (.ref c) >>= _) _ _ s
 refine qwb ?_
 show wpAny _ _ (load c >>= _) _ _ s
 refine qwb (wpAny_load ho ?_)
 rw [hd]
 refine qwp ?_
 split
 ·exact qwb (wpAny_askSetting (qwp (hq _)))
 ·exact qwp (hq _)
theorem yao {i:Int}{t:Tok}{m:Sem Value}{b:Bool}{Q:Value->Shared->Prop}(hm:∀s':Shared,∀R:Value->Shared->Prop,(∀t',R (.int i t') { s' with toks:=s'.toks+1 })->wpAny (model prog w) A m R E s')
  (h:∀h' tk,(∀b o,s.heap.get? b=some o->h'.get? b=some o)->h'.SetOf (intKind prog w) s.heap.objs.size (λk'=>false || decide (k' = i)) 1->Q (.ref s.heap.objs.size) { s with heap:=h',toks:=tk }) :
  wpAny (model prog w) A (setDisplay .oneByOne b [(false,m)]) Q E s:=by
 unfold setDisplay
 show wpAny _ _ (newSet (.type "set") >>= _) _ _ s
 refine qwb (PySem.wpAny_newSet_of (knd:=intKind prog w) λled hS=>?_)
 refine qwb (wpAny_holding ?_)
 show wpAny _ _ (evalAll [m] >>= _) _ _ _
 refine qwb ?_
 show wpAny _ _ (m >>= _) _ _ _
 refine qwb (hm _ _ λt'=>?_)
 refine qwb (wpAny_holding (qwp (qwp ?_)))
 refine qwb (wpAny_holding ?_)
 simp only [List.forIn_cons,List.forIn_nil,bind_assoc,pure_bind]
 refine qwb ?_
 unfold setAdd
 refine wpAny_holding (qwb ((intKind prog w).pyHash (k:=i) (PySem.intKind_is prog w i t') ?_))
 refine PySem.wpAny_setAddHashed_of (knd:=intKind prog w) (k:=i) (PySem.intKind_is prog w i t') rfl hS (by decide) λh' sb hS'=>?_
 refine qwp ?_
 refine qwp ?_
 refine qwp ?_
 exact h h' _ (λb o e=>sb.extBut b o (Nat.ne_of_lt (Heap.lt_size e)) (qps _ e)) hS'
end
section
variable {X:Cx}
theorem yap {i:Int}{j p pos}{q:Str}(hcd:PySem.W.codeIn X.K X.env.code q=true):PE X (.Set [.Constant (.int i) j p] 0 pos) (λ_ H Q=>∀a,H a=none->Q (.ref a) (upd H a (.set (λk=>false || decide (k=i)) 1))):=by
 intro pins s σ H Q I h
 rw [arm_eval_Set]
 refine qwb (wpAny_standAt (qwb (zqu (PySem.W.codeRec_of I.kIn hcd) λb=>?_)))
 refine yao (i:=i) (t:=0) (λs' R hR=>?_) λh' tk k hS=>?_
 ·exact qwb (wpAny_Constant_int (qwb (wpAny_standAt (qwp (hR _)))))
 ·exact ⟨.ref _,_,I.laid (o:=.set (λk=>false || decide (k=i)) 1) k (qlr _) hS,rfl,h _ I.fresh⟩
noncomputable def zmf (i:Int):EM:=λ_ S=>some (.ref S.length,S++[.iset (λk=>false || decide (k=i)) 1])
theorem yaq {i:Int}{j p pos}{q:Str}(hcd:PySem.W.codeIn X.K X.env.code q=true):PE3 X (.Set [.Constant (.int i) j p] 0 pos) (zmf i):=PE.imp (yap hcd) λσ H Q hx2_=>by
 obtain ⟨ρ,l,S,v,S',sim,ro,hm,p⟩:=hx2_
 cases hm
 intro a ha
 exact p (ρ++[a]) _ _ (zj6 ha) (sim.pushG ha zbw) (.ref (by rw [<-sim.len];exact zd0 ρ a))
end
noncomputable def zfj:Nat:=1000000
noncomputable def ze1:D->List D->Sto->Option (D × Sto)
 | .ref n,[.int i],S=>match S[n]? with
  | some (.lst xs)=>(seqIndex? i xs.length).bind λk=>(xs[k]?).bind λy=>if -(2 ^ 63)<=i/\i<2 ^ 63 then some (y,S.set n (.lst (xs.eraseIdx k))) else none
  | _=>none
 | _,_,_=>none
theorem RDs.eraseIdx {ρ:List Addr}{H:Hp}:∀{xs:List D}{vs:List V}(k:Nat),RDs ρ H xs vs->RDs ρ H (xs.eraseIdx k) (vs.eraseIdx k)
 | _,_,_,.nil=>.nil
 | _,_,0,.cons _ q=>q
 | _,_,k+1,.cons r q=>.cons r (RDs.eraseIdx k q)
theorem yar {K:QFg}:Mt3 K ze1 zpf:=by
 intro ρ S H x x' xs vs v S' Q sim rx r h p
 unfold ze1 at h
 split at h
 ·split at h
  ·rename_i n i S ys e
   obtain ⟨k,h1,h⟩:=bnd h
   obtain ⟨y,h2,h⟩:=bnd h
   obtain ⟨hz,e2⟩:=za7 h
   cases e2
   obtain ⟨w,rfl,rw'⟩:=r.one
   cases rw'
   obtain ⟨a,us,ha,hH,r2⟩:=sim.lst e
   obtain ⟨w2,hw,rw2⟩:=r2.get h2
   cases rx with
   | ref hn =>
    rw [ha] at hn;cases hn
    exact ⟨a,us,i,k,w2,rfl,rfl,hH,hz.1,hz.2,by rw [<-r2.length];exact h1,hw,p ρ _ _ (zil ha hH) (sim.set ha e hH (r2.eraseIdx k)) (rw2.mono (zil ha hH))⟩
  ·cases h
 ·cases h
section
variable {X:Cx}{o e:Expr}{mo m:EM}{apos cpos:Pos}
theorem zmg (ho:PE3 X o mo) (he:PE3 X e m)
  (hbase:attributeBase o "pop" X.env (eval o X.env)=eval o X.env:=by rfl)
  (hfew:((backTo cpos (starEach [e] X.env)).all (λx=>!x.1) && (backToKw cpos (keywordEach [] X.env)).all (λx=>x.1.isSome)
   && decide ([e].length+([]:List Keyword).length+(if ([]:List Keyword).isEmpty then 0 else 1)<30))=true:=by rfl)
  (hline:(apos.endLine == cpos.line)=true:=by rfl) (hs:starEach [e] X.env=(false,eval e X.env) :: starEach [] X.env:=by rfl) :
  PE3 X (.Call (.Attribute o "pop" apos) [e] [] cpos) (zb5 ze1 mo (zab m zae)) :=
 zkg PySem.F.slot_list_pop PySem.F.type_list_pop zx8 yar ho (zad he zag hs) hbase hfew hline hs
end
noncomputable def zgg:D->List D->Sto->Option (D × Sto)
 | .ref n,[.ref m],S=>match S[n]?,S[m]? with
  | some (.lst xs),some (.lst ys)=>if xs.length+ys.length<=sizeLine then some (.non,S.set n (.lst (xs++ys))) else none
  | _,_=>none
 | _,_,_=>none
theorem yas {K:QFg}:Mt3 K zgg zpe:=by
 intro ρ S H x x' xs vs v S' Q sim rx r h p
 unfold zgg at h
 split at h
 ·split at h
  ·rename_i n m S ys zs e e'
   obtain ⟨hz,e2⟩:=za7 h
   cases e2
   obtain ⟨w,rfl,rw'⟩:=r.one
   obtain ⟨a,us,ha,hH,r2⟩:=sim.lst e
   obtain ⟨b,ws,hb,hH2,r3⟩:=sim.lst e'
   cases rw' with
   | ref hm =>
    rw [hb] at hm;cases hm
    cases rx with
    | ref hn =>
     rw [ha] at hn;cases hn
     exact ⟨a,b,us,ws,rfl,rfl,hH,hH2,by rw [<-r2.length,<-r3.length];exact hz,p ρ _ _ (zil ha hH) (sim.set ha e hH (r2.append r3)) .non⟩
  ·cases h
 ·cases h
section
variable {X:Cx}{o e:Expr}{mo m:EM}{apos cpos:Pos}
theorem yat (ho:PE3 X o mo) (he:PE3 X e m)
  (hbase:attributeBase o "extend" X.env (eval o X.env)=eval o X.env:=by rfl)
  (hfew:((backTo cpos (starEach [e] X.env)).all (λx=>!x.1) && (backToKw cpos (keywordEach [] X.env)).all (λx=>x.1.isSome)
   && decide ([e].length+([]:List Keyword).length+(if ([]:List Keyword).isEmpty then 0 else 1)<30))=true:=by rfl)
  (hline:(apos.endLine == cpos.line)=true:=by rfl) (hs:starEach [e] X.env=(false,eval e X.env) :: starEach [] X.env:=by rfl) :
  PE3 X (.Call (.Attribute o "extend" apos) [e] [] cpos) (zb5 zgg mo (zab m zae)) :=
 zkg PySem.F.slot_list_extend PySem.F.type_list_extend zx7 yas ho (zad he zag hs) hbase hfew hline hs
end
noncomputable def zhd:D->D->Sto->Option (D × Sto)
 | .ref n,.int k,S=>match S[n]? with
  | some (.lst xs)=>if -(2 ^ 63)<=k/\k<2 ^ 63/\xs.length*k.toNat<=sizeLine then some (.ref S.length,S++[.lst (List.replicate k.toNat xs).flatten]) else none
  | _=>none
 | _,_,_=>none
theorem yau {K:QFg}:Op3 K zhd zph:=by
 intro ρ S H x y x' y' v S' Q sim rx ry h p
 unfold zhd at h
 split at h
 ·split at h
  ·rename_i n k S xs e
   obtain ⟨⟨h1,h2,h3⟩,e2⟩:=za7 h
   cases e2
   cases ry
   obtain ⟨a,us,ha,hH,r2⟩:=sim.lst e
   cases rx with
   | ref hn =>
    rw [ha] at hn;cases hn
    exact ⟨a,k,us,rfl,rfl,hH,h1,h2,by rw [<-r2.length];exact h3,zfy sim (r2.rep k.toNat) p⟩
  ·cases h
 ·cases h
theorem yav {X:Cx}{a b:Expr}{ma mb:EM}{pos:Pos}(ha:PE3 X a ma) (hb:PE3 X b mb):PE3 X (.BinOp a .Mult b pos) (eOp zhd ma mb):=zfx zya yau ha hb
noncomputable def zhe (lo:Int) (n:Nat):List V:=(List.range n).map λ(i:Nat)=>V.int (lo+i)
theorem zqv:∀{xs:List V}{us:List Value},xs.length=us.length->(∀(j:Nat) x u,xs[j]? = some x->us[j]? = some u->RelV x u)->Vals xs us
 | [],[],_,_=>.nil
 | [],_ :: _,h,_=>by simp at h
 | _ :: _,[],h,_=>by simp at h
 | x :: xs,u :: us,h,q=>.cons (q 0 x u rfl rfl) (zqv (by simpa using h) λj y w h1 h2=>q (j+1) y w (by simpa using h1) (by simpa using h2))
section
variable {X:Cx}
theorem yaw:CallR X (.type "range") (λxs H Q=>∃i j,xs=[.int i,.int j]/\∀r,H r=none->Q (.ref r) (upd H r (.rng i j))):=by
 intro pins s σ H xs us Q I r h
 obtain ⟨i,j,rfl,q⟩:=h
 obtain ⟨u1,u2,rfl,r1,r2⟩:=r.two
 obtain ⟨t,rfl⟩:=r1
 obtain ⟨t',rfl⟩:=r2
 exact call_range_2 ⟨.ref _,_,I.laid (o:=.rng i j) (λb o e=>qps _ e) (qlr _) ⟨_,_,_,Heap.get?_push_size _ rfl⟩,rfl,q _ I.fresh⟩
theorem yax:CallR X (.type "range") (λxs H Q=>∃j,xs=[.int j]/\∀r,H r=none->Q (.ref r) (upd H r (.rng 0 j))):=by
 intro pins s σ H xs us Q I r h
 obtain ⟨j,rfl,q⟩:=h
 obtain ⟨u1,rfl,r1⟩:=r.one
 obtain ⟨t,rfl⟩:=r1
 exact call_range_1 ⟨.ref _,_,I.laid (o:=.rng 0 j) (λb o e=>qps _ e) (qlr _) ⟨_,_,_,Heap.get?_push_size _ rfl⟩,rfl,q _ I.fresh⟩
theorem zqw (hc:X.calm=true):CallR X (.type "list") (λxs H Q=>∃p lo hi,xs=[.ref p]/\H p=some (.rng lo hi)/\(-(2 ^ 62)<=lo/\lo<2 ^ 62/\-(2 ^ 62)<=hi/\hi<2 ^ 62)/\(hi-lo).toNat<=sizeLine/\∀l,H l=none->Q (.ref l) (upd H l (.lst (zhe lo (hi-lo).toNat)))):=by
 intro pins s σ H xs us Q I r h
 obtain ⟨p,lo,hi,rfl,hH,⟨b1,b2,b3,b4⟩,hz,q⟩:=h
 obtain ⟨u1,rfl,r1⟩:=r.one
 cases r1
 obtain ⟨t,u,v,e⟩:=I.hok p _ hH
 have hn:Builtin.Range.rangeSize lo hi 1=((hi-lo).toNat:Nat):=by rw [rangeSize_one];split <;> omega
 have hz2:(hi-lo).toNat<=2 ^ 24:=Nat.le_trans hz (by decide)
 refine PySem.call_list_range (n:=(hi-lo).toNat) (I.ok.hd hc) e (small_one b1 b2 b3 b4) (by rw [hn]) hz2 λh' tk acc c' k he hi'=>?_
 obtain ⟨h1,h2⟩:=hi'
 refine ⟨.ref _,_,I.laid (o:=.lst (zhe lo (hi-lo).toNat)) k (qlr _) ⟨by unfold zhe;rw [qlm,List.length_range];exact hz,acc.toList,c',zqv (by simp [zhe,h1]) λj x w e1 e2=>?_,he⟩,rfl,q _ I.fresh⟩
 rw [Array.getElem?_toList] at e2
 obtain ⟨t',rfl⟩:=h2 j w e2
 unfold zhe at e1
 rw [qgm] at e1
 cases e3:(List.range (hi-lo).toNat)[j]? with
 | none=>rw [e3] at e1;cases e1
 | some i =>
  rw [e3] at e1
  cases e1
  have:=(qme e3).2
  simp at this
  subst this
  exact ⟨t',by rw [Int.mul_one]⟩
theorem zqx (ρ:List Addr) (H:Hp) (lo:Int) (n:Nat):RDs ρ H (za3 lo n) (zhe lo n):=zl5 ρ H lo n
theorem zqy:bootBuiltins "range" = some (.type "range"):=by decide +kernel
noncomputable def zhf (r:Lo->Sto->Option ((Int × Nat) × Sto)):EM:=λl S=>(r l S).bind λp=>if p.1.2<=sizeLine then some (.ref p.2.length,p.2++[.lst (za3 p.1.1 p.1.2)]) else none
variable {a a2:Expr}{mA:AM}{p p0 pos pos':Pos}
theorem yay (hc:X.calm=true) (hg:Gl X "list") (hm:X.mg "list" = none) (hgr:Gl X "range") (hmr:X.mg "range" = none) (ha:PA3 X [a,a2] mA)
  (he:starEach [.Call (.Name "range" p0) [a,a2] [] pos'] X.env=[(false,eval (.Call (.Name "range" p0) [a,a2] [] pos') X.env)]:=by rfl)
  (he2:starEach [a,a2] X.env=(false,eval a X.env) :: starEach [a2] X.env:=by rfl) (hpl2:(backTo pos' (starEach [a2] X.env)).any (·.1)=false:=by rfl) :
  PE3 X (.Call (.Name "list" p) [.Call (.Name "range" p0) [a,a2] [] pos'] [] pos) (zhf (zeu mA)) :=
 PE.imp (zie (zqw hc) hg hm zqi (zfa (zie yaw hgr hmr zqy ha (by decide) (by decide) he2 hpl2) zg0 he) (by decide) (by decide) he rfl) λσ H Q hx1_=>by
  obtain ⟨ρ,l,S,v,S',sim,ro,hm,p⟩:=hx1_
  obtain ⟨⟨⟨lo,n⟩,S1⟩,q1,hm⟩:=bnd hm
  obtain ⟨⟨xs,S2⟩,q2,q1⟩:=bnd q1
  dsimp only at q1 hm
  obtain ⟨hz,e⟩:=za7 hm
  cases e
  split at q1
  ·rename_i i0 j
   obtain ⟨hb,e⟩:=za7 q1
   cases e
   refine ⟨ρ,l,S,[.int lo,.int j],S1,sim,ro,q2,λρ1 H1 vs e1 s1 r1=>?_⟩
   obtain ⟨v,u,rfl,rv,ru⟩:=r1.two
   cases rv;cases ru
   refine ⟨lo,j,rfl,λr hr=>⟨r,lo,j,rfl,zbw,hb,hz,?_⟩⟩
   exact zfy (s1.laid hr) (zqx ρ1 _ lo (j-lo).toNat) (p.ext (e1.trans (zcc hr)))
  ·cases q1
theorem yaz (hc:X.calm=true) (hg:Gl X "list") (hm:X.mg "list" = none) (hgr:Gl X "range") (hmr:X.mg "range" = none) (ha:PA3 X [a] mA)
  (he:starEach [.Call (.Name "range" p0) [a] [] pos'] X.env=[(false,eval (.Call (.Name "range" p0) [a] [] pos') X.env)]:=by rfl)
  (he2:starEach [a] X.env=(false,eval a X.env) :: starEach [] X.env:=by rfl) :
  PE3 X (.Call (.Name "list" p) [.Call (.Name "range" p0) [a] [] pos'] [] pos) (zhf (zbx mA)) :=
 PE.imp (zie (zqw hc) hg hm zqi (zfa (zie yax hgr hmr zqy ha (by decide) (by decide) he2 rfl) zg0 he) (by decide) (by decide) he rfl) λσ H Q hx2_=>by
  obtain ⟨ρ,l,S,v,S',sim,ro,hm,p⟩:=hx2_
  obtain ⟨⟨⟨lo,n⟩,S1⟩,q1,hm⟩:=bnd hm
  obtain ⟨⟨xs,S2⟩,q2,q1⟩:=bnd q1
  dsimp only at q1 hm
  obtain ⟨hz,e⟩:=za7 hm
  cases e
  split at q1
  ·rename_i j
   obtain ⟨hb,e⟩:=za7 q1
   cases e
   refine ⟨ρ,l,S,[.int j],S1,sim,ro,q2,λρ1 H1 vs e1 s1 r1=>?_⟩
   obtain ⟨v,rfl,rv⟩:=r1.one
   cases rv
   refine ⟨j,rfl,λr hr=>⟨r,0,j,rfl,zbw,⟨by decide,by decide,hb.1,hb.2⟩,by simpa using hz,?_⟩⟩
   have:=zfy (s1.laid (u:=.rng 0 j) hr) (zqx ρ1 _ 0 j.toNat) (p.ext (e1.trans (zcc hr)))
   simpa using this
  ·cases q1
end
section
variable {X:Cx}
variable {a:Expr}{es:List Expr}{mA:AM}{p pos:Pos}
end
theorem ya0 {X:Cx}{pins:List (Addr × Obj)}{σ:St}{H:Hp}{s:Shared}(I:Inv X pins σ H s):sysModules<s.heap.objs.size:=by
 have h:mainGlobals<s.heap.objs.size:=(I.mod.glob.keeps I.bk).lt
 exact Nat.lt_trans (by decide) h
section
variable {X:Cx}{pos:Pos}
end
noncomputable def zi4:D->D->Sto->Option (D × Sto)
 | .ref n,.ref m,S=>match S[n]?,S[m]? with
  | some (.lst xs),some (.lst [])=>some (.bl (!xs.isEmpty),S)
  | _,_=>none
 | _,_,_=>none
def zqz:R2:=λx y H Q=>∃a b xs,x=.ref a/\y=.ref b/\H a=some (.lst xs)/\H b=some (.lst [])/\Q (.bl (!xs.isEmpty)) H
section
variable {X:Cx}{a b:Expr}{ma mb:EM}{pos:Pos}{k:Nat}
theorem ya1 (hr:Room k X.A):OpR X (compareOp .NotEq) zqz:=by
 intro pins s σ H x y v u Q I rx ry h
 obtain ⟨a,b,xs,rfl,rfl,ha,hb,q⟩:=h
 cases rx;cases ry
 obtain ⟨z,its,n,r,hl,e⟩:=I.lstM ha
 obtain ⟨z2,its2,n2,r2,hl2,e2⟩:=I.lstM hb
 cases r2
 have hu:X.A.units<cLine:=by have:=hr.un;omega
 have l1:s.heap.IsList a its.toArray:=⟨_,e,rfl,n,rfl⟩
 have l2:s.heap.IsList b ([]:List Value).toArray:=⟨_,e2,rfl,n2,rfl⟩
 cases xs with
 | nil =>
  cases r
  have:=SeqAt.RcNeAt.lists (A:=X.A) (e:=λ_=>true) l1 l2 rfl hu (λj h1 _=>by simp at h1)
  exact this X.prog X.w X.xe _ ⟨.bl _,H,I,rfl,q⟩
 | cons y ys =>
  cases r with
  | cons r1 r2 =>
   exact SeqAt.RcNeAt.lists_lengths (A:=X.A) l1 l2 (by simp) hu X.prog X.w X.xe _ ⟨.bl _,H,I,rfl,q⟩
theorem ya2 {K:QFg}:Op3 K zi4 zqz:=by
 intro ρ S H x y x' y' v S' Q sim rx ry h p
 unfold zi4 at h
 split at h
 ·split at h
  ·rename_i n m S xs e1 e2
   cases h
   obtain ⟨a,us,ha,hH,r2⟩:=sim.lst e1
   obtain ⟨b,ws,hb,hH2,r3⟩:=sim.lst e2
   cases r3
   cases rx with
   | ref hn =>
    rw [ha] at hn;cases hn
    cases ry with
    | ref hm =>
     rw [hb] at hm;cases hm
     refine ⟨a,b,us,rfl,rfl,hH,hH2,?_⟩
     have:us.isEmpty=xs.isEmpty:=by cases r2 <;> rfl
     rw [this]
     exact p ρ H _ (Ext.refl ..) sim (.bl _)
  ·cases h
 ·cases h
theorem ya3 (hr:Room k X.A) (ha:PE3 X a ma) (hb:PE3 X b mb):PT3 X (.Compare a [.NotEq] [b] pos) (tE (eOp zi4 ma mb)):=zc1 (ya1 hr) ya2 ha hb (zdp b)
end
section
variable {X:Cx}{pins:List (Addr × Obj)}{σ:St}{H:Hp}{s:Shared}{ρ:List Addr}{S:Sto}
end
section
variable {X:Cx}{a:Expr}{es:List Expr}{mA:AM}{pos p:Pos}
end
section
variable {prog:Program}{w:World}{A:Around}{E:Value->Shared->Prop}{s:Shared}
theorem ya4 {b t:Addr}{n:Nat}{vs:Array Value}{u:Value}{Q:Value->Shared->Prop}(hb:s.heap.IsTupleIter b t n) (ht:s.heap.IsTuple t vs) (hu:vs[n]? = some u)
  (q:∀h1,h1.IsTupleIter b t (n+1)->Heap.SameBut b s.heap h1->Q u { s with heap:=h1 }):wpAny (model prog w) A (Builtin.SmallTypes.nextOf (.ref b)) Q E s:=by
 obtain ⟨ob,gb,cb,db⟩:=id hb
 obtain ⟨ot,gt,_,nt,dt⟩:=ht
 unfold Builtin.SmallTypes.nextOf
 refine qwb (wpAny_callSpecial?_slot (name:=Str.ofString "__next__") hb.typeIs F.slot_tuple_iterator_next (wpAny_call_entry F.slot_tuple_iterator_next hb.typeIs F.entry_tuple_iterator_next ?_ (F.args_tuple_iterator_next_1 _)))
 show wpAny _ _ (field (.ref b) 0 >>= _) _ _ s
 refine qwb (wpAny_field gb db (x:=.ref t) rfl ?_)
 show wpAny _ _ (if (Value.ref t == Value.none)=true then _ else _) _ _ s
 rw [if_neg (by intro z;cases z)]
 show wpAny _ _ (field (.ref b) 1 >>= _) _ _ s
 refine qwb (wpAny_field gb db (x:=.int n 0) rfl ?_)
 show wpAny _ _ (seqItems? (.ref t) >>= _) _ _ s
 refine qwb (wpAny_seqItems gt dt ?_)
 simp only [Int.toNat_natCast,hu]
 refine qwb (wpAny_setField gb db (by simp) (qwp ⟨u,rfl,qwp (q _ ⟨_,Heap.get?_update_self _ gb (Obj.isFreed_of_fields (Obj.data_mapFields db _)),(Obj.cls_mapFields ..).trans cb,by rw [Obj.data_mapFields db];simp [rawInt]⟩ (Heap.SameBut.update ..))⟩))
theorem zmh {b t:Addr}{n:Nat}{vs:Array Value}{Q:Value->Shared->Prop}(hA:A.handled=none) (hb:s.heap.IsTupleIter b t n) (ht:s.heap.IsTuple t vs) (hu:vs[n]? = none)
  (q:∀h1 x,Heap.ExtBut b s.heap h1->(∃o,h1.get? x=some o/\o.cls=.type "StopIteration")->E (.ref x) { s with heap:=h1 }):wpAny (model prog w) A (Builtin.SmallTypes.nextOf (.ref b)) Q E s:=by
 obtain ⟨ob,gb,cb,db⟩:=id hb
 obtain ⟨ot,gt,_,nt,dt⟩:=ht
 unfold Builtin.SmallTypes.nextOf
 refine qwb (wpAny_callSpecial?_slot (name:=Str.ofString "__next__") hb.typeIs F.slot_tuple_iterator_next (wpAny_call_entry F.slot_tuple_iterator_next hb.typeIs F.entry_tuple_iterator_next ?_ (F.args_tuple_iterator_next_1 _)))
 show wpAny _ _ (field (.ref b) 0 >>= _) _ _ s
 refine qwb (wpAny_field gb db (x:=.ref t) rfl ?_)
 show wpAny _ _ (if (Value.ref t == Value.none)=true then _ else _) _ _ s
 rw [if_neg (by intro z;cases z)]
 show wpAny _ _ (field (.ref b) 1 >>= _) _ _ s
 refine qwb (wpAny_field gb db (x:=.int n 0) rfl ?_)
 show wpAny _ _ (seqItems? (.ref t) >>= _) _ _ s
 refine qwb (wpAny_seqItems gt dt ?_)
 simp only [Int.toNat_natCast,hu]
 refine qwb (wpAny_rule (qwb (wpAny_setField gb db (by simp) ?_)))
 show wpAny _ _ (newExc (.type "StopIteration") [] >>= _) _ _ _
 refine qwb ?_
 simp only [newExc,newTuple]
 refine qwb (wpAny_newObj_type ?_ (by size_fits))
 refine qwb (m:=firstArgMember _ _) (wpAny_of_eq (a:=Value.none) (by first|rfl|(simp only [firstArgMember];rfl)) ?_)
 refine wpAny_newObj_type ?_ (by size_fits)
 simp only [raiseNew]
 refine qwb (wpAny_handled ?_)
 first|rw [show A.in1.handled=none from hA]|rw [hA]
 refine qwb (qwp (wpAny_throw ?_))
 exact q _ _ (((Heap.SameBut.update ..).extBut.push _).push _) ⟨_,Heap.get?_push_size _ rfl,rfl⟩
end
theorem zq0 {prog:Program}{w:World}{A:Around}(hA:A.handled=none) (b t:Addr) (hne:t≠b) (vs:Array Value) :
  Draws prog w A b [b,t] vs.size (λi v=>vs[i]? = some v) (λi h=>h.IsTupleIter b t i/\h.IsTuple t vs) where
 live:=λ_ _ st=>let ⟨o,ho,_⟩:=st.1;⟨o,ho⟩
 frame:=λ_ _ _ st hk=>⟨let ⟨o,ho,r⟩:=st.1;⟨o,hk b (by simp) o ho,r⟩,let ⟨o,ho,r⟩:=st.2;⟨o,hk t (by simp) o ho,r⟩⟩
 item:=λi s Q E hi st hQ=>ya4 st.1 st.2 (u:=vs[i]) (by simp [hi]) λh1 hb1 hs1=>hQ _ h1 s.toks (by simp [hi]) ⟨hb1,st.2.extBut hs1.extBut hne⟩ hs1
 done:=λs Q E st hE=>zmh hA st.1 st.2 (by simp) hE
theorem Inv.dealt {X:Cx}{pins:List (Addr × Obj)}{σ:L2.St}{H:Hp}{s:Shared}{h1:Heap}{t1:Nat}{ch:List Addr}{xs:List V}{us:List Value}(I:Inv X pins σ H s) (hf:∀b∈ch,zdo X pins H b)
  (k:∀b o,b ∉ ch->s.heap.get? b=some o->h1.get? b=some o) (g:IsTD h1 s.heap.objs.size us.toArray) (r:Vals xs us) (hz:xs.length<=sizeLine) :
  Inv X pins σ (upd H s.heap.objs.size (.tup xs)) { s with heap:=h1,toks:=t1 }:=by
 have hn:H s.heap.objs.size=none:=I.hok.fresh (qlr _)
 have ne:∀b o,s.heap.get? b=some o->b≠s.heap.objs.size:=λb o e=>Nat.ne_of_lt (Heap.lt_size e)
 have nf:∀b u,H b=some u->b ∉ ch:=λb u e z=>by rw [(hf b z).1] at e;cases e
 refine I.step (g':=s.gens) (d':=s.drawn) (ch:=ch) (λb hb=>?_) (λb o _ _ hc e _=>k b o hc e) (λb o _ _ hc e _=>⟨o.slots,k b o hc e⟩) (λb o _ e n=>by rw [zap (ne b o e)];exact n)
  (λb o hc e=>⟨o,k b o hc e⟩) (λb ys e=>by rw [zap (zbd e hn)];exact e) (λb o u e=>by rw [zap (zbd e hn)];exact e) (λb ps e=>⟨#[],by rw [zap (zbd e hn),e];simp⟩) (λm hm=>?_) (λb u e=>?_) I.bare
 ·obtain ⟨_,q1,_,q3,q4,q5⟩:=hf b hb
  exact ⟨q3,q1,q4,q5⟩
 ·obtain ⟨o,es,ep,ho,q⟩:=hm
  exact ⟨o,es,ep,k _ o (λz=>(hf _ z).2.1 rfl) ho,q⟩
 ·by_cases hb:b=s.heap.objs.size
  ·subst hb;rw [zbw] at e;cases e;exact ⟨hz,us,r,g⟩
  ·rw [zap hb] at e
   refine (I.hok b u e).stay (λc v hc q=>k c v ?_ q) (λc q=>by rw [zap (zbd q hn)];exact q) λc xs q=>by rw [zap (zbd q hn)];exact q
   rcases hc with z|z
   ·rw [z];exact nf b u e
   ·exact nf c _ z
noncomputable def Itn (J:It):It:=⟨J.go,λi H x H1=>∃y p,J.yld i H y H/\H p=none/\x=.ref p/\H1=upd H p (.tup [.int i,y]),J.stop⟩
section
variable {P:Program}{w:World}{K:QFg}{elts:List Expr}{z:Nat}{tp:Pos}
theorem zmi {e b:Addr}{T:Heap->Prop}(hT:∀h,T h->∃o,h.get? b=some o/\∀v,o.data≠.cell v) (i:Nat) (h:Heap) (st:(∃old,IsEnum h e b i old)/\T h):∀c∈[e,b],∃o,h.get? c=some o/\∀v,o.data≠.cell v:=λc hc=>by
 have hc:c=e\/c=b:=by simpa using hc
 rcases hc with rfl|rfl
 ·obtain ⟨⟨old,q⟩,_⟩:=st
  exact ⟨_,q,λv z=>by
   have z:Data.fields _=Data.cell v:=z
   cases z⟩
 ·exact hT h st.2
theorem zko {h:Heap}{a b:Addr}{c d:Value}{p q:Obj->Prop}(ha:∃o,h.get? a=some o/\o.cls=c/\p o) (hb:∃o,h.get? b=some o/\o.cls=d/\q o) (n:c≠d):a≠b:=by
 rintro rfl
 obtain ⟨o,e,c1,_⟩:=ha
 obtain ⟨o2,e2,c2,_⟩:=hb
 rw [e] at e2;cases e2
 exact n (c1.symm.trans c2)
theorem zmj {X:Cx}{pins:List (Addr × Obj)}{σ:L2.St}{H:Hp}{s:Shared}{e b:Addr}{i tk:Nat}{x:V}{u:Value}{h1 h2:Heap}{J:It}{T:Heap->Prop}(I:Inv X pins σ H s) (hf:∀c∈[e,b],zdo X pins H c) (ru:RelV x u)
  (le:e<s.heap.objs.size) (lb:b<s.heap.objs.size) (hk:∀c o,c≠e->c≠b->s.heap.get? c=some o->h1.get? c=some o) (hT:h1.get? s.heap.objs.size=some { cls:=.type "tuple",data:=.seq #[.int i tk,u] })
  (he2:IsEnum h2 e b ((i:Int)+1) u) (hs2:Heap.SameBut e h1 h2) (t2:T h2) (y:J.yld i H x H) :
  ∃x1 H1,Inv X pins σ H1 { s with heap:=h2,toks:=tk+1 }/\RelV x1 (.ref s.heap.objs.size)/\(Itn J).yld i H x1 H1/\((∃old,IsEnum h2 e b ((i+1:Nat):Int) old)/\T h2)/\∀c∈[e,b],H1 c=none:=by
 have hn:H s.heap.objs.size=none:=I.hok.fresh (qlr _)
 refine ⟨.ref s.heap.objs.size,upd H s.heap.objs.size (.tup [.int i,x]),?_,rfl,⟨x,s.heap.objs.size,y,hn,rfl,rfl⟩,⟨⟨u,by simpa using he2⟩,t2⟩,λc hc=>?_⟩
 ·refine Inv.dealt (us:=[.int i tk,u]) I hf (λc o hc q=>?_) ⟨_,(hs2.2 _ (Nat.ne_of_gt le)).trans hT,rfl,_,rfl,rfl⟩ (.cons ⟨tk,rfl⟩ (.cons ru .nil)) (by show 2<=sizeLine;decide)
  have h3:c≠e/\c≠b:=⟨λz=>hc (by simp [z]),λz=>hc (by simp [z])⟩
  exact (hs2.2 c h3.1).trans (hk c o h3.1 h3.2 q)
 ·have:c≠s.heap.objs.size:=by
   have hc:c=e\/c=b:=by simpa using hc
   rcases hc with rfl|rfl
   ·exact Nat.ne_of_lt le
   ·exact Nat.ne_of_lt lb
  rw [zap this];exact (hf c hc).1
theorem ya5 (a e b:Addr) (heb:e≠b):Turn P w K (.Tuple elts z tp) (Itn (Itl K a)) [e,b] e (λi h=>(∃old,IsEnum h e b i old)/\h.IsListIter b a i) where
 mem:=by simp
 obj:=λi h st=>zmi (T:=λh=>h.IsListIter b a i) (λh ⟨o,q,c,d⟩=>⟨o,q,λv z=>by rw [d] at z;cases z⟩) i h st
 keep:=λi h h1 st k=>⟨let ⟨old,q⟩:=st.1;⟨old,k e (by simp) _ q⟩,st.2.at λo q=>k b (by simp) o q⟩
 item:=by
  intro X hP hw hK hc i pins s σ H E I hf st hg
  subst hP hw hK
  obtain ⟨xs,x,hq,hx⟩:=hg
  obtain ⟨its,rv,p,hz⟩:=I.list hq
  obtain ⟨u,hu,ru⟩:=rv.get hx
  obtain ⟨⟨old,he⟩,hb⟩:=st
  have nab:a≠b:=zko p.isList hb (by decide)
  have nae:a≠e:=zko (d:=.type "enumerate") (q:=λ_=>True) p.isList ⟨_,he,rfl,trivial⟩ (by decide)
  have hlt:i<its.toArray.size:=by simpa using (qme hu).1
  refine wpAny_pyNext_enum_itemD (Draws.list (A:=X.A.in1) (I.ok.hd hc) b a nab its.toArray) he ⟨hb,p.isList⟩ hlt heb (by simp [heb,nae.symm]) λx1 h1 tk hP ho hs1 hT hsz hk=>?_
  have hx1:x1=u:=by
   have:its.toArray[i]? = some u:=by simpa using hu
   rw [this] at hP;exact (qoi hP).symm
  subst hx1
  obtain ⟨ob,gb,_⟩:=id hb
  refine ⟨_,rfl,wpAny_letOwnedTupleGo_enum ho λh2 he2 hs2=>?_⟩
  replace hs2:Heap.SameBut e h1 h2:=hs2
  exact zmj (J:=Itl X.K a) (T:=λh=>h.IsListIter b a (i+1)) I hf ru (Heap.lt_size he) (Heap.lt_size gb) hk hT he2 hs2 (hs1.1.at λo q=>(hs2.2 b heb.symm).trans q) ⟨rfl,λys hy=>by rw [I.list_inj hy hq];exact hx⟩
 done:=by
  intro X hP hw hK hc i pins s σ H E I hf st hg
  subst hP hw hK
  obtain ⟨xs,hq,hx⟩:=hg
  obtain ⟨its,rv,p,hz⟩:=I.list hq
  obtain ⟨⟨old,he⟩,hb⟩:=st
  obtain ⟨f0,f1,f2,f3,f4,f5⟩:=hf b (by simp)
  have hl:=rv.length
  exact wpAny_pyNext_enum_end (I.ok.hd hc) he hb p.isList (by simp;omega) λh1 eb=>⟨rfl,I.turned (t':=s.toks) (λc o hb q=>eb c o hb q) f0 f1 f3 f4 f5⟩
 self:=λA i s Q E st h=>let ⟨old,q⟩:=st.1;wpAny_pyIter_enum q h
theorem ya6 {A:Around}{E:Value->Shared->Prop}{s:Shared}{e b t:Addr}{n:Nat}{vs:Array Value}{old:Value}{Q:Option Value->Shared->Prop}(hA:A.handled=none) (he:IsEnum s.heap e b n old) (hb:s.heap.IsTupleIter b t n)
  (ht:s.heap.IsTuple t vs) (hu:vs[n]? = none) (q:∀h1,Heap.ExtBut b s.heap h1->Q none { s with heap:=h1 }):wpAny (model P w) A (pyNext (.ref e)) Q E s:=by
 have ty:s.TypeIs (.ref e) "enumerate":=⟨_,he,rfl⟩
 unfold pyNext
 refine qwb (wpAny_attempt (wpAny_callSpecial?_slot (name:=Str.ofString "__next__") ty F.slot_enumerate_next (wpAny_call_entry F.slot_enumerate_next ty F.entry_enumerate_next ?_ (F.args_enumerate_next_1 _))))
 show wpAny _ _ (field (.ref e) 2 >>= _) _ _ _
 refine qwb (wpAny_field he rfl (x:=.ref b) rfl ?_)
 refine qwb (zmh hA hb ht hu λh1 x q1 ⟨o,g,c⟩=>?_)
 exact qwb (wpAny_isInstance (T:="StopIteration") (b:=true) ⟨o,g,c⟩ isSubtype_stop (qwp (q _ q1)))
theorem ya7 (a e b:Addr) (heb:e≠b):Turn P w K (.Tuple elts z tp) (Itn (Itt K a)) [e,b] e (λi h=>(∃old,IsEnum h e b i old)/\h.IsTupleIter b a i) where
 mem:=by simp
 obj:=λi h st=>zmi (T:=λh=>h.IsTupleIter b a i) (λh ⟨o,q,c,d⟩=>⟨o,q,λv z=>by rw [d] at z;cases z⟩) i h st
 keep:=λi h h1 st k=>⟨let ⟨old,q⟩:=st.1;⟨old,k e (by simp) _ q⟩,let ⟨o,q,r⟩:=st.2;⟨o,k b (by simp) o q,r⟩⟩
 item:=by
  intro X hP hw hK hc i pins s σ H E I hf st hg
  subst hP hw hK
  obtain ⟨xs,x,hq,hx⟩:=hg
  obtain ⟨its,rv,p,hz⟩:=I.tuple hq
  obtain ⟨u,hu,ru⟩:=rv.get hx
  obtain ⟨⟨old,he⟩,hb⟩:=st
  have p:s.heap.IsTuple a its.toArray:=p
  have nab:a≠b:=zko p hb (by decide)
  have nae:a≠e:=zko (d:=.type "enumerate") (q:=λ_=>True) p ⟨_,he,rfl,trivial⟩ (by decide)
  have hlt:i<its.toArray.size:=by simpa using (qme hu).1
  refine wpAny_pyNext_enum_itemD (zq0 (A:=X.A.in1) (I.ok.hd hc) b a nab its.toArray) he ⟨hb,p⟩ hlt heb (by simp [heb,nae.symm]) λx1 h1 tk hP ho hs1 hT hsz hk=>?_
  have hx1:x1=u:=by
   have:its.toArray[i]? = some u:=by simpa using hu
   rw [this] at hP;exact (qoi hP).symm
  subst hx1
  obtain ⟨ob,gb,_⟩:=id hb
  refine ⟨_,rfl,wpAny_letOwnedTupleGo_enum ho λh2 he2 hs2=>?_⟩
  replace hs2:Heap.SameBut e h1 h2:=hs2
  exact zmj (J:=Itt X.K a) (T:=λh=>h.IsTupleIter b a (i+1)) I hf ru (Heap.lt_size he) (Heap.lt_size gb) hk hT he2 hs2 (hs1.1.extBut hs2.extBut heb.symm) ⟨rfl,λys hy=>by rw [I.tuple_inj hy hq];exact hx⟩
 done:=by
  intro X hP hw hK hc i pins s σ H E I hf st hg
  subst hP hw hK
  obtain ⟨xs,hq,hx⟩:=hg
  obtain ⟨its,rv,p,hz⟩:=I.tuple hq
  obtain ⟨⟨old,he⟩,hb⟩:=st
  obtain ⟨f0,f1,f2,f3,f4,f5⟩:=hf b (by simp)
  have hl:=rv.length
  exact ya6 (I.ok.hd hc) he hb p (by simp;omega) λh1 eb=>⟨rfl,I.turned (t':=s.toks) (λc o hb q=>eb c o hb q) f0 f1 f3 f4 f5⟩
 self:=λA i s Q E st h=>let ⟨old,q⟩:=st.1;wpAny_pyIter_enum q h
end
open AutoSeq1
theorem ya8 (t:Addr) (vs:Array Value) (m:Nat) (dc:Option Addr) (sl:Array (Option Value)) :
  Meets (Builtin.«enumerate.__new__» ⟨[.type "enumerate",.ref t],[]⟩) (λ_ R s=>s.heap.get? t=some { cls:=.type "tuple",dict:=dc,data:=.seq vs m,slots:=sl } /\
   R (.ok (.ret (.ref (s.heap.push { cls:=.type "tuple_iterator",data:=.fields #[.ref t,.int 0 0] }).objs.size)))
    { s with heap:=(s.heap.push { cls:=.type "tuple_iterator",data:=.fields #[.ref t,.int 0 0] }).push { cls:=.type "enumerate",data:=.fields #[.none,.bool false,.ref s.heap.objs.size,rawInt 0,.none,.none] } }) :=
 .of_wp λprog w A R s hx1_=>by
  obtain ⟨ht,h⟩:=hx1_
  have sub1:=sub_enumerate
  obtain ⟨hp,g,d,tk,os⟩:=s
  have tt:Heap.IsTuple (Shared.heap ⟨hp,g,d,tk,os⟩) t vs:=⟨_,ht,rfl,m,rfl⟩
  wp_walk using wpAny_loadPart' ht
  refine wpAny_stack_any λ_=>qwp ?_
  split
  ·rename_i c _ _ _ _ _
   cases (c == Value.type "enumerate") <;> (wp_walk using wpAny_loadPart' ht,wpAny_pyIter_tuple tt;exact ⟨_,rfl,h⟩)
  ·wp_walk using wpAny_loadPart' ht,wpAny_pyIter_tuple tt
   exact ⟨_,rfl,h⟩
section
variable {prog:Program}{w:World}{A:Around}{E:Value->Shared->Prop}{s:Shared}
theorem ya9 {t:Addr}{vs:Array Value}{Q:Value->Shared->Prop}(ht:s.heap.IsTuple t vs)
  (q:∀h1,IsEnum h1 (s.heap.objs.size+1) s.heap.objs.size 0 .none->h1.IsTupleIter s.heap.objs.size t 0->(∀b o,s.heap.get? b=some o->h1.get? b=some o)->Q (.ref (s.heap.objs.size+1)) { s with heap:=h1 }) :
  wpAny (model prog w) A (call (.type "enumerate") [.ref t]) Q E s:=by
 obtain ⟨⟨c,dc,dt,sl⟩,gt,hc,m,hd⟩:=ht
 replace hc:c=.type "tuple":=hc
 replace hd:dt=.seq vs m:=hd
 subst hc hd
 refine callType_new F.called_enumerate (by decide) (F.typeCall_enumerate_1 _) (F.newCall_enumerate_1 _) (λo=>F.args_object_init_2 o _) F.entry_enumerate_new (ya8 t vs m dc sl) ⟨gt,?_⟩
 have hz:(s.heap.push { cls:=.type "tuple_iterator",data:=.fields #[.ref t,.int 0 0] }).objs.size=s.heap.objs.size+1:=Heap.size_push ..
 show _/\_
 rw [hz]
 have he:IsEnum ((s.heap.push { cls:=.type "tuple_iterator",data:=.fields #[.ref t,.int 0 0] }).push { cls:=.type "enumerate",data:=.fields #[.none,.bool false,.ref s.heap.objs.size,rawInt 0,.none,.none] }) (s.heap.objs.size+1) s.heap.objs.size 0 .none:=by
  rw [<-hz];exact Heap.get?_push_size _ rfl
 exact ⟨⟨_,he,rfl⟩,q _ he ⟨_,qps _ (Heap.get?_push_size _ rfl),rfl,rfl⟩ λb o x=>qps _ (qps _ x)⟩
end
theorem zmk:bootBuiltins "enumerate" = some (.type "enumerate"):=by decide +kernel
section
variable {X:Cx}{elts:List Expr}{z:Nat}{tp:Pos}
def yba (K:QFg) (ta:TA):TI:=λσ H R=>ta σ H λvs H1=>∃a,vs=[.ref a]/\(∃xs,SqL K H1 a xs)/\R (Itn (Itl K a)) H1
def ybb (K:QFg) (ta:TA):TI:=λσ H R=>ta σ H λvs H1=>∃a,vs=[.ref a]/\(∃xs,SqT K H1 a xs)/\R (Itn (Itt K a)) H1
theorem zkp {pins:List (Addr × Obj)}{σ:L2.St}{H:Hp}{s:Shared}{R:It->Hp->Prop}{E:Value->Shared->Prop}{J:It}{T:Nat->Heap->Prop}{h1:Heap}(I:Inv X pins σ H s) (tu:Turn X.prog X.w X.K (.Tuple elts z tp) J [s.heap.objs.size+1,s.heap.objs.size] (s.heap.objs.size+1) (λi h=>(∃old,IsEnum h (s.heap.objs.size+1) s.heap.objs.size i old)/\T i h))
  (he:IsEnum h1 (s.heap.objs.size+1) s.heap.objs.size 0 .none) (t0:T 0 h1) (hk:∀b o,s.heap.get? b=some o->h1.get? b=some o) (q:R J H):wpAny (model X.prog X.w) X.A (pyIter (.ref (s.heap.objs.size+1))) (PIE X pins σ (.Tuple elts z tp) R) E { s with heap:=h1 }:=by
 refine wpAny_pyIter_enum (s:={ s with heap:=h1 }) he ⟨_,_,_,J,H,rfl,I.kept (t':=s.toks) hk,tu,⟨⟨_,he⟩,t0⟩,λc hc=>?_,q⟩
 have:s.heap.objs.size<=c:=by
  have hc:c=s.heap.objs.size+1\/c=s.heap.objs.size:=by simpa using hc
  rcases hc with rfl|rfl
  ·exact Nat.le_succ _
  ·exact qlr _
 exact I.fpOk this (I.hok.fresh this)
theorem ybc {a:Expr}{ta:TA}{p pos:Pos}(hg:Gl X "enumerate") (hm:X.mg "enumerate" = none) (ha:PA X [a] ta) (hs:starEach [a] X.env=[(false,eval a X.env)]:=by rfl):PI X (.Tuple elts z tp) (.Call (.Name "enumerate" p) [a] [] pos) (yba X.K ta):=by
 intro pins s σ H R I h
 refine Call_ (zem I hg hm zmk (PyProof.Rows.callWith_type1 (thn (ha pos pins s σ H _ I h) λus s1 ⟨vs,H1,I1,r1,q1⟩=>?_) hs rfl))
 obtain ⟨b,rfl,⟨xs,hq⟩,q⟩:=q1
 cases r1 with
 | cons r rr =>
  cases rr
  cases r
  obtain ⟨its,rv,pl,hz⟩:=I1.list hq
  exact call_enumerate_list pl.isList λh1 he hb _ hk=>zkp (T:=λi h=>h.IsListIter s1.heap.objs.size b i) I1 (ya5 b _ _ (Nat.succ_ne_self _)) he hb hk q
theorem ybd {a:Expr}{ta:TA}{p pos:Pos}(hg:Gl X "enumerate") (hm:X.mg "enumerate" = none) (ha:PA X [a] ta) (hs:starEach [a] X.env=[(false,eval a X.env)]:=by rfl):PI X (.Tuple elts z tp) (.Call (.Name "enumerate" p) [a] [] pos) (ybb X.K ta):=by
 intro pins s σ H R I h
 refine Call_ (zem I hg hm zmk (PyProof.Rows.callWith_type1 (thn (ha pos pins s σ H _ I h) λus s1 ⟨vs,H1,I1,r1,q1⟩=>?_) hs rfl))
 obtain ⟨b,rfl,⟨xs,hq⟩,q⟩:=q1
 cases r1 with
 | cons r rr =>
  cases rr
  cases r
  obtain ⟨its,rv,pl,hz⟩:=I1.tuple hq
  exact ya9 (show s1.heap.IsTuple b its.toArray from pl) λh1 he hb hk=>zkp (T:=λi h=>h.IsTupleIter s1.heap.objs.size b i) I1 (ya7 b _ _ (Nat.succ_ne_self _)) he hb hk q
end
noncomputable def zd5 (it:ItM) (g:GM) (b:SM):Nat->Nat->SM
 | 0,_,_,_=>none
 | k+1,i,l,S=>(it i S).bind λo=>match o with
  | none=>some (.nx,l,S)
  | some x=>(g x l S).bind λp=>(b p.1 p.2).bind λq=>match q.1 with
   | .nx=>zd5 it g b k (i+1) q.2.1 q.2.2
   | .ct=>zd5 it g b k (i+1) q.2.1 q.2.2
   | .bk=>some (.nx,q.2)
   | .rt d=>some (.rt d,q.2)
noncomputable def zhg (im:IM) (g:GM) (b:SM):SM:=λl S=>(im l S).bind λp=>zd5 p.1 g b p.2.1 0 l p.2.2
def zkq (K:QFg) (ρ:List Addr) (H:Hp) (it:ItM) (J:It):Prop:=∀(i:Nat) ρ' S' H',Ext ρ H ρ' H'->Sim K ρ' S' H' ->
 (it i S' = some none->J.stop i H')/\∀x,it i S' = some (some x)->J.go i H'/\∀y H'',J.yld i H' y H''->Ext ρ' H' ρ' H''/\Sim K ρ' S' H''/\RD ρ' H'' x y
noncomputable def itN (it:ItM):ItM:=λi S=>(it i S).map λo=>o.map λx=>.tup [.int i,x]
section
variable {K:QFg}
theorem zml {ρ:List Addr}{H:Hp}{it:ItM}{J:It}(h:zev K ρ H it J):zkq K ρ H (itN it) (Itn J):=by
 intro i ρ1 S1 H1 e s
 obtain ⟨h1,h2⟩:=h i ρ1 S1 H1 e s
 unfold itN
 refine ⟨λq=>?_,λx q=>?_⟩
 ·cases hi:it i S1 with
  | none=>rw [hi] at q;cases q
  | some o =>
   cases o with
   | none=>exact h1 hi
   | some x=>rw [hi] at q;cases q
 ·cases hi:it i S1 with
  | none=>rw [hi] at q;cases q
  | some o =>
   cases o with
   | none=>rw [hi] at q;cases q
   | some y =>
    rw [hi] at q;cases q
    obtain ⟨q1,q2⟩:=h2 y hi
    refine ⟨q1,λv H2 ⟨y2,p,hy1,hp,e1,e2⟩=>?_⟩
    subst e1 e2
    obtain ⟨_,r⟩:=q2 y2 H1 hy1
    exact ⟨zcc hp,s.laid hp,.tup zbw (.cons (.int _) (.cons (r.mono (zcc hp)) .nil))⟩
theorem ybe {g:GM}{b:SM}{it:ItM}{J:It}{ρ:List Addr}{l:Lo}{S:Sto}{H:Hp}{σ:L2.St}{f:Fl}{l':Lo}{S':Sto}{E:Ends}{k:Nat}(ok:zkq K ρ H it J)
  (sim:Sim K ρ S H) (ro:RO ρ H l σ) (hm:zd5 it g b k 0 l S=some (f,l',S')) (p:∀ρ' H' σ',Ext ρ H ρ' H'->Sim K ρ' S' H'->RO ρ' H' l' σ'->zim ρ' H' E σ' f) :
  ∃W:Nat->Nat->L2.St->Hp->Prop,(∃m,W 0 m σ H)/\∀i m σ H,W i m σ H ->
   (J.stop i H/\E.nx σ H)\/(J.go i H/\∃N:L2.St->Hp->Prop,(∀σ' H',N σ' H'->∃m',m' < m/\W (i+1) m' σ' H')/\∀x H',J.yld i H x H'->tg K g x σ H' λσ2 H2=>ts K b { E with nx:=N,ct:=N,bk:=E.nx } σ2 H2):=by
 refine ⟨λi m σ1 H1=>∃ρ1 l1 S1,Ext ρ H ρ1 H1/\Sim K ρ1 S1 H1/\RO ρ1 H1 l1 σ1/\zd5 it g b m i l1 S1=some (f,l',S'),⟨k,ρ,l,S,Ext.refl ..,sim,ro,hm⟩,?_⟩
 rintro i m σ1 H1 ⟨ρ1,l1,S1,e1,s1,ro1,hm1⟩
 cases m with
 | zero=>cases hm1
 | succ m =>
  unfold zd5 at hm1
  obtain ⟨o,hi,hm1⟩:=bnd hm1
  obtain ⟨k1,k2⟩:=ok i ρ1 S1 H1 e1 s1
  cases o with
  | none=>cases hm1;exact .inl ⟨k1 hi,p ρ1 H1 σ1 e1 s1 ro1⟩
  | some x =>
   obtain ⟨k3,k4⟩:=k2 x hi
   refine .inr ⟨k3,_,λσ' H' h=>h,λy H2 hyl=>?_⟩
   obtain ⟨x2,s2,r2⟩:=k4 y H2 hyl
   refine zl3 (next:=zd5 it g b m (i+1)) s2 (ro1.mono x2) r2 hm1 (λρ' H' σ' e'=>p ρ' H' σ' ((e1.trans x2).trans e')) λρ3 H3 σ3 l3 S3 e3 s3 ro3 hm3=>?_
   exact ⟨m,Nat.lt_succ_self m,ρ3,l3,S3,(e1.trans x2).trans e3,s3,ro3,hm3⟩
end
section
variable {X:Cx}{elts:List Expr}{z:Nat}{tp:Pos}{a:Expr}{mA:AM}{g:GM}{b:SM}{body:List Stmt}{p0 pos' pos:Pos}
end
theorem zmm {α:Type}{c:Prop} [Decidable c] {a:Option α}{v:α}(h:(if c then a else none)=some v):c/\a=some v:=by
 by_cases hc:c
 ·rw [if_pos hc] at h;exact ⟨hc,h⟩
 ·rw [if_neg hc] at h;cases h
section
variable {prog:Program}{w:World}{A:Around}{E:Value->Shared->Prop}{s:Shared}
theorem zq1 {b t:Addr}{vs:Array Value}(hne:t≠b):∀(n i:Nat) (s:Shared) (Q:List Value->Shared->Prop),s.heap.IsListIter b t i->s.heap.IsList t vs->i+n<=vs.size ->
  (∀h1,h1.IsListIter b t (i+n)->Heap.SameBut b s.heap h1->Q ((vs.toList.drop i).take n) { s with heap:=h1 })->wpAny (model prog w) A (draw (.ref b) n) Q E s
 | 0,i,s,Q,hb,_,_,q=>by
  show wpAny _ _ (pure []) Q E s
  exact qwp (by simpa using q s.heap hb (Heap.SameBut.refl ..))
 | n+1,i,s,Q,hb,ht,hle,q=>by
  have hi:i<vs.size:=by omega
  show wpAny _ _ (pyNext (.ref b) >>= _) Q E s
  refine qwb (wpAny_pyNext_list_item hb ht (x:=vs[i]) (by simp [hi]) λh1 b1 s1=>?_)
  refine qwb (wpAny_holding (zq1 hne n (i+1) _ _ b1 (ht.extBut s1.extBut hne) (by omega) λh2 b2 s2=>qwp ?_))
  have q2:=q h2 (by rw [show i+(n+1)=i+1+n by omega];exact b2) (s1.trans s2)
  rw [show vs.toList.drop i=vs[i] :: vs.toList.drop (i+1) by simp [List.drop_eq_getElem_cons,hi],List.take_succ_cons] at q2
  exact q2
theorem ybf {t:Addr}{vs:Array Value}{ts:List (Bool × (Value->Sem Unit))}{Q:Unit->Shared->Prop}(hA:A.handled=none) (ht:s.heap.IsList t vs) (hn:ts.length=vs.size) (hst:ts.findIdx? (·.1)=none)
  (q:∀h1,Heap.ExtBut s.heap.objs.size s.heap h1->wpAny (model prog w) A (assignInOrder (ts.map (·.2)) vs.toList) Q E { s with heap:=h1 }):wpAny (model prog w) A (unpack (.ref t) ts) Q E s:=by
 have hlt:t≠s.heap.objs.size:=by obtain ⟨o,ho,_⟩:=ht;exact Nat.ne_of_lt (Heap.lt_size ho)
 unfold unpack
 rw [hn,hst]
 refine qwb (wpAny_holding ?_)
 unfold unpackItems
 refine qwb ?_
 ·unfold notIterableAtAll
  refine qwb (wpAny_specialOf ht.typeIs slot_list_iter.lookup (qwp ?_))
  simp only [qbf,if_false]
  refine qwb (wpAny_holding (wpAny_pyIter_list ht ?_))
  have ht0:=ht.push { cls:=.type "list_iterator",data:=.fields #[.ref t,.int 0 0] }
  refine qwb (wpAny_holding (zq1 hlt vs.size 0 _ _ ⟨_,Heap.get?_push_size _ rfl,rfl,rfl⟩ ht0 (by omega) λh1 b1 s1=>?_))
  rw [show List.take vs.size (List.drop 0 vs.toList)=vs.toList by rw [List.drop_zero];exact List.take_of_length_le (by simp),if_neg (by simp)]
  refine qwb (wpAny_holding (wpAny_pyNext_list_end hA b1 (ht0.extBut s1.extBut hlt) (by simp) λh2 e2=>?_))
  simp only [Option.isSome_none,qbf,if_false]
  exact qwp (q h2 λc o hc z=>e2 c o hc (s1.extBut c o hc (qps _ z)))
end
section
variable {X:Cx}{gs:GsM}{es:List Expr}{k n:Nat}{pos:Pos}
def ybg (K:QFg) (n:Nat) (t:TGs):TG:=λv σ H Q=>∃a xs,v=.ref a/\SqL K H a xs/\xs.length=n/\t xs σ H Q
theorem ybh {t:TGs}(hc:X.calm=true) (h:PGs X es t) (hn:(assignEach es X.env).length=n:=by rfl) (hst:(assignEach es X.env).findIdx? (·.1)=none:=by rfl):PG X (.Tuple es k pos) (ybg X.K n t):=by
 intro pins s σ H v u Q I r hw
 obtain ⟨a,xs,rfl,hq,hl,hw⟩:=hw
 cases r
 obtain ⟨its,rv,ht,hz⟩:=I.list hq
 rw [assign_Tuple]
 refine qwb (wpAny_standAt (ybf (I.ok.hd hc) ht.isList (by simp [hn,<-hl,rv.length]) hst λh1 hx=>?_))
 have I1:Inv X pins σ H { s with heap:=h1 }:=I.kept (t':=s.toks) λb o e=>hx b o (Nat.ne_of_lt (Heap.lt_size e)) e
 exact h pins _ σ H xs _ Q I1 (by simpa using rv) hw
noncomputable def zi5 (n:Nat) (g:GsM):GM
 | .tup xs,l,S=>if xs.length=n then g xs l S else none
 | .ref j,l,S=>(lstOf S j).bind λxs=>if xs.length=n then g xs l S else none
 | _,_,_=>none
theorem PG.or {tg:Expr}{t u:TG}(h:PG X tg t) (h':PG X tg u):PG X tg (λv σ H Q=>t v σ H Q\/u v σ H Q):=by
 intro pins s σ H v w Q I r q
 rcases q with q|q
 ·exact h pins s σ H v w Q I r q
 ·exact h' pins s σ H v w Q I r q
theorem ybi (hc:X.calm=true) (h:zin X es gs) (hn:(assignEach es X.env).length=n:=by rfl) (hst:(assignEach es X.env).findIdx? (·.1)=none:=by rfl):PG3 X (.Tuple es k pos) (zi5 n gs) :=
 PG.imp (PG.or (zoh hc h hn hst) (ybh hc h hn hst)) λv σ H Q hx1_=>by
  obtain ⟨ρ,l,S,d,l',S',sim,ro,rd,hm,p⟩:=hx1_
  cases rd with
  | @tup xs a vs ha r =>
   have hm:(if xs.length=n then gs xs l S else none)=some (l',S'):=hm
   obtain ⟨hl,hm⟩:=zmm hm
   exact .inl ⟨a,vs,rfl,SqT.of ha,by rw [<-r.length];exact hl,ρ,l,S,xs,l',S',sim,ro,r,hm,p⟩
  | @ref j a hj =>
   obtain ⟨xs,hx,hm⟩:=bnd (show (lstOf S j).bind (λxs=>if xs.length=n then gs xs l S else none)=some (l',S') from hm)
   obtain ⟨hl,hm⟩:=zmm hm
   obtain ⟨c,us,hc',sq,rv⟩:=sim.lstOf hx
   rw [hj] at hc';cases hc'
   exact .inr ⟨a,us,rfl,sq,by rw [<-rv.length];exact hl,ρ,l,S,xs,l',S',sim,ro,rv,hm,p⟩
  | _=>cases hm
end
section
variable {X:Cx}{a:Expr}{ma:EM}{lo hi:Option Expr}{ml mh:OM}{p2 pos:Pos}
end
noncomputable def zq2 (scope:Scope) (N':List Str) (ixs:List (Option Nat)):Bool :=
 decide (scope.kind=.function) && (scope.names.all λy=>y.2 != .cell) && (scope.names.all λy=>y.2 != .free) && (scope.names.all λy=>y.2 != .local || scope.names.lookup y.1 == some .local) && (ixs.length == N'.length) && (ixs.all λi=>i == none)
theorem ybj {X:Cx}{scope:Scope}{N':List Str}{ixs:List (Option Nat)}(h:zq2 scope N' ixs=true):CompSc X N' scope (zbn ixs):=by
 unfold zq2 at h
 simp only [Bool.and_eq_true,decide_eq_true_eq,List.all_eq_true,beq_iff_eq,Bool.or_eq_true,bne_iff_ne,ne_eq] at h
 obtain ⟨⟨⟨⟨⟨h1,h2⟩,h3⟩,h4⟩,h5⟩,h6⟩:=h
 refine ⟨h1,h2,λy hy hl=>?_,λy hy hl=>absurd hl (h3 y hy),λy hy=>?_,λσ=>by simp [zbn,h5],λσ i v x hv hx=>?_⟩
 ·rcases h4 y hy with z|z
  ·exact absurd hl z
  ·exact z
 ·exfalso
  have mem:∃k,(k=NameKind.cell\/k=NameKind.free)/\(y,k)∈(relabel scope X.env).names:=by
   rcases hy with z|z
   ·exact ⟨_,.inl rfl,PySem.mem_of_lookup z⟩
   ·exact ⟨_,.inr rfl,PySem.mem_of_lookup z⟩
  obtain ⟨k,hk,hm⟩:=mem
  unfold relabel at hm
  obtain ⟨⟨n,k'⟩,hm1,hm2⟩:=List.mem_map.mp hm
  dsimp only at hm2
  split at hm2
  ·rename_i hc
   rw [Bool.and_eq_true,Bool.and_eq_true] at hc
   exact h3 _ hm1 (eq_of_beq hc.1.1)
  ·cases hm2
   rcases hk with z|z
   ·exact h2 _ hm1 z
   ·exact h3 _ hm1 z
 ·exfalso
  unfold zbn at hv
  rw [qgm] at hv
  cases e:ixs[i]? with
  | none=>rw [e] at hv;cases hv
  | some o =>
   rw [e,h6 o (qmg e)] at hv
   cases hv
section
variable {X:Cx}{a b:Expr}{ma mb:EM}{mA:AM}{es:List Expr}{pos p:Pos}
end
noncomputable def zmn:D->D->Sto->Option (D × Sto)
 | .str z,.int i,S=>if z.length<=sizeLine then (atI z.cps.toList i).bind λc=>some (.str ⟨#[c]⟩,S) else none
 | _,_,_=>none
noncomputable def zal:D->D->Sto->Option (D × Sto):=λx y S=>match dIx x y S with|some v=>some v|none=>zmn x y S
theorem ybk {K:QFg}:Op3 K zmn zls:=by
 intro ρ S H x y x' y' v S' Q sim rx ry h p
 unfold zmn at h
 split at h
 ·cases rx;cases ry
  split at h
  ·rename_i hz
   obtain ⟨c,h1,h⟩:=bnd h
   cases h
   exact ⟨_,_,c,rfl,rfl,hz,h1,p ρ H _ (Ext.refl ..) sim (.str _)⟩
  ·cases h
 ·cases h
theorem ybl {K:QFg}:Op3 K zal (rIx K):=by
 intro ρ S H x y x' y' v S' Q sim rx ry hm p
 unfold zal at hm
 cases e:dIx x y S with
 | some w=>rw [e] at hm;cases hm;exact zy3 ρ S H x y x' y' _ _ Q sim rx ry e p
 | none=>rw [e] at hm;exact .inr (.inr (ybk ρ S H x y x' y' _ _ Q sim rx ry hm p))
noncomputable def za5:FM
 | [.str z],S=>if z.length<=sizeLine then some (.int z.length,S) else none
 | xs,S=>zix xs S
section
variable {X:Cx}{a b:Expr}{ma mb:EM}{mA:AM}{es:List Expr}{pos p:Pos}{K:QFg}
theorem zan (ha:PE3 X a ma) (hb:PE3 X b mb) (hs:zo5 b:=by intro _ _;rfl):PE3 X (.Subscript a b pos) (eOp zal ma mb):=PE.imp (zxs zxu ha hb hs) (ziq ybl)
theorem ybm:Fn3 K za5 (λxs H Q=>(∃p ys,xs=[.ref p]/\(SqL K H p ys\/SqT K H p ys)/\Q (.int ys.length) H)\/∃z,xs=[.str z]/\z.length<=sizeLine/\Q (.int z.length) H):=by
 intro ρ S H xs vs v S' Q sim r h p
 unfold za5 at h
 split at h
 ·obtain ⟨hz,e⟩:=za7 h
  cases e
  obtain ⟨w,rfl,rw'⟩:=r.one
  cases rw'
  exact .inr ⟨_,rfl,hz,p ρ H _ (Ext.refl ..) sim (.int _)⟩
 ·exact .inl (zy9 ρ S H _ vs v S' Q sim r h p)
theorem zbo (hg:Gl X "len") (hm:X.mg "len" = none) (ha:PA3 X (a :: es) mA) (he:starEach (a :: es) X.env=(false,eval a X.env) :: starEach es X.env:=by rfl) (hpl:(backTo pos (starEach es X.env)).any (·.1)=false:=by rfl):PE3 X (.Call (.Name "len" p) (a :: es) [] pos) (zaf za5 mA) :=
 zg1 (call_len_seq.or zx4) ybm hg hm PySem.boot_len ha (by decide) (by decide) he hpl
end
noncomputable def zhh:D->Option Key
 | .int i=>some (.inl i)
 | .str x=>some (.inr x)
 | _=>none
noncomputable def zcw (kvs:List (Key × D)) (k:Key):Option D:=(kvs.find? λkv=>decide (kv.1=k)).map (·.2)
noncomputable def zfk (kvs:List (Key × D)) (k:Key) (v:D):List (Key × D):=if (kvs.any λkv=>decide (kv.1=k))=true then kvs.map (λkv=>if kv.1=k then (kv.1,v) else kv) else kvs++[(k,v)]
section
variable {K:QFg}{ρ:List Addr}{H:Hp}{S:Sto}
theorem zmo {k:Key}:∀{kvs:List (Key × D)}{vs:List V},RDs ρ H (kvs.map (·.2)) vs->(zcw kvs k=none->zca ((kvs.map (·.1)).zip vs) k=none)/\∀d,zcw kvs k=some d->∃v,zca ((kvs.map (·.1)).zip vs) k=some v/\RD ρ H d v
 | [],vs,r=>by
  cases r
  exact ⟨λ_=>rfl,λd h=>by cases h⟩
 | (k',d') :: kvs,vs,r=>by
  cases r with
  | @cons _ v _ vs r1 r2 =>
   by_cases e:k' = k
   ·have e1:zcw ((k',d') :: kvs) k=some d':=by simp [zcw,e]
    have e2:zca ((((k',d') :: kvs).map (·.1)).zip (v :: vs)) k=some v:=zih (p:=(k',v)) e
    rw [e1,e2]
    exact ⟨λz=>(by cases z),λd h=>(by cases h;exact ⟨v,rfl,r1⟩)⟩
   ·have e1:zcw ((k',d') :: kvs) k=zcw kvs k:=by simp [zcw,e]
    have e2:zca ((((k',d') :: kvs).map (·.1)).zip (v :: vs)) k=zca ((kvs.map (·.1)).zip vs) k:=zii (p:=(k',v)) e
    rw [e1,e2]
    exact zmo r2
theorem zq3 (k:Key):∀{kvs:List (Key × D)}{vs:List V},RDs ρ H (kvs.map (·.2)) vs->(((kvs.map (·.1)).zip vs).any λkv=>decide (kv.1=k))=kvs.any λkv=>decide (kv.1=k)
 | [],vs,r=>by cases r;rfl
 | (k',d') :: kvs,vs,r=>by
  cases r with
  | @cons _ v _ vs r1 r2 =>
   show (decide (k' = k) || (((kvs.map (·.1)).zip vs).any λkv=>decide (kv.1=k)))=(decide (k' = k) || _)
   rw [zq3 k r2]
theorem kv_put {k:Key}{d:D}{v:V}(rv:RD ρ H d v) {kvs:List (Key × D)}{vs:List V}(r:RDs ρ H (kvs.map (·.2)) vs):∃ws,zce ((kvs.map (·.1)).zip vs) k v=((zfk kvs k d).map (·.1)).zip ws/\RDs ρ H ((zfk kvs k d).map (·.2)) ws:=by
 unfold zce zfk
 rw [zq3 k r]
 by_cases e:(kvs.any λkv=>decide (kv.1=k))=true
 ·rw [if_pos e,if_pos e]
  clear e
  induction kvs generalizing vs with
  | nil=>cases r;exact ⟨[],rfl,.nil⟩
  | cons p kvs ih =>
   obtain ⟨k',d'⟩:=p
   cases r with
   | @cons _ u _ us r1 r2 =>
    obtain ⟨ws,h1,h2⟩:=ih r2
    by_cases e:k' = k
    ·refine ⟨v :: ws,?_,?_⟩
     ·simp only [List.map_cons,List.zip_cons_cons,if_pos e];rw [<-h1]
     ·simp only [List.map_cons,if_pos e];exact .cons rv h2
    ·refine ⟨u :: ws,?_,?_⟩
     ·simp only [List.map_cons,List.zip_cons_cons,if_neg e];rw [<-h1]
     ·simp only [List.map_cons,if_neg e];exact .cons r1 h2
 ·rw [if_neg e,if_neg e]
  refine ⟨vs++[v],?_,?_⟩
  ·rw [List.map_append,List.zip_append (by rw [qlm];have:=r.length;rw [qlm] at this;exact this)];rfl
  ·rw [List.map_append];exact r.append (.cons rv .nil)
theorem zkr {d:D}{v:V}{k:Key}(h:zhh d=some k) (r:RD ρ H d v):v=kV k:=by
 cases r <;> first|(cases h;rfl)|cases h
end
def ybn:R2:=λx y H Q=>∃a v,x=.ref a/\zfd H a y (some v)/\Q v H
section
variable {X:Cx}{a b e:Expr}{ma mb me:EM}{pos pos':Pos}{k:Nat}
theorem zhi (hr:Room k X.A):X.A.units+1<cLine:=by have:=hr.un;omega
theorem ybo (hr:Room k X.A):OpR X (compareOp .NotIn) (λy x H Q=>∃a o,x=.ref a/\zfd H a y o/\Q (.bl (!o.isSome)) H):=by
 intro pins s σ H y x v u Q I ry rx h
 obtain ⟨a,o,rfl,g,q⟩:=h
 cases rx
 exact zyj (zhi hr) I g ry λs' I'=>⟨.bl _,H,I',rfl,q⟩
end
theorem zi6 (kvs:List (Key × V)):zdz (.dK kvs):=⟨λ_ z=>(by cases z),λ_ _ z=>(by cases z)⟩
section
variable {X:Cx}{o i value:Expr}{mo mi mv:EM}{pos pos':Pos}{k:Nat}
end
section
variable {X:Cx}{pos:Pos}
end
section
variable {X:Cx}
variable {o e:Expr}{mo m:EM}{apos cpos:Pos}
end
noncomputable def sgn (z:Str):List D:=z.cps.toList.map λc=>.str ⟨#[c]⟩
noncomputable def Its (z:Str):It:=⟨λi _=>i<z.cps.size,λi H x H'=>H' = H/\∃c,z.cps[i]? = some c/\x=.str ⟨#[c]⟩,λi _=>z.cps.size<=i⟩
theorem zq4 (z:Str):(sgn z).length=z.cps.size:=by simp [sgn]
theorem ybp {K:QFg}{ρ:List Addr}{H:Hp}{z:Str}:zev K ρ H (itX (sgn z)) (Its z):=by
 intro i ρ' S' H' e s
 refine ⟨λh=>?_,λx h=>?_⟩
 ·have h:(sgn z)[i]? = none:=qoi h
  have:=List.getElem?_eq_none_iff.mp h
  rw [zq4] at this
  exact this
 ·have h:(sgn z)[i]? = some x:=qoi h
  have hl:=(qme h).1
  rw [zq4] at hl
  refine ⟨hl,λy H'' ⟨e1,c,e2,e3⟩=>⟨e1,?_⟩⟩
  subst e3
  unfold sgn at h
  rw [qgm] at h
  have e4:z.cps.toList[i]? = some c:=by simpa using e2
  rw [e4] at h
  cases h
  exact .str _
section
variable {P:Program}{w:World}{K:QFg}{elts:List Expr}{z:Nat}{tp:Pos}
theorem zq5 (x:Str) (t:Tok) (T:String) (e b:Addr) (heb:e≠b) (Dr:∀A:Around,A.handled=none->Draws P w A b [b] x.cps.size (λi v=>∃c u,x.cps[i]? = some c/\v=.str ⟨#[c]⟩ u) (λi h=>h.IsStrIter b T x t i)) :
  Turn P w K (.Tuple elts z tp) (Itn (Its x)) [e,b] e (λi h=>(∃old,IsEnum h e b i old)/\(h.IsStrIter b T x t i/\i<=x.cps.size)) where
 mem:=by simp
 obj:=λi h st=>zmi (T:=λh=>h.IsStrIter b T x t i/\i<=x.cps.size) (λh ⟨⟨o,q,c,d⟩,_⟩=>⟨o,q,λv z=>by rw [d] at z;cases z⟩) i h st
 keep:=λi h h1 st k=>⟨let ⟨old,q⟩:=st.1;⟨old,k e (by simp) _ q⟩,let ⟨⟨o,q,r⟩,l⟩:=st.2;⟨⟨o,k b (by simp) o q,r⟩,l⟩⟩
 item:=by
  intro X hP hw hK hc i pins s σ H E I hf st hg
  subst hP hw hK
  obtain ⟨⟨old,he⟩,hb,hle⟩:=st
  have hlt:i<x.cps.size:=hg
  refine wpAny_pyNext_enum_itemD (Dr X.A.in1 (I.ok.hd hc)) he hb hlt heb (by simp [heb]) λx1 h1 tk hP ho hs1 hT hsz hk=>?_
  obtain ⟨c,u,hc1,rfl⟩:=hP
  obtain ⟨ob,gb,_⟩:=id hb
  refine ⟨_,rfl,wpAny_letOwnedTupleGo_enum ho λh2 he2 hs2=>?_⟩
  replace hs2:Heap.SameBut e h1 h2:=hs2
  exact zmj (J:=Its x) (x:=.str ⟨#[c]⟩) (T:=λh=>h.IsStrIter b T x t (i+1)/\i+1<=x.cps.size) I hf ⟨u,rfl⟩ (Heap.lt_size he) (Heap.lt_size gb) hk hT he2 hs2 ⟨let ⟨o,q,r⟩:=hs1;⟨o,(hs2.2 b heb.symm).trans q,r⟩,hlt⟩ ⟨rfl,c,hc1,rfl⟩
 done:=by
  intro X hP hw hK hc i pins s σ H E I hf st hg
  subst hP hw hK
  obtain ⟨⟨old,he⟩,hb,hle⟩:=st
  have hge:x.cps.size<=i:=hg
  have hi:i=x.cps.size:=by omega
  subst hi
  obtain ⟨f0,f1,f2,f3,f4,f5⟩:=hf b (by simp)
  exact wpAny_pyNext_enum_endD (Dr X.A.in1 (I.ok.hd hc)) he hb λh1 eb=>⟨rfl,I.turned (t':=s.toks) (λc o hb q=>eb c o hb q) f0 f1 f3 f4 f5⟩
 self:=λA i s Q E st h=>let ⟨old,q⟩:=st.1;wpAny_pyIter_enum q h
end
section
variable {X:Cx}{elts:List Expr}{z:Nat}{tp:Pos}
def ybq (ta:TA):TI:=λσ H R=>ta σ H λvs H1=>∃x,vs=[.str x]/\R (Itn (Its x)) H1
theorem ybr {a:Expr}{ta:TA}{p pos:Pos}(hg:Gl X "enumerate") (hm:X.mg "enumerate" = none) (ha:PA X [a] ta) (hs:starEach [a] X.env=[(false,eval a X.env)]:=by rfl):PI X (.Tuple elts z tp) (.Call (.Name "enumerate" p) [a] [] pos) (ybq ta):=by
 intro pins s σ H R I h
 refine Call_ (zem I hg hm zmk (PyProof.Rows.callWith_type1 (thn (ha pos pins s σ H _ I h) λus s1 ⟨vs,H1,I1,r1,q1⟩=>?_) hs rfl))
 obtain ⟨x,rfl,q⟩:=q1
 cases r1 with
 | cons r rr =>
  cases rr
  obtain ⟨t,rfl⟩:=r
  refine call_enumerate_str λh1 he hb _ hk=>?_
  cases hall:x.cps.all (· < 128)
  ·have hb':h1.IsStrIter s1.heap.objs.size "str_iterator" x t 0:=by simpa [strIterType,hall] using hb
   exact zkp (T:=λi h=>h.IsStrIter s1.heap.objs.size "str_iterator" x t i/\i<=x.cps.size) I1 (zq5 x t _ _ _ (Nat.succ_ne_self _) λA hA=>Draws.strWide hA _ x t) he ⟨hb',Nat.zero_le _⟩ hk q
  ·have hb':h1.IsStrIter s1.heap.objs.size "str_ascii_iterator" x t 0:=by simpa [strIterType,hall] using hb
   exact zkp (T:=λi h=>h.IsStrIter s1.heap.objs.size "str_ascii_iterator" x t i/\i<=x.cps.size) I1 (zq5 x t _ _ _ (Nat.succ_ne_self _) λA hA=>Draws.strAscii hA _ x t) he ⟨hb',Nat.zero_le _⟩ hk q
end
inductive tiL (K:QFg) (im:IM) (σ:St) (H:Hp) (R:It->Hp->Prop):Prop
 | mk (ρ:_) (l:_) (S:_) (it:_) (k:_) (S':_) (_:Sim K ρ S H) (_:RO ρ H l σ) (_:im l S=some (it,k,S')) (_:∀ρ' H' J,Ext ρ H ρ' H'->Sim K ρ' S' H'->zkq K ρ' H' it J->R J H')
def zmp (X:Cx) (tgt iter:Expr) (im:IM):Prop:=PI X tgt iter (tiL X.K im)
noncomputable def zi7 (m:AM):IM:=λl S=>(m l S).bind λp=>match p.1 with
 | [.tup xs]=>some (itN (itX xs),xs.length+1,p.2)
 | [.ref n]=>(lstOf p.2 n).bind λxs=>some (itN (itL n),xs.length+1,p.2)
 | [.str z]=>some (itN (itX (sgn z)),z.cps.size+1,p.2)
 | _=>none
section
variable {X:Cx}{elts:List Expr}{z:Nat}{tp:Pos}{a:Expr}{mA:AM}{g:GM}{b:SM}{body:List Stmt}{p0 pos' pos:Pos}
theorem zq6 (hgl:Gl X "enumerate") (hmg:X.mg "enumerate" = none) (ha:PA3 X [a] mA) (hst:starEach [a] X.env=[(false,eval a X.env)]:=by rfl):zmp X (.Tuple elts z tp) (.Call (.Name "enumerate" p0) [a] [] pos') (zi7 mA) :=
 PI.imp (PI.or (PI.or (ybc hgl hmg ha hst) (ybd hgl hmg ha hst)) (ybr hgl hmg ha hst)) λσ H R hx1_=>by
  obtain ⟨ρ,l,S,it,k,S',sim,ro,hm,p⟩:=hx1_
  obtain ⟨⟨xs,S2⟩,q2,q1⟩:=bnd hm
  dsimp only at q1
  split at q1
  ·rename_i ys
   cases q1
   refine .inl (.inr ⟨ρ,l,S,[.tup ys],_,sim,ro,q2,λρ1 H1 vs e1 s1 r1=>?_⟩)
   obtain ⟨v,rfl,rv⟩:=r1.one
   cases rv with
   | @tup _ c us hc' r=>exact ⟨c,rfl,⟨us,SqT.of hc'⟩,p ρ1 H1 _ e1 s1 (zml (zl6 hc' r))⟩
  ·rename_i n
   obtain ⟨ys,hx,q1⟩:=bnd q1
   cases q1
   refine .inl (.inl ⟨ρ,l,S,[.ref n],_,sim,ro,q2,λρ1 H1 vs e1 s1 r1=>?_⟩)
   obtain ⟨v,rfl,rv⟩:=r1.one
   obtain ⟨c,us,hc',sq,rv'⟩:=s1.lstOf hx
   cases rv with
   | ref hn =>
    rw [hc'] at hn;cases hn
    exact ⟨c,rfl,⟨us,sq⟩,p ρ1 H1 _ e1 s1 (zml (zl7 hc'))⟩
  ·rename_i y
   cases q1
   refine .inr ⟨ρ,l,S,[.str y],_,sim,ro,q2,λρ1 H1 vs e1 s1 r1=>?_⟩
   obtain ⟨v,rfl,rv⟩:=r1.one
   cases rv
   exact ⟨y,rfl,p ρ1 H1 _ e1 s1 (zml ybp)⟩
  ·cases q1
theorem zmq {tgt iter:Expr}{im:IM}(hp:PassesOwn (model X.prog X.w) X.A X.env X.xe) (hc:X.calm=true) (hi:zmp X tgt iter im) (hg:PG3 X tgt g) (hb:zcn X body b) (hs:∀x,foldedSetIterable iter X.env x=pure x:=by intro _;rfl) :
  PS3 X (.For tgt iter body [] pos) (zhg im g b) :=
 PS.imp (zid hp hc hi hg hb hs) λE σ H hx2_=>by
  obtain ⟨ρ,l,S,f,l',S',sim,ro,hm,p⟩:=hx2_
  obtain ⟨⟨it,k,S1⟩,q1,hm⟩:=bnd hm
  exact ⟨ρ,l,S,it,k,S1,sim,ro,q1,λρ1 H1 J e1 s1 ok=>ybe ok s1 (ro.mono e1) hm λρ' H' σ' e'=>p ρ' H' σ' (e1.trans e')⟩
end
section
variable {X:Cx}{a b:Expr}{ma mb:EM}{pos:Pos}{k:Nat}
end
def ybs:V->Option Int->Option Int->Hp->VK->Prop:=λx lo hi H Q=>∃z,x=.str z/\z.length<=sizeLine/\Q (.str (Txt.slice z lo hi)) H
theorem zq7 {v:Value}{o:Option Int}(h:IsPart v o):∃l:Option (Int × Tok),v=partValue l/\o=l.map (·.1):=by
 cases h with
 | none=>exact ⟨none,rfl,rfl⟩
 | int i t=>exact ⟨some (i,t),rfl,rfl⟩
theorem ybt {X:Cx}:SlR X ybs:=by
 intro pins s σ H x v vl vu lo hi sl Q I rx hs pl pu h
 obtain ⟨z,rfl,hz,q⟩:=h
 obtain ⟨t,rfl⟩:=rx
 obtain ⟨l,rfl,rfl⟩:=zq7 pl
 obtain ⟨u,rfl,rfl⟩:=zq7 pu
 refine ⟨"str",_,F.slot_str_getitem.lookup,typeIs_str _ _ _,?_⟩
 refine wpAny_getItem_str_slice (l:=l) (u:=u) (st:=none) hs rfl ?_
 refine post_val_or_str ⟨Nat.le_trans (Txt.slice_le z _ _) hz,λt' k=>?_⟩
 exact ⟨.str _,H,I.tok _,⟨t',rfl⟩,q⟩
noncomputable def zc7 (m:EM) (lo hi:OM):EM:=λl S=>(m l S).bind λp=>(lo l p.2).bind λq=>(hi l q.2).bind λr=>match p.1 with
 | .tup xs=>some (.tup (zby xs q.1 r.1),r.2)
 | .ref n=>(lstOf r.2 n).bind λxs=>some (.ref r.2.length,r.2++[.lst (zby xs q.1 r.1)])
 | .str z=>if z.length<=sizeLine then some (.str (Txt.slice z q.1 r.1),r.2) else none
 | _=>none
section
variable {X:Cx}{a:Expr}{ma:EM}{lo hi:Option Expr}{ml mh:OM}{p2 pos:Pos}
theorem ze2 (he:PE3 X a ma) (hl:PO3 X lo ml) (hu:PO3 X hi mh):PE3 X (.Subscript a (.Slice lo hi none p2) pos) (zc7 ma ml mh):=PE.imp (zxq (((sl_tup.or zy5).or zx0).or ybt) he hl hu) λσ H Q hx1_=>by
 obtain ⟨ρ,l,S,v,S',sim,ro,hm,p⟩:=hx1_
 obtain ⟨⟨x,S1⟩,h1,hm⟩:=bnd hm
 obtain ⟨⟨y,S2⟩,h2,hm⟩:=bnd hm
 obtain ⟨⟨z,S3⟩,h3,hm⟩:=bnd hm
 refine ⟨ρ,l,S,x,S1,sim,ro,h1,λρ1 H1 x' e1 s1 r1=>⟨ρ1,l,S1,y,S2,s1,ro.mono e1,h2,λρ2 H2 e2 s2=>⟨ρ2,l,S2,z,S3,s2,ro.mono (e1.trans e2),h3,λρ3 H3 e3 s3=>?_⟩⟩⟩
 have e13:=e1.trans (e2.trans e3)
 cases r1 with
 | @tup xs a vs ha r =>
  cases hm
  have ha3:=(e2.trans e3).tup _ _ ha
  have r3:=r.mono (e2.trans e3)
  have hlen:=r.length
  by_cases hw:HT.sIx vs.length 0 y=0/\HT.sIx vs.length vs.length z=vs.length
  ·refine .inl (.inl (.inr ⟨a,vs,rfl,SqT.of ha3,hw,?_⟩))
   have:=zy6 xs y z (by rw [hlen];exact hw)
   dsimp only at p
   rw [this] at p
   exact p ρ3 H3 _ e13 s3 (.tup ha3 r3)
  ·refine .inl (.inl (.inl ⟨a,vs,rfl,SqT.of ha3,hw,?_⟩))
   have rc:RDs ρ3 H3 (zby xs y z) (zd8 vs y z):=by
    unfold zby zd8
    rw [hlen]
    exact (r3.drop _).take _
   exact zit s3 rc (Pv.ext p e13)
 | @ref j b hj =>
  obtain ⟨xs,hx,hm⟩:=bnd (show (lstOf S3 j).bind (λxs=>some (D.ref S3.length,S3++[.lst (zby xs y z)]))=some (v,S') from hm)
  cases hm
  obtain ⟨c,us,hc,sq,rv⟩:=s3.lstOf hx
  have:=(e2.trans e3).pre _ _ hj
  rw [this] at hc;cases hc
  have rc:RDs ρ3 H3 (zby xs y z) (zd8 us y z):=by
   unfold zby zd8
   rw [rv.length]
   exact (rv.drop _).take _
  exact .inl (.inr ⟨b,us,rfl,sq,zfy s3 rc (Pv.ext p e13)⟩)
 | str t =>
  obtain ⟨hz,e⟩:=za7 (show (if t.length<=sizeLine then some (D.str (Txt.slice t y z),S3) else none)=some (v,S') from hm)
  cases e
  exact .inr ⟨t,rfl,hz,p ρ3 H3 _ e13 s3 (.str _)⟩
 | _=>cases hm
end
noncomputable def zmr:D->D->Sto->Option (D × Sto)
 | .str i,.str j,S=>if i.length+j.length<=sizeLine then some (.str (i++j),S) else none
 | _,_,_=>none
noncomputable def za6:D->D->Sto->Option (D × Sto):=λx y S=>match zmr x y S with|some v=>some v|none=>zma x y S
theorem op3_plusS {K:QFg}:Op3 K zmr (λx y H Q=>∃i j,x=.str i/\y=.str j/\i.length+j.length<=sizeLine/\Q (.str (i++j)) H):=by
 intro ρ S H x y x' y' v S' Q sim rx ry h p
 unfold zmr at h
 split at h
 ·obtain ⟨hz,e⟩:=za7 h
  cases e;cases rx;cases ry
  exact ⟨_,_,rfl,rfl,hz,p ρ H _ (Ext.refl ..) sim (.str _)⟩
 ·cases h
theorem zbg {X:Cx}{a b:Expr}{ma mb:EM}{pos:Pos}(ha:PE3 X a ma) (hb:PE3 X b mb):PE3 X (.BinOp a .Add b pos) (eOp za6 ma mb):=zfx (op_add_str.or (op_add.or ((op_catT.or zy7).or zx9))) (op3_plusS.or zzs) ha hb
noncomputable def zi8:FM
 | [.str z],S=>(intText? z).bind λn=>if z.length<=640 then some (.int n,S) else none
 | xs,S=>zl2 xs S
section
variable {X:Cx}{a:Expr}{es:List Expr}{mA:AM}{pos p:Pos}{K:QFg}
theorem call_int_text:CallR X (.type "int") (λxs H Q=>∃z n,xs=[.str z]/\intText? z=some n/\z.length<=640/\Q (.int n) H):=by
 intro pins s σ H xs us Q I r h
 obtain ⟨z,n,rfl,h1,h2,q⟩:=h
 obtain ⟨u,rfl,ru⟩:=zdq r
 obtain ⟨t,rfl⟩:=ru
 exact PySem.W.KIN.call_text h1 h2 ⟨.int n,H,I.tok _,⟨_,rfl⟩,q⟩
theorem ybu:Fn3 K zi8 (λxs H Q=>(∃z n,xs=[.str z]/\intText? z=some n/\z.length<=640/\Q (.int n) H)\/((∃i,xs=[.int i]/\Q (.int i) H)\/∃k,xs=[.bl k]/\Q (.int (if k then 1 else 0)) H)):=by
 intro ρ S H xs vs v S' Q sim r h p
 unfold zi8 at h
 split at h
 ·obtain ⟨n,h1,h⟩:=bnd h
  obtain ⟨hz,e⟩:=za7 h
  cases e
  obtain ⟨w,rfl,rw'⟩:=r.one
  cases rw'
  exact .inl ⟨_,_,rfl,h1,hz,p ρ H _ (Ext.refl ..) sim (.int _)⟩
 ·exact .inr (zzb ρ S H _ vs v S' Q sim r h p)
theorem ybv (hg:Gl X "int") (hm:X.mg "int" = none) (ha:PA3 X (a :: es) mA) (he:starEach (a :: es) X.env=(false,eval a X.env) :: starEach es X.env:=by rfl) (hpl:(backTo pos (starEach es X.env)).any (·.1)=false:=by rfl):PE3 X (.Call (.Name "int" p) (a :: es) [] pos) (zaf zi8 mA) :=
 zlx (call_int_text.or zw9) ybu hg hm zzu ha (by decide) (by decide) he hpl
end
section
variable {X:Cx}
variable {o e f:Expr}{mo m m':EM}{apos cpos:Pos}
end
noncomputable def zcx:List D->Option (List Int)
 | []=>some []
 | .int i :: r=>(zcx r).bind λns=>some (i :: ns)
 | _=>none
theorem zi9 {ρ:List Addr}{H:Hp}:∀{xs:List D}{ns:List Int}{vs:List V},zcx xs=some ns->RDs ρ H xs vs->vs=ns.map V.int
 | [],ts,vs,h,r=>by cases h;cases r;rfl
 | x :: xs,ts,vs,h,r=>by
  cases r with
  | cons r1 r2 =>
   cases r1 with
   | int z =>
    obtain ⟨ts',h1,h⟩:=bnd (show (zcx xs).bind (λts=>some (z :: ts))=some ts from h)
    cases h
    rw [zi9 h1 r2];rfl
   | _=>cases h
section
variable {X:Cx}
variable {a:Expr}{es:List Expr}{mA:AM}{p pos:Pos}
end
section
variable {prog:Program}{w:World}{A:Around}{E:Value->Shared->Prop}{s:Shared}
end
section
variable {P:Program}{w:World}{K:QFg}{tg:Expr}
end
section
variable {X:Cx}{tg:Expr}
end
section
variable {X:Cx}{tgt:Expr}{a:Expr}{mA:AM}{p0 pos':Pos}
end
section
variable {X:Cx}
theorem ybw:bootBuiltins "sorted" = some (.builtin "sorted"):=by decide +kernel
variable {a:Expr}{es:List Expr}{mA:AM}{pos p:Pos}
end
section
variable {X:Cx}{a b:Expr}{ma mb:EM}{pos:Pos}
end
section
variable {prog:Program}{w:World}{A:Around}{R:Result->Shared->Prop}{s:Shared}
end
section
variable {K:QFg}{ρ:List Addr}{H:Hp}{S:Sto}
theorem Sim.besideG {a:Addr}{u0 u:HO}(s:Sim K ρ S H) (ha:H a=some u0) (hu:zdz u0) (hn:∀n:Nat,ρ[n]?≠some a):Sim K ρ S (upd H a u) :=
 ⟨s.len,s.nd,λn b o h1 h2=>(s.at' n b o h1 h2).writtenG ha hu λ_ z=>hn n (by rw [h1,z])⟩
theorem Ext.besideG {a:Addr}{u0 u:HO}{ρ0:List Addr}{H0:Hp}(e:Ext ρ0 H0 ρ H) (h0:H0 a=none) (ha:H a=some u0) (hu:zdz u0):Ext ρ0 H0 ρ (upd H a u) :=
 ⟨⟨e.pre,λb vs h=>by rw [zap (zd7 (e.tup b vs h) ha (λz=>hu.1 vs z.symm))];exact e.tup b vs h,λb o vs h=>by rw [zap (zd7 (e.frz b o vs h) ha (λz=>hu.2 o vs z.symm))];exact e.frz b o vs h⟩,λb vs h n=>⟨by rw [zap (zbd h h0)];exact (e.out b vs h n).1,(e.out b vs h n).2⟩⟩
theorem Sim.adoptG {a:Addr}{o1:Ob}(s:Sim K ρ S H) (ha:ObR K ρ H o1 a) (hn:∀n:Nat,ρ[n]?≠some a):Sim K (ρ++[a]) (S++[o1]) H:=by
 refine ⟨by simp [s.len],λi j b x1 x2 h1 h2 h3 h4 m1 m2=>?_,λn b o h1 h2=>?_⟩
 ·have hl:=s.len
  rcases za8 h1 with g1|⟨e1,f1⟩ <;> rcases za8 h2 with g2|⟨e2,f2⟩
  ·have l1:=(qme g1).1
   have l2:=(qme g2).1
   rcases za8 h3 with g3|⟨e3,_⟩ <;> rcases za8 h4 with g4|⟨e4,_⟩
   ·exact s.nd i j b x1 x2 g1 g2 g3 g4 m1 m2
   ·omega
   ·omega
   ·omega
  ·subst f2;exact absurd g1 (hn i)
  ·subst f1;exact absurd g2 (hn j)
  ·omega
 ·rcases za8 h1 with h1|⟨e1,f1⟩
  ·rcases za8 h2 with h2|⟨e2,f2⟩
   ·exact (s.at' n b o h1 h2).more ext0_push
   ·have:=(qme h1).1;have:=s.len;omega
  ·subst f1
   rcases za8 h2 with h2|⟨e2,f2⟩
   ·have:=(qme h2).1;have:=s.len;omega
   ·subst f2
    exact ha.more ext0_push
end
theorem ybx {ρ:List Addr}{H:Hp}{kvs:List (Key × D)}{vs:List V}(r:RDs ρ H (kvs.map (·.2)) vs):((kvs.map (·.1)).zip vs).length=kvs.length:=by
 rw [List.length_zip,qlm];have:=r.length;rw [qlm] at this;omega
noncomputable def kD:Key->D
 | .inl i=>.int i
 | .inr x=>.str x
section
variable {X:Cx}{tg:Expr}
end
section
variable {X:Cx}{tgt iter:Expr}{m:EM}
end
section
variable {X:Cx}{a b:Expr}{ma mb:EM}{pos:Pos}{k:Nat}
end
open PySem.W
def Fly (h:Heap) (e C T:Addr):Prop:=∃oe vs oT ts a0,h.get? e=some oe/\oe.cls=.ref C/\oe.data=.fields vs/\vs[0]? = some a0/\vs[1]? = some (.ref T)/\T≠e/\h.get? T=some oT/\oT.data=.fields ts/\ts[3]? = some .none
structure Tr (fs:List Addr) (e T:Addr) (h h':Heap):Prop where
 keep:∀b o,b ∉ fs->b≠e->b≠T->h.get? b=some o->h'.get? b=some o
 slot:∀b o,b∈fs->h.get? b=some o->(∀vs,o.data≠.fields vs)->∃sl,h'.get? b=some { o with slots:=sl }
section
variable {M:Model}{A:Around}{E:Value->Shared->Prop}{s:Shared}{base:Heap}{env:Env}{outer:List Env}{L e C T:Addr}{Q:Unit->Shared->Prop}
theorem zq8 {l:List Env}:∀env∈l,∀a,env.frame=some a->a∈frs l:=λenv he a ha=>List.mem_filterMap.mpr ⟨env,he,ha⟩
def New (h:Heap) (e C:Addr):Prop:=∃oe vs a0,h.get? e=some oe/\oe.cls=.ref C/\oe.data=.fields vs/\vs[0]? = some a0/\vs[1]? = some .none
theorem yby (hfr:A.frames=some (env :: outer)) (hl:s.heap.FunFrames base (env :: outer)) (hf:env.frame=some L) (fl:New s.heap e C)
  (hQ:∀h' T',Tr (frs (env :: outer)) e e s.heap h'->Fly h' e C T'->s.heap.get? T' = none->Q () { s with heap:=h' }):wpAny M A (leaving env (.ref e)) Q E s:=by
 obtain ⟨oe,vs,a0,he,hc,hd,h0,h1⟩:=fl
 refine wpAny_leaving_firstW (base:=hideAll s.heap (e :: frs (env :: outer))) (a0:=a0) hfr (funFrames_hide hl λv hv a ha=>List.mem_cons_of_mem _ (zq8 v hv a ha)) hf he (λb o q=>of_hideAll _ q) (hideAll_none _ (by simp)) hd h1 h0 λh' hL=>?_
 obtain ⟨k1,k2,⟨oe',vs',T',oT',ts',e1,⟨c1,z1⟩,d1,f1,n1,ne1,g1,d1',t1⟩,k4⟩:=hL
 refine hQ h' T' ⟨λb o hb h2 h3 q=>k1 b o (hideAll_get _ q (by simp only [List.mem_cons,not_or];exact ⟨h2,hb⟩)),λb o _ q hn=>k4 b o q hn⟩ ⟨oe',vs',oT',ts',a0,e1,c1.trans hc,d1,z1,f1,ne1,g1,d1',t1⟩ ?_
 cases q:s.heap.get? T' with
 | none=>rfl
 | some o =>
  by_cases hm:T'∈e :: frs (env :: outer)
  ·rcases List.mem_cons.mp hm with z|z
   ·exact absurd z ne1
   ·obtain ⟨_,o2,ho2,hnf⟩:=hl.mem z
    rw [q] at ho2;cases ho2
    obtain ⟨sl,hs⟩:=k4 T' o q hnf
    rw [g1] at hs;cases hs
    exact absurd d1' (hnf ts')
  ·rw [hideAll_get _ q hm] at n1;cases n1
end
theorem ObjOk.there {P:Program}{w:World}{H:Hp}{h:Heap}{a:Addr}{o:HO}(x:ObjOk P w H h a o):∃q,h.get? a=some q:=by
 cases o with
 | lst xs=>obtain ⟨_,_,_,_,e⟩:=x;exact ⟨_,e⟩
 | tup xs=>obtain ⟨_,_,_,ob,e,_⟩:=x;exact ⟨_,e⟩
 | dK kvs=>obtain ⟨_,_,_,_,o,_,_,e,_⟩:=x;exact ⟨_,e⟩
 | dT kvs=>obtain ⟨_,_,_,_,o,_,_,e,_⟩:=x;exact ⟨_,e⟩
 | set S n=>obtain ⟨o,_,_,_,e,_⟩:=x;exact ⟨_,e⟩
 | ins C dx fs=>obtain ⟨_,_,_,e,_⟩:=x;exact ⟨_,e⟩
 | own y=>obtain ⟨_,e⟩:=x;exact ⟨_,e⟩
 | xd fs=>obtain ⟨_,⟨_,_,_,e,_⟩,_⟩:=x;exact ⟨_,e⟩
 | rng lo hi=>obtain ⟨_,_,_,e⟩:=x;exact ⟨_,e⟩
 | frz ob u=>obtain ⟨e,_⟩:=x;exact ⟨_,e⟩
 | tbl ps=>exact ⟨_,x⟩
 | met f y=>exact ⟨_,x⟩
 | ext φ=>obtain ⟨_,e,_⟩:=x;exact e
def CX1 (P:Program) (w:World):CXT:=λouter H s E x s'=>∃a C T H',x=.ref a/\s'.os=s.os/\AllBare s'.gens/\Un (frs outer) [] H H' s.heap s'.heap/\HOk P w H' s'.heap /\
 s.heap.get? a=none/\s.heap.get? T=none/\Fly s'.heap a C T/\H' a=none/\H' T=none/\E (.ref C) none H'
section
variable {P:Program}{w:World}{K:QFg}{mg:Str->Option Value}{base:Heap}{N:List Str}{qual:Str}{scope:Scope}{f:Addr}{cd:Value}{A:Around}{outer:List Env}{s:Shared}{H:Hp}{E:XK}
theorem ybz {pins:List (Addr × Obj)}{σ:St}{H1:Hp}{s1:Shared}{a C T T':Addr}{h':Heap}(I:Inv (zb1 (CX1 P w) P w K mg base N qual scope f cd A outer s H E) pins σ H1 s1)
  (na:s.heap.get? a=none) (nT:s.heap.get? T=none) (ha:H1 a=none) (hT:H1 T=none) (hE:E (.ref C) none H1)
  (tr:Tr (frs (envOfC qual scope s.heap.objs.size f cd :: outer)) a T s1.heap h') (fl:Fly h' a C T') (hT':T' = T\/s1.heap.get? T' = none) :
  CX1 P w outer H s E (.ref a) { s1 with heap:=h' }:=by
 have hsub:∀b,b∈frs (envOfC qual scope s.heap.objs.size f cd :: outer)->b=s.heap.objs.size\/b∈frs outer:=λb hb=>by
  rcases List.mem_cons.mp (I.stkSub b hb) with z|z
  ·exact .inl z
  ·exact .inr z
 have hne:∀b o,s.heap.get? b=some o->b≠a/\b≠T/\b≠s.heap.objs.size:=λb o q=>⟨λz=>(by rw [z,na] at q;cases q),λz=>(by rw [z,nT] at q;cases q),Nat.ne_of_lt (Heap.lt_size q)⟩
 have nT':s.heap.get? T' = none:=by
  rcases hT' with rfl|q
  ·exact nT
  ·cases z:s.heap.get? T' with
   | none=>rfl
   | some o=>obtain ⟨o',e⟩:=I.base.there T' o z (by simp [zb1]);rw [q] at e;cases e
 have hT'':H1 T' = none:=by
  rcases hT' with rfl|q
  ·exact hT
  ·cases z:H1 T' with
   | none=>rfl
   | some u=>obtain ⟨o',e⟩:=ObjOk.there (I.hok T' u z);rw [q] at e;cases e
 refine ⟨a,C,T',H1,rfl,I.os,I.bare,⟨λb o q n hb hx=>?_,λb o q n hb hx=>?_,λb o q n hx=>?_,λb o q hx=>?_,I.base.tups,I.base.frzs,I.base.tbls⟩,λb u e=>?_,na,nT',fl,ha,hT'',hE⟩
 ·obtain ⟨h1,h2,h3⟩:=hne b o q
  exact tr.keep b o (λz=>(hsub b z).elim h3 hb) h1 h2 (I.base.keep b o q n hb (by simp [zb1]))
 ·obtain ⟨sl,e⟩:=I.base.slot b o q n hb (by simp [zb1])
  have hb':b∈frs (envOfC qual scope s.heap.objs.size f cd :: outer):=by
   unfold frs at hb ⊢
   rw [List.filterMap_cons]
   split
   ·exact hb
   ·exact List.mem_cons_of_mem _ hb
  obtain ⟨_,o2,ho2,hnf⟩:=I.funs.mem hb
  rw [e] at ho2;cases ho2
  obtain ⟨sl',e'⟩:=tr.slot b _ hb' e hnf
  exact ⟨sl',e'⟩
 ·exact I.base.free b o q n (by simp [zb1])
 ·obtain ⟨h1,h2,h3⟩:=hne b o q
  obtain ⟨o',e⟩:=I.base.there b o q (by simp [zb1])
  by_cases hb:b∈frs (envOfC qual scope s.heap.objs.size f cd :: outer)
  ·obtain ⟨_,o2,ho2,hnf⟩:=I.stack.mem hb
   rw [e] at ho2;cases ho2
   obtain ⟨sl,e'⟩:=tr.slot b _ hb e hnf
   exact ⟨_,e'⟩
  ·exact ⟨o',tr.keep b o' hb h1 h2 e⟩
 ·refine (I.hok b u e).stay (λc v hc q=>?_) (λ_ q=>q) λ_ _ q=>q
  have hcn:H1 c≠none:=by
   rcases hc with z|z
   ·rw [z,e];intro y;cases y
   ·rw [z];intro y;cases y
  exact tr.keep c v (λz=>hcn (I.stkFree c z)) (λz=>hcn (by rw [z];exact ha)) (λz=>hcn (by rw [z];exact hT)) q
theorem yb0 {pins:List (Addr × Obj)}{σ:St}{H1:Hp}{s1:Shared}{a C:Addr}(I:Inv (zb1 (CX1 P w) P w K mg base N qual scope f cd A outer s H E) pins σ H1 s1)
  (na:s.heap.get? a=none) (ha:H1 a=none) (fl:New s1.heap a C) (hE:E (.ref C) none H1) :
  (zb1 (CX1 P w) P w K mg base N qual scope f cd A outer s H E).xe (.ref a) s1 :=
 yby (L:=s.heap.objs.size) I.ok.frames I.stack rfl fl λh' T' tr fl' hT'=>ybz I na na ha ha hE tr fl' (.inr hT')
end
abbrev ZM:=Lo->Sto->Option (Str × Sto)
abbrev ZF:=List D->Sto->Option (Str × Sto)
def Rz (K:QFg) (E:XK) (CA:Str->Addr) (r:ZM):L2.St->Hp->Prop:=λσ H=>∃ρ l S C S',Sim K ρ S H/\RO ρ H l σ/\r l S=some (C,S')/\∀ρ' H',Ext ρ H ρ' H'->Sim K ρ' S' H'->E (.ref (CA C)) none H'
def PSz (X:Cx) (E:XK) (CA:Str->Addr) (st:Stmt) (r:ZM):Prop:=PS X st (λ_ σ H=>Rz X.K E CA r σ H)
def zgh (X:Cx) (E:XK) (CA:Str->Addr) (st:List Stmt) (r:ZM):Prop:=PSs X st (λ_ σ H=>Rz X.K E CA r σ H)
def spZ (K:QFg) (CA:Str->Addr) (n:Nat) (rx:ZF):Sp:=λvs H _ E=>vs.length=n/\∃ρ ds S C S',Sim K ρ S H/\RDs ρ H ds vs/\rx ds S=some (C,S')/\∀ρ' H',Ext ρ H ρ' H'->Sim K ρ' S' H'->E (.ref (CA C)) none H'
noncomputable def zdx:ZM:=λ_ _=>none
noncomputable def zIf (t:TM) (r q:ZM):ZM:=λl S=>(t l S).bind λp=>if p.1=true then r l p.2 else q l p.2
noncomputable def zja (rx:ZF) (mA:AM):ZM:=λl S=>(mA l S).bind λp=>rx p.1 p.2
section
variable {X:Cx}{E:XK}{CA:Str->Addr}{e:Expr}{es:List Expr}{st:Stmt}{rest:List Stmt}{r q:ZM}{m:EM}{b:SM}{pos:Pos}
theorem Rz.none {K:QFg}{σ:L2.St}{H:Hp}(h:Rz K E CA zdx σ H):False:=by
 obtain ⟨ρ,l,S,C,S',sim,ro,hm,p⟩:=h;cases hm
theorem yb1:zgh X E CA rest zdx:=λ_ _ _ _ _ _ h=>h.none.elim
theorem yb2:PSs X rest (λ_ _ _=>False):=λ_ _ _ _ _ _ h=>h.elim
theorem zms (h:PSz X E CA st r):zgh X E CA (st :: rest) r:=λpins s σ H D I q=>zoe (u:=λ_ _ _=>False) h yb2 pins s σ H D I q
theorem yb3 {c:Expr}{a d:List Stmt}{mc:TM}(hc:PT3 X c mc) (ha:zgh X E CA a r) (hb:zgh X E CA d q):PSz X E CA (.If c a d pos) (zIf mc r q):=λpins s σ H D I ⟨ρ,l,S,C,S',sim,ro,hm,p⟩=>zof hc ha hb pins s σ H D I (by
 obtain ⟨⟨x,S1⟩,q1,hm⟩:=bnd hm
 refine ⟨ρ,l,S,x,S1,sim,ro,q1,λρ1 H1 e1 s1=>?_⟩
 cases x with
 | true=>exact zfc ⟨ρ1,l,S1,C,S',s1,ro.mono e1,hm,λρ2 H2 e2 s2=>p ρ2 H2 (e1.trans e2) s2⟩
 | false=>exact zfb ⟨ρ1,l,S1,C,S',s1,ro.mono e1,hm,λρ2 H2 e2 s2=>p ρ2 H2 (e1.trans e2) s2⟩)
end
def ze3 (P:Program) (w:World) (K:QFg) (mg:Str->Option Value) (base:Heap) (CA:Str->Addr) (x:Str) (k n:Nat) (rx:ZF):Prop :=
 ∃(f:Addr) (fd:FuncData) (ps:List Str),FnOk P w K mg base (CX1 P w) k f fd ps (spZ K CA n rx)/\mg x=some (.ref f)/\PySem.W.keepIn K (.ref f)=true/\Binds K fd ps []
section
variable {X:Cx}{E:XK}{CA:Str->Addr}{a:Expr}{es:List Expr}{mA:AM}{pos p:Pos}{x:Str}{k j n:Nat}{rx:ZF}
end
noncomputable abbrev zc8:List Value:=[.type "ValueError",.type "Exception",.type "BaseException",.type "object"]
noncomputable def ze4 (K:QFg) (C:Addr):List Value:=match K.lookup C with
 | some ⟨_,_,.cls cd,_⟩=>cd.mro.tail
 | _=>[]
theorem zks {K:QFg}{h:Heap}{C:Addr}{bmB:List Value}{newId:String}(X:K.In h) (q:excIn K C bmB newId=true) :
  ∃N nm qn bs hdct sn sub ab col dd k0 k1 k2 k3 k5 mN,h.get? C=some (excClassObj nm qn C N bs (ze4 K C) hdct sn sub ab col dd k0 k1 k2 k3 k5 newId)/\h.Ns N mN/\mN "__init__" = none/\OwnTail h bmB (ze4 K C):=by
 unfold excIn at q
 split at q
 ·rename_i dd cd sl ho
  split at q
  ·rename_i C' bm k0 k1 k2 k3 n k5 hm hs
   simp only [Bool.and_eq_true,beq_iff_eq,Bool.not_eq_true'] at q
   obtain ⟨⟨⟨⟨⟨rfl,rfl⟩,hdel⟩,ht⟩,hok⟩,hni⟩:=q
   obtain ⟨nm,bs,mro,ns,qn,hd,sn,sub,ab,col,del⟩:=cd
   dsimp only at hm hdel hok hni
   subst hm hdel
   have hsl:sl = #[k0,k1,k2,k3,some (.builtin n),k5]:=by
    obtain ⟨l⟩:=sl
    simp only at hs
    rw [hs]
   subst hsl
   have et:ze4 K C' = bm:=by unfold ze4;rw [ho];rfl
   rw [et]
   exact ⟨ns,nm,qn,bs,hd,sn,sub,ab,col,dd,k0,k1,k2,k3,k5,_,X _ _ ho,.of_isNs (isNs_of_in X hok),nsMap_none_of_in X hok hni,tail_of_in X ht⟩
  ·cases q
 ·cases q
section
variable {P:Program}{w:World}{K:QFg}{mg:Str->Option Value}{base:Heap}{N:List Str}{qual:Str}{scope:Scope}{f:Addr}{cd:Value}{A:Around}{outer:List Env}{s:Shared}{H:Hp}{E:XK}{CA:Str->Addr}
theorem yb4 {x z:Str}{j:Nat}{np p1 cpos pos:Pos}(hg:Gl (zb1 (CX1 P w) P w K mg base N qual scope f cd A outer s H E) x) (hm:mg x=some (.ref (CA x))) (q:excIn K (CA x) zc8 "ValueError.__new__" = true) (hd:(x == ("__debug__":Str))=false:=by decide) :
  PSz (zb1 (CX1 P w) P w K mg base N qual scope f cd A outer s H E) E CA (.Raise (some (.Call (.Name x np) [.Constant (.str z) j p1] [] cpos)) none pos) (λ_ S=>some (x,S)):=by
 intro pins s1 σ H1 D I ⟨ρ,l,S,C,S',sim,ro,hz,p⟩
 cases hz
 have hE:=p ρ H1 (Ext.refl ..) sim
 obtain ⟨N',nm,qn,bs,hdct,sn,sub,ab,col,dd,k0,k1,k2,k3,k5,mN,hC,hN,hni,T⟩:=zks (h:=base) I.mod.kin q
 refine wpAny_Raise_call_subU (C:=CA x) (nm:=nm) (q:=qn) (N:=N') (bs:=bs) (bm:=ze4 K (CA x)) (hdct:=hdct) (sn:=sn) (sub:=sub) (ab:=ab) (col:=col) (dd:=dd) (k0:=k0) (k1:=k1) (k2:=k2) (k3:=k3) (k5:=k5)
  F.excBase_ValueError (by decide) F.excBase_ValueError (mN:=mN) (T.hasType F.excBase_ValueError.hasBase) (I.ok.hd rfl) rfl hni (zib I hg hm ⟨rfl,?_⟩ hd)
 refine Calls.evalArgs_plain (thn (zfa (X:=zb1 (CX1 P w) P w K mg base N qual scope f cd A outer s H E) (e:=.Constant (.str z) j p1) zod zg0 rfl cpos pins s1 σ H1 (λvs H2=>H2=H1/\vs.length=1) I ⟨rfl,rfl⟩) λus s2 ⟨vs,H2,I2,r,e2,hl⟩=>?_)
 subst e2
 refine ⟨rfl,by rw [<-r.length,hl];decide,I2.bk _ _ hC,hN.keeps I2.bk,T.keeps I2.bk,λh' e hm=>?_⟩
 have I3:=I2.kept (h':=h') (t':=s2.toks) hm.keeps
 have hne:=hm.new
 have na:s.heap.get? e=none:=by
  cases z:s.heap.get? e with
  | none=>rfl
  | some o=>obtain ⟨o',e'⟩:=I2.base.there e o z (by simp [zb1]);rw [hne] at e';cases e'
 have ha:H2 e=none:=by
  cases z:H2 e with
  | none=>rfl
  | some u=>obtain ⟨o',e'⟩:=ObjOk.there (I2.hok e u z);rw [hne] at e';cases e'
 obtain ⟨t,ht,_,_⟩:=hm.there
 exact yb0 (s1:={ s2 with heap:=h' }) I3 na ha ⟨_,_,_,ht,rfl,rfl,rfl,rfl⟩ hE
end
section
variable {M:Model}{A:Around}{E:Value->Shared->Prop}{s:Shared}{base:Heap}{env:Env}{outer l:List Env}{L e C T:Addr}{Q:Unit->Shared->Prop}
theorem zq9 (hl:s.heap.FunFrames base l) {h':Heap}{a0:Value}(held:Heap.FlyingW (hideAll s.heap (e :: T :: frs l)) l e (.ref C) a0 h') (sm:s.heap.UpToSlots h') :
  ∃T',Tr (frs l) e T s.heap h'/\Fly h' e C T'/\(T' = T\/s.heap.get? T' = none):=by
 obtain ⟨k1,k2,k3,oe',vs',T',oT',ts',e1,⟨c1,z1⟩,d1,f1,n1,ne1,g1,d1',t1⟩:=held
 refine ⟨T',⟨λb o hb h2 h3 q=>k1 b o (hideAll_get _ q (by simp only [List.mem_cons,not_or];exact ⟨h2,h3,hb⟩)),λb o _ q hn=>sm b o q hn⟩,⟨oe',vs',oT',ts',a0,e1,c1,d1,z1,f1,ne1,g1,d1',t1⟩,?_⟩
 cases q:s.heap.get? T' with
 | none=>exact .inr rfl
 | some o =>
  refine .inl ?_
  by_cases hm:T'∈e :: T :: frs l
  ·rcases List.mem_cons.mp hm with z|z
   ·exact absurd z ne1
   ·rcases List.mem_cons.mp z with z|z
    ·exact z
    ·obtain ⟨_,o2,ho2,hnf⟩:=hl.mem z
     rw [q] at ho2;cases ho2
     obtain ⟨sl,hs⟩:=sm T' o q hnf
     rw [g1] at hs;cases hs
     exact absurd d1' (hnf ts')
  ·rw [hideAll_get _ q hm] at n1;cases n1
theorem zra (hl:s.heap.FunFrames base l) (fl:Fly s.heap e C T):∃a0,Heap.FlyingW (hideAll s.heap (e :: T :: frs l)) l e (.ref C) a0 s.heap:=by
 obtain ⟨oe,vs,oT,ts,a0,he,hc,hd,h0,h1,hTe,hT,hdT,h3⟩:=fl
 exact ⟨a0,λb o q=>of_hideAll _ q,hideAll_none _ (by simp),funFrames_hide hl λv hv a ha=>List.mem_cons_of_mem _ (List.mem_cons_of_mem _ (zq8 v hv a ha)),oe,vs,T,oT,ts,he,⟨hc,h0⟩,hd,h1,hideAll_none _ (by simp),hTe,hT,hdT,h3⟩
theorem yb5 (hfr:A.frames=some (env :: outer)) (hl:s.heap.FunFrames base (env :: outer)) (hf:env.frame=some L) (fl:Fly s.heap e C T)
  (hQ:∀h' T',Tr (frs (env :: outer)) e T s.heap h'->Fly h' e C T'->(T' = T\/s.heap.get? T' = none)->Q () { s with heap:=h' }) :
  wpAny M A (noteFrame (.ref e) env) (λ_ s₂=>wpAny M A (setFlight (.ref e) none) Q E s₂) E s:=by
 obtain ⟨a0,fw⟩:=zra hl fl
 refine wpAny_looks_onW hfr hf fw λh4 held4 sm4=>?_
 refine wpAny_landsW (s:={ s with heap:=h4 }) held4 λh5 held sm5=>?_
 obtain ⟨T',t1,t2,t3⟩:=zq9 hl held (sm4.trans sm5)
 exact hQ h5 T' t1 t2 t3
theorem yb6 (hl:s.heap.FunFrames base l) (fl:Fly s.heap e C T)
  (hQ:∀h' T',Tr (frs l) e T s.heap h'->Fly h' e C T'->(T' = T\/s.heap.get? T' = none)->Q () { s with heap:=h' }):wpAny M A (setFlight (.ref e) none) Q E s:=by
 obtain ⟨a0,fw⟩:=zra hl fl
 refine lands_againW fw λh5 held sm5=>?_
 obtain ⟨T',t1,t2,t3⟩:=zq9 hl held sm5
 exact hQ h5 T' t1 t2 t3
end
section
variable {X:Cx}{pins:List (Addr × Obj)}{σ:L2.St}{H:Hp}{s:Shared}{h':Heap}{a T:Addr}{t':Nat}
theorem Inv.tr (I:Inv X pins σ H s) (hex:X.ex=[]) (tr:Tr (frs X.stack) a T s.heap h') (na:X.s₀.heap.get? a=none) (nT:X.s₀.heap.get? T=none) (ha:H a=none) (hT:H T=none)
  (oL:X.env.locals≠a/\X.env.locals≠T) (oC:∀x c,X.env.cells.lookup x=some c->c≠a/\c≠T) (oP:∀p∈X.pn++pins,p.1≠a/\p.1≠T):Inv X pins σ H { s with heap:=h',toks:=t' }:=by
 have kp:∀b o,(∀vs,o.data≠.fields vs)->b≠a->b≠T->s.heap.get? b=some o->∃sl,h'.get? b=some { o with slots:=sl }:=λb o hn h1 h2 q=>by
  by_cases hb:b∈frs X.stack
  ·exact tr.slot b o hb q hn
  ·exact ⟨o.slots,tr.keep b o hb h1 h2 q⟩
 have hne:∀b o,X.s₀.heap.get? b=some o->b≠a/\b≠T/\b≠X.env.locals:=λb o q=>⟨λz=>(by rw [z,na] at q;cases q),λz=>(by rw [z,nT] at q;cases q),Nat.ne_of_lt (Nat.lt_of_lt_of_le (Heap.lt_size q) I.ok.above)⟩
 have nex:∀b,b ∉ X.ex:=λb=>by rw [hex];simp
 refine ⟨I.ok,I.os,I.bare,⟨λb o q n hb hx=>?_,λb o q n hb hx=>?_,I.base.free,λb o q hx=>?_,I.base.tups,I.base.frzs,I.base.tbls⟩,?_,λx c e=>?_,I.free,I.freeC,λp hp=>?_,λb u e=>?_,I.len⟩
 ·obtain ⟨h1,h2,h3⟩:=hne b o q
  exact tr.keep b o (λz=>(List.mem_cons.mp (I.stkSub b z)).elim h3 hb) h1 h2 (I.base.keep b o q n hb hx)
 ·obtain ⟨h1,h2,h3⟩:=hne b o q
  obtain ⟨sl,e⟩:=I.base.slot b o q n hb hx
  obtain ⟨_,o2,ho2,hnf⟩:=I.funs.mem hb
  rw [e] at ho2;cases ho2
  obtain ⟨sl',e'⟩:=kp b _ hnf h1 h2 e
  exact ⟨sl',e'⟩
 ·obtain ⟨h1,h2,h3⟩:=hne b o q
  obtain ⟨o',e⟩:=I.base.there b o q hx
  by_cases hb:b∈frs X.stack
  ·obtain ⟨_,o2,ho2,hnf⟩:=I.stack.mem hb
   rw [e] at ho2;cases ho2
   obtain ⟨sl,e'⟩:=tr.slot b _ hb e hnf
   exact ⟨_,e'⟩
  ·exact ⟨o',tr.keep b o' hb h1 h2 e⟩
 ·obtain ⟨m,⟨o,es,ep,ho,hd,hr⟩,hl⟩:=I.loc
  obtain ⟨sl,e'⟩:=kp _ o (λvs z=>by rw [hd] at z;cases z) oL.1 oL.2 ho
  refine ⟨m,⟨_,es,ep,e',hd,hr⟩,λi x v h1 h2 h3=>?_⟩
  obtain ⟨u,r,lk⟩:=hl i x v h1 h2 h3
  refine ⟨u,r,?_⟩
  rcases lk with lk|⟨k,c,hc,oc,hoc,hdc⟩
  ·exact .inl lk
  ·obtain ⟨sl2,e2⟩:=kp c oc (λvs z=>by rw [hdc] at z;cases z) (oC x c hc).1 (oC x c hc).2 hoc
   exact .inr ⟨k,c,hc,_,e2,hdc⟩
 ·obtain ⟨v,o,ho,hd⟩:=I.cell x c e
  obtain ⟨sl2,e2⟩:=kp c o (λvs z=>by rw [hd] at z;cases z) (oC x c e).1 (oC x c e).2 ho
  exact ⟨v,_,e2,hd⟩
 ·obtain ⟨e,n,ne,nf,d⟩:=I.pin p hp
  exact ⟨tr.keep _ _ (λz=>(List.mem_cons.mp (I.stkSub _ z)).elim ne nf) (oP p hp).1 (oP p hp).2 e,n,ne,nf,d⟩
 ·refine (I.hok b u e).stay (λc v hc q=>?_) (λ_ q=>q) λ_ _ q=>q
  have hcn:H c≠none:=by
   rcases hc with z|z
   ·rw [z,e];intro y;cases y
   ·rw [z];intro y;cases y
  exact tr.keep c v (λz=>hcn (I.stkFree c z)) (λz=>hcn (by rw [z];exact ha)) (λz=>hcn (by rw [z];exact hT)) q
end
section
variable {M:Model}{A:Around}{E:Value->Shared->Prop}{h:Heap}{g:Array GenState}{d:Drawn}{t:Nat}{os:OsState}
variable {nm q nm' q':Str}{C N D N':Addr}{bs bm bs' bm':List Value}{hdct hdct':Bool}{sn sn':List Str}{sub sub':List Value}{ab ab':Bool}{col col':Option Bool}{dd dd':Option Addr}{k0 k1 k2 k3 k5 k0' k1' k2' k3' k5':Option Value}{newId newId':String}
theorem yb7 {e:Addr}{oe:Obj}{Q:Bool->Shared->Prop}
  (hC:h.get? C=some (excClassObj nm q C N bs bm hdct sn sub ab col dd k0 k1 k2 k3 k5 newId)) (hD:h.get? D=some (excClassObj nm' q' D N' bs' bm' hdct' sn' sub' ab' col' dd' k0' k1' k2' k3' k5' newId'))
  (he:h.get? e=some oe) (hcls:oe.cls=.ref C) (hbase:bm'.contains (.type "BaseException")=true) (hin:(Value.ref C :: bm).contains (.ref D)=true)
  (hq:Q true ⟨h,g,d,t,os⟩):wpAny M A (excMatches (.ref e) (.ref D)) Q E ⟨h,g,d,t,os⟩:=by
 have hcB:(Value.ref D :: bm').contains (.type "BaseException")=true:=by rw [List.contains_cons,hbase,Bool.or_true]
 have f:=tc_notTuple
 unfold excMatches
 repeat (first|(with_reducible refine wpAny_loadPart_at he ?_;rw [hcls])|with_reducible refine wpAny_loadPart_at hD ?_|with_reducible refine wpAny_loadPart_at hC ?_|(with_reducible refine wpAny_isSubtype_exc hD ?_;rw [hcB])|(with_reducible refine wpAny_isSubtype_exc hC ?_;rw [hin])|wp_step)
 exact hq
end
noncomputable abbrev mk1 (X:Cx) (e:Value):Cx:={ X with A:=X.A.mark (some e),calm:=false,xe:=λ_ _=>False }
def phi (e C:Addr):Heap->Prop:=λh=>∃o,h.get? e=some o/\o.cls=.ref C
section
variable {X:Cx}{pins:List (Addr × Obj)}{σ:L2.St}{H:Hp}{s:Shared}{a C T:Addr}{e:Value}
theorem Inv.mk1 (I:Inv X pins σ H s):Inv (L3.mk1 X e) pins σ H s :=
 ⟨⟨I.ok.mod,I.ok.kind,I.ok.glob,I.ok.blt,I.ok.above,I.ok.inj,I.ok.has,I.ok.cab,λh=>absurd (show false=true from h) Bool.false_ne_true,I.ok.frames,I.ok.stk,I.ok.exf,I.ok.bs,I.ok.bsz,I.ok.noex,I.ok.exfs,I.ok.funs,I.ok.frf⟩,I.os,I.bare,I.base,I.loc,I.cell,I.free,I.freeC,I.pin,I.hok,I.len⟩
theorem Inv.unmk1 (ok:X.Ok) (I:Inv (L3.mk1 X e) pins σ H s):Inv X pins σ H s:=⟨ok,I.os,I.bare,I.base,I.loc,I.cell,I.free,I.freeC,I.pin,I.hok,I.len⟩
theorem Inv.track (I:Inv X pins σ H s) (ha:H a=none) (na:X.s₀.heap.get? a=none) (oL:X.env.locals≠a) (oC:∀x c,X.env.cells.lookup x=some c->c≠a) (oP:∀p∈X.pn++pins,p.1≠a)
  (he:phi a C s.heap):Inv X pins σ (upd H a (.ext (phi a C))) s:=by
 have up:∀b u,H b=some u->upd H a (.ext (phi a C)) b=some u:=λb u q=>by rw [zap (zbd q ha)];exact q
 refine ⟨I.ok,I.os,I.bare,⟨I.base.keep,I.base.slot,λb o q n hx=>?_,I.base.there,λb xs q=>up _ _ (I.base.tups b xs q),λb o u q=>up _ _ (I.base.frzs b o u q),λb ps q=>?_⟩,I.loc,I.cell,?_,λx c q=>?_,λp hp=>?_,λb u q=>?_,I.len⟩
 ·rw [zap (λz=>by rw [z,na] at q;cases q)]
  exact I.base.free b o q n hx
 ·obtain ⟨more,z⟩:=I.base.tbls b ps q
  exact ⟨more,up _ _ z⟩
 ·rw [zap oL];exact I.free
 ·rw [zap (oC x c q)];exact I.freeC x c q
 ·obtain ⟨z,n,ne,nf,d⟩:=I.pin p hp
  exact ⟨z,by rw [zap (oP p hp)];exact n,ne,nf,d⟩
 ·by_cases hb:b=a
  ·subst hb
   rw [zbw] at q;cases q
   obtain ⟨o,h1,h2⟩:=he
   exact ⟨⟨o,h1,h2⟩,⟨o,h1⟩,λh1 h2 ⟨o,z1,z2⟩ k=>⟨o,k o z1,z2⟩⟩
  ·rw [zap hb] at q
   exact (I.hok b u q).stay (λc v _ z=>z) (λc z=>up _ _ z) λc xs z=>up _ _ z
theorem Inv.unbound {n:Str}{i:Nat}{h':Heap}{m:Str->Option Value}{v:Option Value}{t':Nat}(I:Inv X pins σ H s) (hN:X.N.Nodup) (hi:X.N[i]? = some n)
  (hm:s.heap.Ns X.env.locals m) (hn:h'.Ns X.env.locals (λx=>if x=n then v else m x)) (sb:Heap.SameBut X.env.locals s.heap h'):Inv X pins (σ.set i none) H { s with heap:=h',toks:=t' }:=by
 have kp:∀b o,b≠X.env.locals->s.heap.get? b=some o->h'.get? b=some o:=λb o hb q=>sb.extBut b o hb q
 have hL:∀b o,X.s₀.heap.get? b=some o->b≠X.env.locals:=λb o q=>Nat.ne_of_lt (Nat.lt_of_lt_of_le (Heap.lt_size q) I.ok.above)
 have nfs:X.env.locals ∉ X.fs:=λz=>by
  obtain ⟨_,o,ho,_⟩:=I.ok.funs.mem z
  exact hL _ o ho rfl
 refine ⟨I.ok,I.os,I.bare,⟨λb o q n hb hx=>kp b o (hL b o q) (I.base.keep b o q n hb hx),λb o q n hb hx=>?_,I.base.free,λb o q hx=>?_,I.base.tups,I.base.frzs,I.base.tbls⟩,⟨_,hn,λj x u h1 h2 h3=>?_⟩,λx c q=>?_,I.free,I.freeC,λp hp=>?_,λb u q=>?_,by rw [List.length_set];exact I.len⟩
 ·obtain ⟨sl,z⟩:=I.base.slot b o q n hb hx
  exact ⟨sl,kp b _ (hL b o q) z⟩
 ·obtain ⟨o',z⟩:=I.base.there b o q hx
  exact ⟨o',kp b _ (hL b o q) z⟩
 ·have hji:i≠j:=λz=>by
   subst z
   rw [List.getElem?_set_self (by have:=(qme hi).1;rw [I.len];exact this)] at h2
   cases h2
  rw [List.getElem?_set_ne hji] at h2
  have hxn:x≠n:=λz=>hji (zlh hN hi (by rw [h1,z]))
  obtain ⟨m0,hn0,hl⟩:=I.loc
  obtain ⟨w,r,lk⟩:=hl j x u h1 h2 h3
  have em:m0=m:=by
   obtain ⟨o1,es1,ep1,ho1,hd1,hk1,hf1⟩:=hn0
   obtain ⟨o2,es2,ep2,ho2,hd2,hk2,hf2⟩:=hm
   rw [ho1] at ho2;cases ho2
   rw [hd1] at hd2;cases hd2
   funext y;rw [<-hf1 y,<-hf2 y]
  subst em
  refine ⟨w,r,?_⟩
  rcases lk with ⟨k,z⟩|⟨k,c,hc,o,ho,hd⟩
  ·exact .inl ⟨k,by show (if x=n then v else m0 x)=some w;rw [if_neg hxn];exact z⟩
  ·exact .inr ⟨k,c,hc,o,kp c o (I.cne x c hc) ho,hd⟩
 ·obtain ⟨w,o,ho,hd⟩:=I.cell x c q
  exact ⟨w,o,kp c o (I.cne x c q) ho,hd⟩
 ·obtain ⟨z,n,ne,nf,d⟩:=I.pin p hp
  exact ⟨kp _ _ ne z,n,ne,nf,d⟩
 ·refine (I.hok b u q).stay (λc w hc z=>kp c w (λy=>?_) z) (λ_ z=>z) λ_ _ z=>z
  have hcn:H c≠none:=by
   rcases hc with y|y
   ·rw [y,q];intro z;cases z
   ·rw [y];intro z;cases z
  exact hcn (by rw [y];exact I.free)
end
def EH (X:Cx) (Dh:Addr) (tS:TS) (i:Nat) (D:Ends) (σ:L2.St):XK:=λc _ H'=>∃C,c=.ref C/\excIn X.K C zc8 "ValueError.__new__" = true/\(Value.ref C :: ze4 X.K C).contains (.ref Dh)=true /\
 ∀e,H' e=none->tS { nx:=λσ' H''=>D.nx (σ'.set i none) H'',rt:=λ_ _=>False } (σ.set i (some (.ref e))) (upd H' e (.ext (phi e C)))
section
variable {X:Cx}{pins:List (Addr × Obj)}{σ:L2.St}{tS:TS}{i:Nat}{Dh:Addr}{n hx:Str}{np hpos:Pos}{b0:Stmt}{suite:List Stmt}
theorem yb8 (hstk:X.stack=X.env :: X.outer) (hfm:X.env.frame=some X.env.locals) (hex:X.ex=[]) (hg:Gl X hx) (hm:X.mg hx=some (.ref Dh)) (qD:excIn X.K Dh zc8 "ValueError.__new__" = true)
  (hS:∀e,PSs (mk1 X e) (b0 :: suite) tS) (hN:X.N.Nodup) (hi:X.N[i]? = some n) (hln:X.env.scope.names.lookup n=some .local) (hd:(hx == ("__debug__":Str))=false)
  {H1:Hp} {s1 s2:Shared} {e:Value} {D:Ends} (I1:Inv X pins σ H1 s1) (cx:CX1 X.prog X.w X.stack H1 s1 (EH X Dh tS i D σ) e s2) :
  wpAny (model X.prog X.w) X.A (noteFrame e X.env) (λ_ s₂=>wpAny (model X.prog X.w) X.A (setFlight e none) (λ_ s₃ =>
   wpAny (model X.prog X.w) X.A (handleBy e X.env [.ExceptHandler (some (.Name hx np)) (some n) (b0 :: suite) hpos]) (SP X pins D) X.xe s₃) X.xe s₂) X.xe s2:=by
 obtain ⟨a,C,T,H',rfl,ho,hgn,un,hok,na,nT,fl,ha,hT,hE⟩:=cx
 obtain ⟨C',hCe,qC,hin,hE⟩:=hE
 cases hCe
 have I2:Inv X pins σ H' s2:=I1.call' (s':=s2) (ch:=[]) ho un hok hgn (λb hb=>by cases hb)
 have up:∀b,s1.heap.get? b=none->X.s₀.heap.get? b=none:=λb q=>by
  cases z:X.s₀.heap.get? b with
  | none=>rfl
  | some o=>obtain ⟨o',e⟩:=I1.base.there b o z (by rw [hex];simp);rw [q] at e;cases e
 have out:∀b,s1.heap.get? b=none->X.env.locals≠b/\(∀x c,X.env.cells.lookup x=some c->c≠b)/\∀p∈X.pn++pins,p.1≠b:=λb q=>by
  refine ⟨λz=>?_,λx c hc z=>?_,λp hp z=>?_⟩
  ·obtain ⟨m,⟨o,_,_,h1,_⟩,_⟩:=I1.loc
   rw [z,q] at h1;cases h1
  ·obtain ⟨v,o,h1,_⟩:=I1.cell x c hc
   rw [z,q] at h1;cases h1
  ·have:=(I1.pin p hp).1
   rw [z,q] at this;cases this
 have stk:∀{σ':L2.St} {H'':Hp} {s':Shared},Inv X pins σ' H'' s'->s'.heap.FunFrames X.base (X.env :: X.outer):=λI=>by have:=I.stack;rw [hstk] at this;exact this
 have oa:=out a na
 have oT:=out T nT
 refine yb5 (L:=X.env.locals) (by rw [I2.ok.frames,hstk]) (stk I2) hfm fl λh3 T3 tr3 fl3 hT3=>?_
 rw [<-hstk] at tr3
 have I3:Inv X pins σ H' { s2 with heap:=h3 }:=Inv.tr (t':=s2.toks) I2 hex tr3 (up a na) (up T nT) ha hT ⟨oa.1,oT.1⟩ (λx c q=>⟨oa.2.1 x c q,oT.2.1 x c q⟩) (λp q=>⟨oa.2.2 p q,oT.2.2 p q⟩)
 have nT3:s1.heap.get? T3=none:=by
  rcases hT3 with rfl|q
  ·exact nT
  ·cases z:s1.heap.get? T3 with
   | none=>rfl
   | some o=>obtain ⟨o',e⟩:=un.there T3 o z (by simp);rw [q] at e;cases e
 have hT3':H' T3=none:=by
  rcases hT3 with rfl|q
  ·exact hT
  ·cases z:H' T3 with
   | none=>rfl
   | some u=>obtain ⟨o',e⟩:=ObjOk.there (hok T3 u z);rw [q] at e;cases e
 have oT3:=out T3 nT3
 obtain ⟨N1,nm1,qn1,bs1,hdct1,sn1,sub1,ab1,col1,dd1,k01,k11,k21,k31,k51,mN1,hC1,_,_,_⟩:=zks (h:=h3) I3.kIn qC
 obtain ⟨N2,nm2,qn2,bs2,hdct2,sn2,sub2,ab2,col2,dd2,k02,k12,k22,k32,k52,mN2,hC2,_,_,TL2⟩:=zks (h:=h3) I3.kIn qD
 obtain ⟨oe,vs,oT',ts,a0,he,hcl,_⟩:=id fl3
 refine wpAny_handleBy_cons (codeAny_handlers_test (Calls.Name_function_global I3.ok.kind hg (Calls.loadGlobal_global (by rw [I3.ok.glob];exact I3.mod.glob.keeps I3.bk) hm ?_) hd)) (by intro q;cases q)
 refine yb7 hC1 hC2 he hcl (TL2.hasType F.excBase_ValueError.hasBase) hin ?_
 refine codeAny_handlers_suite_as ?_
 refine yb6 (s:={ s2 with heap:=h3 }) (stk I3) fl3 λh4 T4 tr4 fl4 hT4=>?_
 rw [<-hstk] at tr4
 have I4:Inv X pins σ H' { s2 with heap:=h4 }:=Inv.tr (s:={ s2 with heap:=h3 }) (t':=s2.toks) I3 hex tr4 (up a na) (up T3 nT3) ha hT3' ⟨oa.1,oT3.1⟩ (λx c q=>⟨oa.2.1 x c q,oT3.2.1 x c q⟩) (λp q=>⟨oa.2.2 p q,oT3.2.2 p q⟩)
 obtain ⟨oe4,vs4,oT4,ts4,a04,he4,hcl4,_⟩:=id fl4
 have I5:=Inv.track (C:=C) I4 ha (up a na) oa.1 oa.2.1 oa.2.2 ⟨oe4,he4,hcl4⟩
 refine zjx (v:=.ref a) I5 hN hi (.inl hln) rfl (λs6 I6=>?_) (.inr hln)
 refine wpAny_mono (hS (.ref a) pins s6 (σ.set i (some (.ref a))) _ _ (Inv.mk1 I6) (hE a ha)) (λf s7 hf=>?_) λ_ _ z=>False.elim z
 cases f with
 | next =>
  obtain ⟨σ',H'',I7,q7⟩:=hf
  have I7:=Inv.unmk1 I6.ok I7
  obtain ⟨m,hn,_⟩:=I7.loc
  show wpAny _ X.A (do bindName X.env n .none;unbindBehindTheSuite X.env n hpos) _ _ s7
  exact wpAny_nameGoes_keeps hln hn (by rw [I7.ok.kind];rfl) λh8 v hn8 sb8=>⟨σ'.set i none,H'',Inv.unbound I7 hN hi hn hn8 sb8,q7⟩
 | ret v=>obtain ⟨_,_,_,_,_,q⟩:=hf;exact q.elim
 | brk=>obtain ⟨_,_,_,q⟩:=hf;exact q.elim
 | cont=>obtain ⟨_,_,_,q⟩:=hf;exact q.elim
end
noncomputable def zmt (k:Nat) (r:ZM):ZF:=λds S=>r (ds.map some++List.replicate (k-ds.length) none) S
theorem yb9 {P:Program}{w:World}{K:QFg}{mg:Str->Option Value}{base:Heap}{CA:Str->Addr}{x:Str}{st:Stmt}{f:Addr}{fd:FuncData}{N ps:List Str}{k n:Nat}{r:ZM}(F:Fun K x x st f fd) (hm:mg x=some (.ref f)) (S:FnScope N ps (za1 st)) (hn:ps.length=n) (hb:Binds K fd ps [])
  (hbody:∀(cdv:Value),PySem.W.codeIn K cdv x=true->∀(A:Around) (outer:List Env) (s:Shared) (H:Hp) (E:XK),Room k (A.deeper (envOfC x (za1 st) s.heap.objs.size f cdv)) ->
   zgh (zb1 (CX1 P w) P w K mg base N x (za1 st) f cdv A outer s H E) E CA (zdr st) r):ze3 P w K mg base CA x (k+1) n (zmt N.length r):=by
 refine ⟨f,fd,ps,?_,hm,F.kp,hb⟩
 obtain ⟨oc,od,kV,doc,pm,an,cdv,ct,osl,rfl,lk,hcd⟩:=F.ex
 refine zoz lk hcd S (λvs H Q E h=>by rw [h.1,hn]) λA outer s H vs Q E hr h=>?_
 obtain ⟨hl,ρ,ds,S0,C,S',sim,rd,hz,p⟩:=h
 exact ⟨_,hbody cdv hcd A outer s H E hr,ρ,_,S0,C,S',sim,rd.locals N,hz,p⟩
section
variable {X:Cx}{E:XK}{CA:Str->Addr}{a:Expr}{es:List Expr}{mA:AM}{cpos p apos py tpos:Pos}{x y:Str}{k j n:Nat}{rx:ZF}
theorem yca (F:ze3 X.prog X.w X.K X.mg X.base CA x k n rx) (hxe:∀e s,X.xe e s->False) (hr:Room j X.A) (hkj:k<=j) (hg:Gl X x)
  (ha:PA3 X (a :: es) mA) (hl:∀l S v S',mA l S=some (v,S')->v.length=n) (hdb:(x == ("__debug__":Str))=false) (he:starEach (a :: es) X.env=(false,eval a X.env) :: starEach es X.env) (hpl:(backTo cpos (starEach es X.env)).any (·.1)=false)
  (hs:swapsWithSole [.Name y py] (.Call (.Name x p) (a :: es) [] cpos) apos.line X.env=pure false) (hw:swappedStores [.Name y py] (.Call (.Name x p) (a :: es) [] cpos) X.env=pure none)
  {pins:List (Addr × Obj)} {s:Shared} {σ:L2.St} {H:Hp} {Q:Flow->Shared->Prop} (I:Inv X pins σ H s) (h:Rz X.K E CA (zja rx mA) σ H) :
  wpAny (model X.prog X.w) X.A (execs [.Assign [.Name y py] (.Call (.Name x p) (a :: es) [] cpos) apos] X.env) Q (λe s'=>∃H1 s1,Inv X pins σ H1 s1/\CX1 X.prog X.w X.stack H1 s1 E e s') s:=by
 obtain ⟨f,fd,ps,F,hm,hk,hb⟩:=F
 obtain ⟨ρ,l,S,C,S',sim,ro,hz,pz⟩:=h
 obtain ⟨⟨ds,S1⟩,q1,hz⟩:=bnd hz
 refine wpAny_execs_cons (wpAny_mono (Q:=λ_ _=>False) ?_ (λ_ _ z=>z.elim) λ_ _ z=>z)
 refine wpAny_Assign_stores (wpAny_mono (Q:=λ_ _=>False) ?_ (λ_ _ z=>z.elim) λ_ _ z=>z) hs hw
 refine wpAny_Call_Name_kw (zib I hg hm ?_ hdb)
 refine PySem.W.callWith_K (h₀:=X.base) I.ok.mod.kin hk (wpAny_mono (ha cpos pins s σ H (λvs H1=>spZ X.K CA n rx vs H1 (λ_ _=>False) E) I ⟨ρ,l,S,ds,S1,sim,ro,q1,λρ1 H1 vs e1 s1 r1=>⟨by rw [<-r1.length];exact hl _ _ _ _ q1,ρ1,ds,S1,C,S',s1,r1,hz,λρ2 H2 e2 s2=>pz ρ2 H2 (e1.trans e2) s2⟩⟩) (λus s1 ⟨vs,H1,I1,r,q⟩=>⟨I1.kIn,?_⟩) λ_ _ z=>(hxe _ _ z).elim) he hpl
 have r2:Vals (vs++[]) (us++[]):=by rw [List.append_nil,List.append_nil];exact r
 have hlen:(us++[]).length=ps.length:=by rw [List.append_nil,<-r.length];exact F.len _ _ _ _ q
 refine wpAny_call (codeAny_mono (F.run X.A X.stack s1 H1 ⟨us,[]⟩ (us++[]) (vs++[]) (λ_ _=>False) E (hr.mono hkj) I1.env0 (hb s1 us I1.kIn hlen) r2 (by rw [List.append_nil];exact q)) λres s' hq=>?_)
 cases res with
 | error e=>exact ⟨H1,s1,I1,hq⟩
 | ok fl =>
  cases fl with
  | ret u=>obtain ⟨_,_,_,_,_,_,_,z⟩:=hq;exact z.elim
  | next=>exact False.elim hq
  | brk=>exact False.elim hq
  | cont=>exact False.elim hq
variable {tN tS:TS}{i:Nat}{Dh:Addr}{nm hx:Str}{np hpos:Pos}{b0:Stmt}{suite:List Stmt}
theorem ycb (hstk:X.stack=X.env :: X.outer) (hfm:X.env.frame=some X.env.locals) (hex:X.ex=[]) (hgh:Gl X hx) (hmh:X.mg hx=some (.ref Dh)) (qD:excIn X.K Dh zc8 "ValueError.__new__" = true)
  (hS:∀e,PSs (mk1 X e) (b0 :: suite) tS) (hN:X.N.Nodup) (hi:X.N[i]? = some nm) (hln:X.env.scope.names.lookup nm=some .local) (hd:(hx == ("__debug__":Str))=false)
  (F:ze3 X.prog X.w X.K X.mg X.base CA x k n rx) (hxe:∀e s,X.xe e s->False) (hr:Room j X.A) (hkj:k<=j) (hg:Gl X x)
  (ha:PA3 X (a :: es) mA) (hl:∀l S v S',mA l S=some (v,S')->v.length=n) (hdb:(x == ("__debug__":Str))=false) (he:starEach (a :: es) X.env=(false,eval a X.env) :: starEach es X.env) (hpl:(backTo cpos (starEach es X.env)).any (·.1)=false)
  (hs:swapsWithSole [.Name y py] (.Call (.Name x p) (a :: es) [] cpos) apos.line X.env=pure false) (hw:swappedStores [.Name y py] (.Call (.Name x p) (a :: es) [] cpos) X.env=pure none)
  (hNorm:PSs X [.Assign [.Name y py] (.Call (.Name x p) (a :: es) [] cpos) apos] tN) :
  PS X (.Try [.Assign [.Name y py] (.Call (.Name x p) (a :: es) [] cpos) apos] [.ExceptHandler (some (.Name hx np)) (some nm) (b0 :: suite) hpos] [] [] tpos)
   (λD σ H=>tN D σ H\/Rz X.K (EH X Dh tS i D σ) CA (zja rx mA) σ H):=by
 intro pins s σ H D I h
 rcases h with h|h
 ·refine wpAny_Try_except (wpAny_mono (hNorm pins s σ H D I h) (λf s1 q=>?_) λe s1 z=>(hxe _ _ z).elim)
  cases f with
  | next=>exact wpAny_execs_nil q
  | ret v=>exact q
  | brk=>exact q
  | cont=>exact q
 ·refine wpAny_Try_except (wpAny_mono (yca (Q:=λ_ _=>False) F hxe hr hkj hg ha hl hdb he hpl hs hw I h) (λ_ _ z=>z.elim) λe s2 ⟨H1,s1,I1,cx⟩=>?_)
  exact yb8 hstk hfm hex hgh hmh qD hS hN hi hln hd I1 cx
end
theorem RO.unset {ρ:List Addr}{H:Hp}{l:Lo}{σ:L2.St}(r:RO ρ H l σ) (i:Nat):RO ρ H (l.set i none) (σ.set i none):=by
 refine ⟨by rw [List.length_set,List.length_set];exact r.len,λj d h=>?_⟩
 by_cases e:i=j
 ·subst e
  have hl:i<l.length:=by
   have:=(qme h).1
   rw [List.length_set] at this;exact this
  rw [List.getElem?_set_self hl] at h;cases h
 ·rw [List.getElem?_set_ne e] at h ⊢
  exact r.get j d h
noncomputable def zgi (i:Nat) (ok:Str->Bool) (mN:SM) (r:ZM) (mS:SM):SM:=λl S=>match mN l S with
 | some q=>some q
 | none=>match r l S with
  | some (c,S')=>if ok c=true then (mS (l.set i (some (.ref S'.length))) (S'++[.exc c])).bind λq=>(match q.1 with
   | .nx=>some (.nx,q.2.1.set i none,q.2.2)
   | _=>none) else none
  | none=>none
section
variable {X:Cx}{E:XK}{CA:Str->Addr}{a:Expr}{es:List Expr}{mA:AM}{cpos p apos py tpos:Pos}{x y:Str}{k j n:Nat}{rx:ZF}{i:Nat}{Dh:Addr}{nm hx:Str}{np hpos:Pos}{b0:Stmt}{suite:List Stmt}{mN mS:SM}{ok:Str->Bool}
theorem ycc (i:Nat) (hN:X.N.Nodup) (hxe:∀e s,X.xe e s->False) (hstk:X.stack=X.env :: X.outer) (hfm:X.env.frame=some X.env.locals) (hex:X.ex=[]) (hmh:X.mg hx=some (.ref Dh)) (qD:excIn X.K Dh zc8 "ValueError.__new__" = true)
  (hok:∀c,ok c=true->PySem.W.nsIn X.K mainGlobals c=some (some (.ref (CA c)))/\excIn X.K (CA c) zc8 "ValueError.__new__" = true/\(Value.ref (CA c) :: ze4 X.K (CA c)).contains (.ref Dh)=true)
  (hS:∀e,zcn (mk1 X e) (b0 :: suite) mS)
  (F:ze3 X.prog X.w X.K X.mg X.base CA x k n rx) (hr:Room j X.A) (hkj:k<=j) (ha:PA3 X (a :: es) mA) (hl:∀l S v S',mA l S=some (v,S')->v.length=n)
  (hNorm:zcn X [.Assign [.Name y py] (.Call (.Name x p) (a :: es) [] cpos) apos] mN)
  (hi:X.N[i]? = some nm:=by rfl) (hln:X.env.scope.names.lookup nm=some .local:=by rfl) (hgh:Gl X hx:=by rfl) (hg:Gl X x:=by rfl) (hd:(hx == ("__debug__":Str))=false:=by decide) (hdb:(x == ("__debug__":Str))=false:=by decide)
  (he:starEach (a :: es) X.env=(false,eval a X.env) :: starEach es X.env:=by rfl) (hpl:(backTo cpos (starEach es X.env)).any (·.1)=false:=by rfl)
  (hs:swapsWithSole [.Name y py] (.Call (.Name x p) (a :: es) [] cpos) apos.line X.env=pure false:=by rfl) (hw:swappedStores [.Name y py] (.Call (.Name x p) (a :: es) [] cpos) X.env=pure none:=by rfl) :
  PS3 X (.Try [.Assign [.Name y py] (.Call (.Name x p) (a :: es) [] cpos) apos] [.ExceptHandler (some (.Name hx np)) (some nm) (b0 :: suite) hpos] [] [] tpos) (zgi i ok mN (zja rx mA) mS) :=
 PS.imp (ycb (tS:=ts X.K mS) hstk hfm hex hgh hmh qD hS hN hi hln hd F hxe hr hkj hg ha hl hdb he hpl hs hw hNorm) λD σ H hx1_=>by
  obtain ⟨ρ,l,S,f,l',S',sim,ro,hm,pz⟩:=hx1_
  unfold zgi at hm
  cases e1:mN l S with
  | some q =>
   rw [e1] at hm
   cases hm
   exact .inl ⟨ρ,l,S,f,l',S',sim,ro,e1,pz⟩
  | none =>
   rw [e1] at hm
   cases e2:zja rx mA l S with
   | none=>rw [e2] at hm;cases hm
   | some q =>
    obtain ⟨c,S1⟩:=q
    rw [e2] at hm
    obtain ⟨hc,hm⟩:=zmm hm
    obtain ⟨⟨g,l2,S2⟩,q2,hm⟩:=bnd hm
    obtain ⟨k1,k2,k3⟩:=hok c hc
    refine .inr ⟨ρ,l,S,c,S1,sim,ro,e2,λρ1 H1 ex1 s1=>⟨CA c,rfl,k2,k3,λe he'=>?_⟩⟩
    have ex2:=zj6 (ρ:=ρ1) (u:=.ext (phi e (CA c))) he'
    have sim2:Sim X.K (ρ1++[e]) (S1++[.exc c]) (upd H1 e (.ext (phi e (CA c)))):=s1.pushG he' ⟨CA c,k1,zbw⟩
    have ro2:=((ro.mono ex1).mono ex2).set i (d:=.ref S1.length) (v:=.ref e) (.ref (by rw [<-s1.len];exact zd0 ρ1 e))
    cases g with
    | nx =>
     cases hm
     exact ⟨ρ1++[e],_,_,.nx,l2,S2,sim2,ro2,q2,λρ' H' σ' e' s' r'=>pz ρ' H' (σ'.set i none) (ex1.trans (ex2.trans e')) s' (RO.unset r' i)⟩
    | _=>cases hm
end
open PySem.Builtin PySem.Builtin.ObjectAttr PySem.Builtin.Getset_descriptor
theorem zrb {a C:Addr}(M:Model) (h:Heap) (p:phi a C h):Looks M h (typeOf (.ref a)) (.ref C):=by
 obtain ⟨o,h1,h2⟩:=p
 exact h2 ▸ (Looks.ld h1).andThen .now
section
variable {prog:Program}{w:World}{A:Around}{E:Value->Shared->Prop}{h:Heap}{g:Array GenState}{d:Drawn}{t:Nat}{os:OsState}{a:Addr}{o:Obj}{K:QFg}{C:Addr}
theorem ycd {tp:Value}{R:Result->Shared->Prop}{s:Shared}(X:K.In s.heap) (p:phi a C s.heap) (hm:mroIn K C (.type "object")=some true) (hq:R (.ok (.ret (.ref C))) s) :
  codeAny (model prog w) A (.call (.builtin "getset_descriptor.__get__") ⟨[.builtin "object.__class__",.ref a,tp],[]⟩) R s:=by
 obtain ⟨hh,g,dr,t,os⟩:=s
 have L0:=zrb (model prog w) hh p
 have L1:=looks_mroIn (M:=model prog w) X hm
 refine codeAny_call_builtin KF.slot_gs.plain KF.entry_gs (KF.slot_gs.check _ _ _ _ _ _ _ _ KF.type_class (KF.args_gs _ _ _) ?_)
 unfold Builtin.«getset_descriptor.__get__» descrGet
 rw [dga_obj]
 refine qwb (qwp ?_)
 unfold descrGetter descrCheckInstance descrNameAndClass isInstance
 simp only [KF.owner_class]
 repeat lk
 refine ⟨Code.quiet_builtin _ (by decide +kernel),codeAny_builtin KF.entry_class ?_⟩
 unfold Builtin.«object.__class__» shownTypeOf
 repeat lk
 exact hq
theorem yce {tk:Tok}{Q:Fin->Shared->Prop}(X:K.In h) (hx:h.get? a=some o) (hc:o.cls=.ref C) (hm:mroIn K C (.type "object")=some true) (hf:findIn K (.ref C) "__class__" = some (some (.builtin "object.__class__")))
  (hq:Q (.done (.ret (.ref C))) ⟨h,g,d,t,os⟩):wpAny (model prog w) A (Builtin.«object.__getattribute__» ⟨[.ref a,.str "__class__" tk],[]⟩) Q E ⟨h,g,d,t,os⟩:=by
 have hT5:(⟨h,g,d,t,os⟩:Shared).TypeIs (.builtin "object.__class__") "getset_descriptor":=F.typeOf_object_class
 have f5:=F.typeOf_object_class
 have f6:=F.slot_gs_get.lookup
 have f7:=F.slot_gs_set.lookup
 have L:=looks_findIn (M:=model prog w) X hf
 repeat (any_goals (first|assumption|(with_reducible refine wpAny_loadPart_at hx ?_;rw [hc])|with_reducible refine L.at ?_|wp_step))
 refine ycd (s:=⟨h,g,d,t,os⟩) X ⟨o,hx,hc⟩ hm ?_
 repeat (any_goals (first|assumption|wp_step))
theorem ycf {M:Model}{nameV:Value}{Q:Unit->Shared->Prop}{nm q:Str}{N:Addr}{bs bm:List Value}{hdct:Bool}{sn:List Str}{sub:List Value}{ab:Bool}{col:Option Bool}{dd:Option Addr}{k0 k1 k2 k3 k5:Option Value}{newId:String}
  (hC:h.get? C=some (excClassObj nm q C N bs bm hdct sn sub ab col dd k0 k1 k2 k3 k5 newId)) (T:OwnTail h zc8 bm)
  (hx:h.get? a=some o) (hc:o.cls=.ref C) (hq:Q () ⟨h,g,d,t,os⟩):wpAny M A (checkBuiltinCall "BaseException.__getattribute__" ⟨[.ref a,nameV],[]⟩) Q E ⟨h,g,d,t,os⟩:=by
 have hk:builtinKind "BaseException.__getattribute__" = some .slot:=by decide +kernel
 have hsplit:splitId "BaseException.__getattribute__" = some ("BaseException","__getattribute__"):=by decide +kernel
 have hcB:(Value.ref C :: bm).contains (.type "BaseException")=true:=by rw [List.contains_cons,T.hasType F.excBase_ValueError.hasBase];rfl
 have ha:=F.args_bexc_ga (.ref a) nameV
 simp only [checkBuiltinCall,hk,hsplit]
 refine qwb ?_
 ·unfold isInstance
  repeat (first|(with_reducible refine wpAny_loadPart_at hx ?_;rw [hc])|(with_reducible refine wpAny_isSubtype_exc hC ?_;rw [hcB])|wp_step)
  exact hq
end
structure ExcQ (K:QFg) (C:Addr):Prop where
 exc:excIn K C zc8 "ValueError.__new__" = true
 obj:mroIn K C (.type "object")=some true
 cls:findIn K (.ref C) "__class__" = some (some (.builtin "object.__class__"))
 ga:findIn K (.ref C) "__getattribute__" = some (some (.builtin "BaseException.__getattribute__"))
 gr:findIn K (.ref C) "__getattr__" = some none
 is:(clsIn K C).isSome=true
section
variable {prog:Program}{w:World}{A:Around}{E:Value->Shared->Prop}{h:Heap}{g:Array GenState}{d:Drawn}{t:Nat}{os:OsState}{a:Addr}{o:Obj}{K:QFg}{C:Addr}
theorem ycg {tk:Tok}{R:Result->Shared->Prop}(X:K.In h) (c:ExcQ K C) (hx:h.get? a=some o) (hc:o.cls=.ref C) (hq:R (.ok (.ret (.ref C))) ⟨h,g,d,t,os⟩) :
  codeAny (model prog w) A (.call (.builtin "BaseException.__getattribute__") ⟨[.ref a,.str "__class__" tk],[]⟩) R ⟨h,g,d,t,os⟩:=by
 obtain ⟨N,nm,qn,bs,hdct,sn,sub,ab,col,dd,k0,k1,k2,k3,k5,mN,hC,hN,hni,T⟩:=zks X c.exc
 exact codeAny_call_builtin F.attrBase_ValueError.ga.plain F.entry_bexc_ga (ycf hC T hx hc (yce X hx hc c.obj c.cls hq))
theorem ych {tk:Tok}{Q:Value->Shared->Prop}(X:K.In h) (c:ExcQ K C) (hx:h.get? a=some o) (hc:o.cls=.ref C) (hq:Q (.ref C) ⟨h,g,d,t,os⟩) :
  wpAny (model prog w) A (getAttrBy (.ref a) (.str "__class__" tk) false) Q E ⟨h,g,d,t,os⟩:=by
 have f3:=F.attrBase_ValueError.ga.bind (.ref a)
 have hx2:(Value.builtin "BaseException.__getattribute__" == Value.builtin "object.__getattribute__")=false:=by decide +kernel
 have hx1:(onTheHeap (Value.ref C) && Value.builtin "BaseException.__getattribute__" == Value.builtin "object.__getattribute__")=false:=by rw [hx2];rfl
 have L1:=looks_findIn (M:=model prog w) X c.ga
 have L2:=looks_findIn (M:=model prog w) X c.gr
 repeat (any_goals (first|assumption|(with_reducible refine wpAny_loadPart_at hx ?_;rw [hc])|with_reducible refine L1.at ?_|with_reducible refine L2.at ?_|wp_step))
 refine ycg X c hx hc ?_
 repeat (any_goals (first|assumption|wp_step))
theorem yci {Q:Option Value->Shared->Prop}{s:Shared}(X:K.In s.heap) (c:ExcQ K C) (p:phi a C s.heap) (hq:Q (some (.ref C)) { s with toks:=s.toks+1 }) :
  wpAny (model prog w) A (getAttr? (.ref a) "__class__") Q E s:=by
 obtain ⟨hh,g,d,t,os⟩:=s
 obtain ⟨o,hx,hc⟩:=p
 unfold getAttr? getAttrBy?
 repeat (any_goals (first|assumption|with_reducible apply ych X c hx hc|wp_step))
theorem ycj (c:ExcQ K C):KitX K (.ref a) (.ref C) (phi a C) where
 ty:=λM h _ p=>zrb M h p
 it:=λ_ _ X _=>by
  obtain ⟨cdD,hcD⟩:=Option.isSome_iff_exists.mp c.is
  unfold clsIn at hcD
  split at hcD
  ·rename_i c' d' cd' sl' ho
   intro A' Q' E' s' k q
   unfold isType loadHead
   exact qwb (wpAny_loadPart (k _ _ (X _ _ ho)) (qwp q))
  ·cases hcD
 ne:=λh tp dd its n sl X htp=>by
  obtain ⟨cdD,hcD⟩:=Option.isSome_iff_exists.mp c.is
  refine Bool.eq_false_iff.mpr λq=>?_
  have e:C=tp:=Value.ref.inj (beq_iff_eq.mp q)
  subst e
  unfold clsIn at hcD
  split at hcD
  ·rename_i c' d' cd' sl' ho
   have z:=(X _ _ ho).symm.trans htp
   cases z
  ·cases hcD
 ca:=λX p k=>yci X c p k
end
section
variable {X:Cx}{es:List Expr}{Cs:List Addr}{y:Str}{C:Addr}{p:Pos}
theorem yck (hg:Gl X y) (hm:X.mg y=some (.ref C)) (hd:(y == ("__debug__":Str))=false:=by decide):PE X (.Name y p) (tC (.ref C)):=λ_ _ _ H _ I h=>zib I hg hm ⟨.ref C,H,I,rfl,h⟩ hd
def ycl (K:QFg) (c:V) (cv:Value):List V->Hp->VK->Prop:=λxs H Q=>∃(a C:Addr) (b:Bool),xs=[.ref a,c]/\H a=some (.ext (phi a C))/\ExcQ K C/\kitOne K (.ref C) cv=some b/\Q (.bl b) H
theorem zrc {c:V}{cv:Value}(hcv:∀u,RelV c u->u=cv):CallR X (.builtin "isinstance") (ycl X.K c cv):=by
 intro pins s σ H xs us Q I r h
 obtain ⟨a,C,b,rfl,ha,hc,hk,q⟩:=h
 obtain ⟨u1,u2,rfl,r1,r2⟩:=r.two
 cases (show u1=Value.ref a from r1)
 cases hcv u2 r2
 obtain ⟨ph,_⟩:=(show ObjOk X.prog X.w H s.heap a (.ext (phi a C)) from I.hok a _ ha)
 exact kia_one (ycj hc) I.kIn ph hk (λz=>nomatch z) λtk=>⟨.bl b,H,I.tok tk,rfl,q⟩
end
noncomputable def zb9 (tab:List (Str × Bool)):D->Sto->Option (D × Sto):=λx S=>match x with
 | .ref n=>(match S[n]? with
  | some (.exc c)=>(tab.lookup c).bind λb=>some (.bl b,S)
  | _=>none)
 | _=>none
theorem zrd {K:QFg}{ρ:List Addr}{S:Sto}{H:Hp}{x v:D}{S':Sto}{x':V}{tab:List (Str × Bool)}(sim:Sim K ρ S H) (r:RD ρ H x x') (h:zb9 tab x S=some (v,S')) :
  S' = S/\∃a c C b,x' = .ref a/\tab.lookup c=some b/\v=.bl b/\nsIn K mainGlobals c=some (some (.ref C))/\H a=some (.ext (phi a C)):=by
 unfold zb9 at h
 split at h
 ·split at h
  ·rename_i n S c e
   obtain ⟨b,hb,h⟩:=bnd h
   cases h
   cases r with
   | @ref _ a hn =>
    obtain ⟨C,hc,hH⟩:=sim.at' n a _ hn e
    exact ⟨rfl,a,c,C,b,rfl,hb,rfl,hc,hH⟩
  ·cases h
 ·cases h
section
variable {X:Cx}{a:Expr}{ma:EM}{pos p tp p2:Pos}{es:List Expr}{Cs:List Addr}{x1:Nat}{tab:List (Str × Bool)}{y:Str}{D0:Addr}
theorem zre:bootBuiltins "isinstance" = some (.builtin "isinstance"):=by decide +kernel
theorem zdy (hg:Gl X "isinstance") (hm:X.mg "isinstance" = none) (ha:PE3 X a ma) (hgy:Gl X y) (hmy:X.mg y=some (.ref D0))
  (hk:∀c b C,tab.lookup c=some b->nsIn X.K mainGlobals c=some (some (.ref C))->ExcQ X.K C/\kitOne X.K (.ref C) (.ref D0)=some b) (hd:(y == ("__debug__":Str))=false:=by decide)
  (he:starEach (a :: [.Name y p2]) X.env=(false,eval a X.env) :: starEach [.Name y p2] X.env:=by rfl) (he2:starEach [.Name y p2] X.env=(false,eval (.Name y p2) X.env) :: starEach [] X.env:=by rfl) (hpl:(backTo pos (starEach [.Name y p2] X.env)).any (·.1)=false:=by rfl) :
  PE3 X (.Call (.Name "isinstance" p) [a,.Name y p2] [] pos) (eUn (zb9 tab) ma) :=
 PE.imp (zlq (zrc (c:=.ref D0) (cv:=.ref D0) λu h=>h) hg hm zre (zfa ha (zfa (yck hgy hmy hd) zg0 he2) he) (by decide) (by decide) he hpl) λσ H Q hx2_=>by
  obtain ⟨ρ,l,S,v,S',sim,ro,hq,pz⟩:=hx2_
  obtain ⟨⟨x,S1⟩,h1,hq⟩:=bnd hq
  refine ⟨ρ,l,S,x,S1,sim,ro,h1,λρ1 H1 x' e1 s1 r1=>?_⟩
  obtain ⟨rfl,a',c,C,b,rfl,hb,rfl,hc,hH⟩:=zrd s1 r1 hq
  obtain ⟨q1,q2⟩:=hk c b C hb hc
  exact ⟨a',C,b,rfl,hH,q1,q2,pz ρ1 _ _ e1 s1 (.bl b)⟩
theorem ycm {U:String}(hg:Gl X "isinstance") (hm:X.mg "isinstance" = none) (ha:PE3 X a ma) (hgy:Gl X y) (hmy:X.mg y=none) (hv:bootBuiltins y=some (.type U))
  (hk:∀c b C,tab.lookup c=some b->nsIn X.K mainGlobals c=some (some (.ref C))->ExcQ X.K C/\kitOne X.K (.ref C) (.type U)=some b) (hn:y≠"__name__":=by decide) (hdb:(y == ("__debug__":Str))=false:=by decide)
  (he:starEach (a :: [.Name y p2]) X.env=(false,eval a X.env) :: starEach [.Name y p2] X.env:=by rfl) (he2:starEach [.Name y p2] X.env=(false,eval (.Name y p2) X.env) :: starEach [] X.env:=by rfl) (hpl:(backTo pos (starEach [.Name y p2] X.env)).any (·.1)=false:=by rfl) :
  PE3 X (.Call (.Name "isinstance" p) [a,.Name y p2] [] pos) (eUn (zb9 tab) ma) :=
 PE.imp (zlq (zrc (c:=.ty U) (cv:=.type U) λu h=>h) hg hm zre (zfa ha (zfa (zvi (v:=.ty U) hgy hmy hv rfl hn hdb) zg0 he2) he) (by decide) (by decide) he hpl) λσ H Q hx3_=>by
  obtain ⟨ρ,l,S,v,S',sim,ro,hq,pz⟩:=hx3_
  obtain ⟨⟨x,S1⟩,h1,hq⟩:=bnd hq
  refine ⟨ρ,l,S,x,S1,sim,ro,h1,λρ1 H1 x' e1 s1 r1=>?_⟩
  obtain ⟨rfl,a',c,C,b,rfl,hb,rfl,hc,hH⟩:=zrd s1 r1 hq
  obtain ⟨q1,q2⟩:=hk c b C hb hc
  exact ⟨a',C,b,rfl,hH,q1,q2,pz ρ1 _ _ e1 s1 (.bl b)⟩
end
theorem zdn {K:QFg}{c0:Str}{b0:Bool}{C0:Addr}{R:Addr->Bool->Prop}(hn:nsIn K mainGlobals c0=some (some (.ref C0))) (h:R C0 b0) :
  ∀c b C,([(c0,b0)]:List (Str × Bool)).lookup c=some b->nsIn K mainGlobals c=some (some (.ref C))->R C b:=λc b C hl hc=>by
 rw [List.lookup_cons] at hl
 split at hl
 ·rename_i q
  cases hl
  have e:c=c0:=by simpa using q
  subst e
  rw [hn] at hc;cases hc
  exact h
 ·cases hl
theorem ycn {c0:Str}{R:Str->Prop}(h:R c0):∀c,(c == c0)=true->R c:=λc hc=>by
 have e:c=c0:=by simpa using hc
 rw [e];exact h
def zrf (X:Cx) (T:String) (ty:V->Hp->Prop):Prop:=∀(pins:List (Addr × Obj)) (s:Shared) (σ:St) (H:Hp) (x:V) (v:Value),Inv X pins σ H s->RelV x v->ty x H ->
 s.TypeIs v T/\∀a,v=.ref a->∃ob,s.heap.get? a=some ob/\ob.dict=none
section
variable {X:Cx}{o e:Expr}{es:List Expr}{to:TE}{t:TA}{name:Str}{apos cpos:Pos}{T id:String}{r:V->List V->Hp->VK->Prop}{ty:V->Hp->Prop}
theorem yco (tok:zrf X T ty) (pa:PlainAttrs T) (slot:Slot T name id) (hty:typeOf (.builtin id)=pure (.type "method_descriptor")) (hm:MtM X id r) (ho:PE X o to) (ha:PA X (e :: es) t)
  (hbase:attributeBase o name X.env (eval o X.env)=eval o X.env:=by rfl)
  (hfew:((backTo cpos (starEach (e :: es) X.env)).all (λx=>!x.1) && (backToKw cpos (keywordEach [] X.env)).all (λx=>x.1.isSome)
   && decide ((e :: es).length+([]:List Keyword).length+(if ([]:List Keyword).isEmpty then 0 else 1)<30))=true:=by rfl)
  (hline:(apos.endLine == cpos.line)=true:=by rfl) (hs:starEach (e :: es) X.env=(false,eval e X.env) :: starEach es X.env:=by rfl) (hplain:(backTo cpos (starEach es X.env)).any (·.1)=false:=by rfl) :
  PE X (.Call (.Attribute o name apos) (e :: es) [] cpos) (λσ H Q=>to σ H λx H1=>ty x H1/\t σ H1 λxs H2=>r x xs H2 Q):=by
 intro pins s σ H Q I h
 refine wpAny_Call_method_late hbase hfew hline rfl (thn (ho pins s σ H _ I h) λv s1 ⟨x,H1,I1,r1,ty1,q1⟩=>?_)
 obtain ⟨h1,h2⟩:=tok pins s1 σ H1 x v I1 r1 ty1
 refine ⟨T,id,pa,slot,hty,h1,h2,?_⟩
 have hA:=ha cpos pins s1 σ H1 _ I1 q1
 rw [hs] at hA ⊢
 refine Calls.callWith_builtin (by show (false || (backTo cpos (starEach es X.env)).any (·.1))=false;rw [hplain] <;> rfl) (Calls.evalArgs_plain ?_)
 exact thn hA λus s2 ⟨vs,H2,I2,r2,q2⟩=>hm pins s2 σ H2 x vs v us Q I2 r1 r2 q2
end
theorem zrg {P:Program}{w:World}:∀{ks:List Int}{us:List Value},Vals (ks.map V.int) us->ItemsAre (intKind P w) ks us
 | [],us,h=>by cases h;exact .nil
 | k :: ks,us,h=>by
  cases h with
  | cons r q=>obtain ⟨t,rfl⟩:=r;exact .cons (PySem.intKind_is P w k t) (zrg q)
theorem zfl {P:Program}{w:World}{H:Hp}{h:Heap}{a:Addr}{ks:List Int}(ok:HOk P w H h) (e:H a=some (.tup (ks.map V.int))):TS.IsK P w h ks a:=by
 obtain ⟨_,its,r,o,h1,h2,n,h3,_⟩:=(show ObjOk P w H h a (.tup (ks.map V.int)) from ok a _ e)
 exact ⟨o,its.toArray,n,h1,h2,h3,by simpa using zrg r⟩
def tyT (x:V) (H:Hp):Prop:=∃a xs,x=.ref a/\H a=some (.ext (TS.TSet a xs))
theorem zjb {X:Cx}{pins:List (Addr × Obj)}{σ:St}{H:Hp}{s:Shared}{a:Addr}{xs:List (List Int × Addr)}(I:Inv X pins σ H s) (h:H a=some (.ext (TS.TSet a xs))):TS.TSet a xs s.heap:=(I.hok a _ h).1
theorem zmu {P:Program}{w:World}{H:Hp}{h:Heap}{a:Addr}{xs:List (List Int × Addr)}(hT:TS.TSet a xs h):ObjOk P w H h a (.ext (TS.TSet a xs)) :=
 ⟨hT,let ⟨o,ho,_⟩:=hT;⟨o,ho⟩,λh1 h2 ⟨o,ho,r⟩ k=>⟨o,k o ho,r⟩⟩
theorem ycp {X:Cx}:zrf X "set" tyT:=λpins s σ H x v I r hx1_=>by
 obtain ⟨a,xs,e,hH⟩:=hx1_
 subst e
 cases r
 exact ⟨(zjb I hH).typeIs,(zjb I hH).noDict⟩
theorem zjc (φ:Heap->Prop):zdz (.ext φ):=⟨λ_ z=>(by cases z),λ_ _ z=>(by cases z)⟩
def zrh:V->List V->Hp->VK->Prop:=λx vs H Q=>∃a b k xs,x=.ref a/\vs=[.ref b]/\H a=some (.ext (TS.TSet a xs))/\(∀p∈xs,H p.2=some (.tup (p.1.map V.int)))/\H b=some (.tup (k.map V.int))/\xs.length<1000 /\
 (k∈xs.map (·.1)->Q .non H)/\(k ∉ xs.map (·.1)->Q .non (upd H a (.ext (TS.TSet a (xs++[(k,b)])))))
section
variable {X:Cx}{j:Nat}
theorem ycq (hr:Room j X.A):MtM X "set.add" zrh:=by
 intro pins s σ H x vs v us Q I rx rv h
 obtain ⟨a,b,k,xs,rfl,rfl,hH,hxs,hb,hz,q1,q2⟩:=h
 cases rx
 obtain ⟨u,rfl,ru⟩:=rv.one
 cases ru
 have hT:=zjb I hH
 have hu:X.A.in1.units<cLine:=zhi hr
 refine wpAny_call_entry F.slot_set_add hT.typeIs F.entry_set_add ?_ (F.args_set_add_2 _ _)
 unfold Builtin.«set.add» Builtin.Frozenset.oneOther;simp only [List.isEmpty_nil,bind_assoc];unfold Builtin.Frozenset.addrOf setAdd
 refine qwb (qwp ?_);try dsimp only
 refine qwb (qwp ?_);try dsimp only
 refine qwb (wpAny_holding ?_)
 refine qwb ((tupleKind (intKind X.prog X.w)).pyHash (k:=k) hu (zfl I.hok hb) ?_)
 refine TS.setAdd_t (s:={ s with toks:=s.toks+(k.length+1) }) hu hT (λp hp=>zfl I.hok (hxs p hp)) (zfl I.hok hb) hz (λhin=>?_) λhni h' sb hT'=>?_
 ·exact qwp ⟨_,rfl,.non,H,I.tok _,rfl,q1 hin⟩
 ·obtain ⟨o,ho,hto⟩:=id hT'
  refine qwp ⟨_,rfl,.non,_,I.write (x:=a) (e:=a) (o:=.ext (TS.TSet a (xs++[(k,b)]))) (t':=s.toks+(k.length+1)) (by rw [hH];exact trivial) (.inl rfl) (λb o hb e=>sb.extBut b o hb e) ⟨o,ho⟩ (zmu hT'),rfl,q2 hni⟩
end
theorem ycr {S:Sto}{n:Nat}{o:Ob}(e:S[n]? = some o):S.set n o=S:=by
 apply List.ext_getElem?
 intro i
 by_cases c:n=i
 ·subst c;rw [List.getElem?_set_self (qme e).1,e]
 ·rw [List.getElem?_set_ne c]
noncomputable def zgj:D->List D->Sto->Option (D × Sto)
 | .ref n,[.tup ds],S=>match S[n]? with
  | some (.tset ks)=>(zcx ds).bind λk=>if ks.length<1000 then some (.non,S.set n (.tset (if k∈ks then ks else ks++[k]))) else none
  | _=>none
 | _,_,_=>none
theorem ycs {K:QFg}:Mt3 K zgj zrh:=by
 intro ρ S H x x' xs vs v S' Q sim rx r h p
 unfold zgj at h
 split at h
 ·split at h
  ·rename_i ks e
   obtain ⟨k,hk,h⟩:=bnd h
   obtain ⟨hz,e2⟩:=za7 h
   cases e2
   obtain ⟨w,rfl,rw'⟩:=r.one
   cases rx with
   | @ref n a hn =>
    cases rw' with
    | @tup _ b us hb rb =>
     obtain ⟨ys,hy,hH,hys⟩:=sim.at' _ a _ hn e
     have:=zi9 hk rb
     subst this
     subst hy
     refine ⟨a,b,k,ys,rfl,rfl,hH,hys,hb,by simpa using hz,λhin=>?_,λhni=>?_⟩
     ·rw [if_pos hin,ycr e] at p
      exact p ρ H _ (Ext.refl ..) sim .non
     ·rw [if_neg hni] at p
      refine p ρ _ _ (zik hn hH (zjc _)) (sim.setG hn e rfl hH (zjc _) ?_) .non
      refine ⟨ys++[(k,b)],by simp,zbw,λq hq=>?_⟩
      refine (zea (ρ:=ρ) hH (zjc _)).tup _ _ ?_
      rcases List.mem_append.mp hq with hq|hq
      ·exact hys q hq
      ·rw [List.mem_singleton] at hq;subst hq;exact hb
  ·cases h
 ·cases h
noncomputable def zhj (S:Sto):D->Option Unit
 | .ref n=>match S[n]? with
  | some (.tset _)=>some ()
  | _=>none
 | _=>none
noncomputable def zkt (f:D->List D->Sto->Option (D × Sto)) (o:EM) (as:AM):EM:=λl S=>(o l S).bind λp=>(zhj p.2 p.1).bind λ_=>(as l p.2).bind λq=>f p.1 q.1 q.2
section
variable {X:Cx}{j:Nat}{o e:Expr}{mo m:EM}{apos cpos:Pos}
theorem yct (hr:Room j X.A) (ho:PE3 X o mo) (he:PE3 X e m)
  (hbase:attributeBase o "add" X.env (eval o X.env)=eval o X.env:=by rfl)
  (hfew:((backTo cpos (starEach [e] X.env)).all (λx=>!x.1) && (backToKw cpos (keywordEach [] X.env)).all (λx=>x.1.isSome)
   && decide ([e].length+([]:List Keyword).length+(if ([]:List Keyword).isEmpty then 0 else 1)<30))=true:=by rfl)
  (hline:(apos.endLine == cpos.line)=true:=by rfl) (hs:starEach [e] X.env=(false,eval e X.env) :: starEach [] X.env:=by rfl) :
  PE3 X (.Call (.Attribute o "add" apos) [e] [] cpos) (zkt zgj mo (zab m zae)) :=
 PE.imp (yco ycp PySem.F.plainAttrs_set PySem.F.slot_set_add PySem.F.type_set_add (ycq hr) ho (zad he zag hs) hbase hfew hline hs rfl) λσ H Q hx2_=>by
  obtain ⟨ρ,l,S,v,S',sim,ro,hq,p⟩:=hx2_
  obtain ⟨⟨x,S1⟩,h1,hq⟩:=bnd hq
  obtain ⟨_,h2,hq⟩:=bnd hq
  obtain ⟨⟨ys,S2⟩,h4,hq⟩:=bnd hq
  refine ⟨ρ,l,S,x,S1,sim,ro,h1,λρ1 H1 x' e1 s1 r1=>⟨?_,ρ1,l,S1,ys,S2,s1,ro.mono e1,h4,λρ2 H2 vs e2 s2 r2=>ycs ρ2 S2 H2 x x' ys vs v S' Q s2 (r1.mono e2) r2 hq (p.ext (e1.trans e2))⟩⟩
  unfold zhj at h2
  dsimp only at h2
  split at h2
  ·split at h2
   ·rename_i ks e
    cases r1 with
    | @ref n a hn =>
     obtain ⟨ys,_,hH,_⟩:=s1.at' _ a _ hn e
     exact ⟨a,ys,rfl,hH⟩
   ·cases h2
  ·cases h2
def zri (neg:Bool):R2:=λx y H Q=>∃b k a xs,x=.ref b/\y=.ref a/\H b=some (.tup (k.map V.int))/\H a=some (.ext (TS.TSet a xs))/\(∀p∈xs,H p.2=some (.tup (p.1.map V.int)))/\Q (.bl (if neg then !decide (k∈xs.map (·.1)) else decide (k∈xs.map (·.1)))) H
theorem ycu {pins:List (Addr × Obj)}{s:Shared}{σ:St}{H:Hp}{a b:Addr}{k:List Int}{xs:List (List Int × Addr)}{E:Value->Shared->Prop}{Q:Bool->Shared->Prop}(hr:Room j X.A) (I:Inv X pins σ H s) (hb:H b=some (.tup (k.map V.int))) (hH:H a=some (.ext (TS.TSet a xs))) (hxs:∀p∈xs,H p.2=some (.tup (p.1.map V.int)))
  (q:∀t',Q (decide (k∈xs.map (·.1))) { s with toks:=t' }):wpAny (model X.prog X.w) X.A (contains (.ref a) (.ref b)) Q E s:=by
 have hT:=zjb I hH
 have hu:X.A.in1.units<cLine:=zhi hr
 unfold contains
 try with_reducible refine wpAny_holding ?_
 refine qwb (wpAny_specialOf hT.typeIs F.slot_set_contains.lookup ?_)
 show wpAny _ _ (if (some (Value.builtin "set.__contains__") == some Value.none)=true then _ else _) _ E s
 rw [if_neg (by rw [beq_builtin_none];exact Bool.false_ne_true)]
 refine qwb (wpAny_callSpecialUnlessNone?_slot (name:=Str.ofString "__contains__") hT.typeIs F.slot_set_contains (wpAny_call_entry F.slot_set_contains hT.typeIs entry_set_contains ?_ (F.args_set_contains_2 _ _)))
 unfold Builtin.«frozenset.__contains__» Builtin.Frozenset.oneOther;simp only [List.isEmpty_nil,bind_assoc];unfold Builtin.Frozenset.addrOf Builtin.Frozenset.withSetAsKey setContains
 refine qwb (qwp ?_);try dsimp only
 refine qwb (qwp ?_);try dsimp only
 refine qwb (wpAny_tryCatch (wpAny_holding ?_))
 refine qwb ((tupleKind (intKind X.prog X.w)).pyHash (k:=k) hu (zfl I.hok hb) ?_)
 refine qwb (TS.setFind_t (s:={ s with toks:=s.toks+(k.length+1) }) hu hT (λp hp=>zfl I.hok (hxs p hp)) (zfl I.hok hb) λr hr'=>?_)
 refine qwp ?_
 show wpAny _ _ (ret (Value.bool r.isSome)) _ _ _
 rw [hr']
 exact qwp ⟨_,rfl,wpAny_truthy_bool (q _)⟩
theorem ycv (hr:Room j X.A):OpR X (compareOp .NotIn) (zri true):=by
 intro pins s σ H x y v u Q I rx ry h
 obtain ⟨b,k,a,xs,rfl,rfl,hb,hH,hxs,q⟩:=h
 cases rx;cases ry
 show wpAny _ _ (do return Value.bool (!(<-contains (Value.ref a) (Value.ref b)))) _ _ s
 exact qwb (ycu hr I hb hH hxs λt'=>qwp ⟨.bl _,H,I.tok _,rfl,q⟩)
noncomputable def zgk (neg:Bool):D->D->Sto->Option (D × Sto)
 | .tup ds,.ref n,S=>match S[n]? with
  | some (.tset ks)=>(zcx ds).bind λk=>some (.bl (if neg then !decide (k∈ks) else decide (k∈ks)),S)
  | _=>none
 | _,_,_=>none
theorem ycw {K:QFg}{neg:Bool}:Op3 K (zgk neg) (zri neg):=by
 intro ρ S H x y x' y' v S' Q sim rx ry h p
 unfold zgk at h
 split at h
 ·split at h
  ·rename_i ks e
   obtain ⟨k,hk,h⟩:=bnd h
   cases h
   cases ry with
   | @ref n a hn =>
    cases rx with
    | @tup _ b us hb rb =>
     obtain ⟨ys,hy,hH,hys⟩:=sim.at' _ a _ hn e
     have:=zi9 hk rb
     subst this
     subst hy
     exact ⟨b,k,a,ys,rfl,rfl,hb,hH,hys,p ρ H _ (Ext.refl ..) sim (.bl _)⟩
  ·cases h
 ·cases h
variable {a b:Expr}{ma mb:EM}{pos:Pos}
theorem ycx (hr:Room j X.A) (ha:PE3 X a ma) (hb:PE3 X b mb) (hm:behindInMarks .NotIn b=false:=by rfl):PT3 X (.Compare a [.NotIn] [b] pos) (tE (eOp (zgk true) ma mb)):=zc1 (ycv hr) ycw ha hb hm
theorem ycy (h:Heap) (led:Bool):TS.TSet h.objs.size [] (h.push { cls:=.type "set",dict:=none,data:=.set #[] 0 (.fresh 0 0 led) }) :=
 ⟨_,Heap.get?_push_size _ rfl,⟨rfl,rfl,rfl⟩,#[],0,_,rfl,⟨rfl,rfl,⟨3,rfl,by decide⟩,λi j _ h2=>absurd h2 (Nat.not_lt_zero _),λj hx3_=>by obtain ⟨i,hi⟩:=hx3_;simp [SetTable.fresh] at hi,by show 0*5<7*3;decide,by show 7<8192;decide,λi h v hi=>by simp at hi⟩,⟨λe he=>by simp at he,λp hp=>by simp at hp,rfl⟩⟩
theorem ycz {q:Str}{t:TE}(hr:Room j X.A) (hcd:PySem.W.codeIn X.K X.env.code q=true) (he:PE X e t) (hroad:displayRoad 0 [e]=.oneByOne:=by rfl) (hstar:starEach [e] X.env=[(false,eval e X.env)]:=by rfl) :
  PE X (.Set [e] 0 pos) (λσ H Q=>∀a,H a=none->t σ (upd H a (.ext (TS.TSet a []))) λx H1=>∃b k,x=.ref b/\H1 b=some (.tup (k.map V.int))/\H1 a=some (.ext (TS.TSet a []))/\Q (.ref a) (upd H1 a (.ext (TS.TSet a [(k,b)])))):=by
 intro pins s σ H Q I h
 rw [arm_eval_Set]
 refine qwb (wpAny_standAt (qwb (zqu (PySem.W.codeRec_of I.kIn hcd) λbb=>?_)))
 rw [hroad,hstar]
 have hu:X.A.units<cLine:=Nat.lt_of_succ_lt (zhi hr)
 unfold setDisplay
 show wpAny _ _ (newSet (.type "set") >>= _) _ _ s
 unfold newSet setsByText
 refine qwb (qwb (qwb (wpAny_askSetting (qwp ?_))))
 dsimp only
 simp only [newObj]
 refine qwb (wpAny_alloc (qwp ?_))
 have hD:H s.heap.objs.size=none:=I.hok.fresh (qlr _)
 dsimp only
 generalize (!(_:Bool))=led
 have hT0:=ycy s.heap led
 have I1:Inv X pins σ (upd H s.heap.objs.size (.ext (TS.TSet s.heap.objs.size []))) { s with heap:=s.heap.push { cls:=.type "set",dict:=none,data:=.set #[] 0 (.fresh 0 0 led) } }:=I.laid (t':=s.toks) (λb o e=>qps _ e) (qlr _) (zmu hT0)
 refine qwb (wpAny_holding ?_)
 show wpAny _ _ (evalAll [_] >>= _) _ _ _
 refine qwb ?_
 show wpAny _ _ ((do let v <-eval e X.env;standAt pos;pure v) >>= _) _ _ _
 refine qwb (qwb (thn (he pins _ σ _ _ I1 (h _ hD)) λv s2 hq2=>?_))
 obtain ⟨x,H2,I2,r2,b,k,ex,hb,hH2,q2⟩:=hq2
 subst ex
 cases r2
 refine qwb (wpAny_standAt (qwp ?_))
 refine qwb (wpAny_holding (qwp (qwp ?_)))
 refine qwb (wpAny_holding ?_)
 simp only [List.forIn_cons,List.forIn_nil,bind_assoc,pure_bind]
 refine qwb ?_
 unfold setAdd
 refine wpAny_holding (qwb ((tupleKind (intKind X.prog X.w)).pyHash (k:=k) hu (zfl I2.hok hb) ?_))
 have hT2:TS.TSet s.heap.objs.size [] s2.heap:=zjb I2 hH2
 refine TS.setAdd_t (s:={ s2 with toks:=s2.toks+(k.length+1) }) hu hT2 (λp hp=>by simp at hp) (zfl I2.hok hb) (by decide) (λhin=>by simp at hin) λhni h' sb hT'=>?_
 obtain ⟨o,ho,hto⟩:=id hT'
 have I3:Inv X pins σ (upd H2 s.heap.objs.size (.ext (TS.TSet s.heap.objs.size [(k,b)]))) { s2 with heap:=h',toks:=s2.toks+(k.length+1) }:=I2.write (x:=s.heap.objs.size) (e:=s.heap.objs.size) (o:=.ext (TS.TSet s.heap.objs.size [(k,b)])) (t':=s2.toks+(k.length+1)) (by rw [hH2];exact trivial) (.inl rfl) (λb o hb e=>sb.extBut b o hb e) ⟨o,ho⟩ (zmu hT')
 refine qwp (qwp ?_)
 exact qwp ⟨.ref s.heap.objs.size,_,I3,rfl,q2⟩
noncomputable def zjd (m:EM):EM:=λl S=>(m l (S++[.tset []])).bind λp=>match p.1 with
 | .tup ds=>(zcx ds).bind λk=>match p.2[S.length]? with
  | some (.tset [])=>some (.ref S.length,p.2.set S.length (.tset [k]))
  | _=>none
 | _=>none
theorem yc0 {q:Str}{m:EM}(hr:Room j X.A) (hcd:PySem.W.codeIn X.K X.env.code q=true) (he:PE3 X e m) (hroad:displayRoad 0 [e]=.oneByOne:=by rfl) (hstar:starEach [e] X.env=[(false,eval e X.env)]:=by rfl) :
  PE3 X (.Set [e] 0 pos) (zjd m):=PE.imp (ycz hr hcd he hroad hstar) λσ H Q hx4_=>by
 obtain ⟨ρ,l,S,v,S',sim,ro,hm,p⟩:=hx4_
 obtain ⟨⟨x,S1⟩,q1,hm⟩:=bnd hm
 intro a ha
 have sim1:Sim X.K (ρ++[a]) (S++[.tset []]) (upd H a (.ext (TS.TSet a []))):=sim.pushG ha ⟨[],rfl,zbw,λp hp=>by simp at hp⟩
 have ex:=zj6 (ρ:=ρ) (u:=.ext (TS.TSet a [])) ha
 refine ⟨ρ++[a],l,S++[.tset []],x,S1,sim1,ro.mono ex,q1,λρ1 H1 x' e1 s1 r1=>?_⟩
 dsimp only at hm
 split at hm
 ·rename_i ds
  obtain ⟨k,hk,hm⟩:=bnd hm
  split at hm
  ·rename_i hS
   cases hm
   have hn:(ρ++[a])[S.length]? = some a:=by rw [<-sim.len];exact zd0 ρ a
   have hn1:=e1.pre _ _ hn
   cases r1 with
   | @tup _ b us hb rb =>
    have:=zi9 hk rb
    subst this
    obtain ⟨ys,hy,hH,hys⟩:=s1.at' _ a _ hn1 hS
    have hy0:ys=[]:=by cases ys with|nil=>rfl|cons y ys=>simp at hy
    subst hy0
    refine ⟨b,k,rfl,hb,hH,?_⟩
    have ex2:=zik (o:=.ext (TS.TSet a [(k,b)])) hn1 hH (zjc _)
    refine p ρ1 _ _ (ex.trans (e1.trans ex2)) (s1.setG hn1 hS rfl hH (zjc _) ⟨[(k,b)],rfl,zbw,λq hq=>?_⟩) (.ref hn1)
    rw [List.mem_singleton] at hq;subst hq
    exact ex2.tup _ _ hb
  ·cases hm
 ·cases hm
end
noncomputable def zje:List D->Option (List Key)
 | []=>some []
 | x :: r=>(zhh x).bind λk=>(zje r).bind λks=>some (k :: ks)
noncomputable def zku:D->Option (List Key)
 | .tup xs=>zje xs
 | _=>none
theorem zrj {ρ:List Addr}{H:Hp}:∀{xs:List D}{ks:List Key}{vs:List V},zje xs=some ks->RDs ρ H xs vs->vs=ks.map kV
 | [],ks,vs,h,r=>by cases h;cases r;rfl
 | x :: xs,ks,vs,h,r=>by
  cases r with
  | cons r1 r2 =>
   obtain ⟨k,h1,h⟩:=bnd (show (zhh x).bind (λk=>(zje xs).bind λks=>some (k :: ks))=some ks from h)
   obtain ⟨ks',h2,h⟩:=bnd h
   cases h
   rw [zrj h2 r2,zkr h1 r1];rfl
theorem zmv {ρ:List Addr}{H:Hp}{d:D}{v:V}{k:List Key}(h:zku d=some k) (r:RD ρ H d v):∃b,v=.ref b/\H b=some (.tup (k.map kV)):=by
 cases r with
 | @tup xs b vs hb rs =>
  have:=zrj (show zje xs=some k from h) rs
  subst this
  exact ⟨b,rfl,hb⟩
 | _=>cases h
noncomputable def ze5 (kvs:List (List Key × D)) (k:List Key):Option D:=(kvs.find? λkv=>decide (kv.1=k)).map (·.2)
noncomputable def zkv (kvs:List (List Key × D)) (k:List Key) (v:D):List (List Key × D):=if (kvs.any λkv=>decide (kv.1=k))=true then kvs.map (λkv=>if kv.1=k then (kv.1,v) else kv) else kvs++[(k,v)]
section
variable {K:QFg}{ρ:List Addr}{H:Hp}{S:Sto}
theorem zmw {k:List Key}:∀{kvs:List (List Key × D)}{vs:List V},RDs ρ H (kvs.map (·.2)) vs->(ze5 kvs k=none->zca ((kvs.map (·.1)).zip vs) k=none)/\∀d,ze5 kvs k=some d->∃v,zca ((kvs.map (·.1)).zip vs) k=some v/\RD ρ H d v
 | [],vs,r=>by
  cases r
  exact ⟨λ_=>rfl,λd h=>by cases h⟩
 | (k',d') :: kvs,vs,r=>by
  cases r with
  | @cons _ v _ vs r1 r2 =>
   by_cases e:k' = k
   ·have e1:ze5 ((k',d') :: kvs) k=some d':=by simp [ze5,e]
    have e2:zca ((((k',d') :: kvs).map (·.1)).zip (v :: vs)) k=some v:=zih (p:=(k',v)) e
    rw [e1,e2]
    exact ⟨λz=>(by cases z),λd h=>(by cases h;exact ⟨v,rfl,r1⟩)⟩
   ·have e1:ze5 ((k',d') :: kvs) k=ze5 kvs k:=by simp [ze5,e]
    have e2:zca ((((k',d') :: kvs).map (·.1)).zip (v :: vs)) k=zca ((kvs.map (·.1)).zip vs) k:=zii (p:=(k',v)) e
    rw [e1,e2]
    exact zmw r2
theorem zrk (k:List Key):∀{kvs:List (List Key × D)}{vs:List V},RDs ρ H (kvs.map (·.2)) vs->(((kvs.map (·.1)).zip vs).any λkv=>decide (kv.1=k))=kvs.any λkv=>decide (kv.1=k)
 | [],vs,r=>by cases r;rfl
 | (k',d') :: kvs,vs,r=>by
  cases r with
  | @cons _ v _ vs r1 r2 =>
   show (decide (k' = k) || (((kvs.map (·.1)).zip vs).any λkv=>decide (kv.1=k)))=(decide (k' = k) || _)
   rw [zrk k r2]
theorem yc1 {k:List Key}{d:D}{v:V}(rv:RD ρ H d v) {kvs:List (List Key × D)}{vs:List V}(r:RDs ρ H (kvs.map (·.2)) vs):∃ws,zce ((kvs.map (·.1)).zip vs) k v=((zkv kvs k d).map (·.1)).zip ws/\RDs ρ H ((zkv kvs k d).map (·.2)) ws:=by
 unfold zce zkv
 rw [zrk k r]
 by_cases e:(kvs.any λkv=>decide (kv.1=k))=true
 ·rw [if_pos e,if_pos e]
  clear e
  induction kvs generalizing vs with
  | nil=>cases r;exact ⟨[],rfl,.nil⟩
  | cons p kvs ih =>
   obtain ⟨k',d'⟩:=p
   cases r with
   | @cons _ u _ us r1 r2 =>
    obtain ⟨ws,h1,h2⟩:=ih r2
    by_cases e:k' = k
    ·refine ⟨v :: ws,?_,?_⟩
     ·simp only [List.map_cons,List.zip_cons_cons,if_pos e];rw [<-h1]
     ·simp only [List.map_cons,if_pos e];exact .cons rv h2
    ·refine ⟨u :: ws,?_,?_⟩
     ·simp only [List.map_cons,List.zip_cons_cons,if_neg e];rw [<-h1]
     ·simp only [List.map_cons,if_neg e];exact .cons r1 h2
 ·rw [if_neg e,if_neg e]
  refine ⟨vs++[v],?_,?_⟩
  ·rw [List.map_append,List.zip_append (by rw [qlm];have:=r.length;rw [qlm] at this;exact this)];rfl
  ·rw [List.map_append];exact r.append (.cons rv .nil)
end
noncomputable def dRd (S:Sto):D->D->Option (Option D)
 | .ref n,y=>match S[n]? with
  | some (.dct kvs)=>(zhh y).bind λk=>some (zcw kvs k)
  | some (.fdct kvs)=>(zhh y).bind λk=>some (zcw kvs k)
  | some (.tdct kvs)=>(zku y).bind λk=>some (ze5 kvs k)
  | some (.ftdct kvs)=>(zku y).bind λk=>some (ze5 kvs k)
  | _=>none
 | _,_=>none
def Ro1 (ρ:List Addr) (H:Hp) (o:Option D) (o':Option V):Prop:=(o=none->o' = none)/\∀d,o=some d->∃v,o' = some v/\RD ρ H d v
theorem Ro1.isSome {ρ:List Addr}{H:Hp}{o:Option D}{o':Option V}(r:Ro1 ρ H o o'):o'.isSome=o.isSome:=by
 cases o with
 | none=>rw [r.1 rfl];rfl
 | some d=>obtain ⟨v,e,_⟩:=r.2 d rfl;rw [e];rfl
theorem Sim.dRd {K:QFg}{ρ:List Addr}{H:Hp}{S:Sto}{x y:D}{x' y':V}{o:Option D}(s:Sim K ρ S H) (rx:RD ρ H x x') (ry:RD ρ H y y') (h:L3.dRd S x y=some o):∃a o',x' = .ref a/\zfd H a y' o'/\Ro1 ρ H o o':=by
 unfold L3.dRd at h
 split at h
 ·cases rx with
  | @ref n a hn =>
   split at h
   ·rename_i e
    obtain ⟨k,hk,h⟩:=bnd h
    cases h
    obtain ⟨vs,hH,r⟩:=s.at' _ a _ hn e
    have ey:=zkr hk ry
    subst ey
    exact ⟨a,_,rfl,.inl ⟨_,k,.inl hH,rfl,rfl⟩,zmo r⟩
   ·rename_i e
    obtain ⟨k,hk,h⟩:=bnd h
    cases h
    obtain ⟨ob,vs,hH,r⟩:=s.at' _ a _ hn e
    have ey:=zkr hk ry
    subst ey
    exact ⟨a,_,rfl,.inl ⟨_,k,.inr ⟨ob,hH⟩,rfl,rfl⟩,zmo r⟩
   ·rename_i e
    obtain ⟨k,hk,h⟩:=bnd h
    cases h
    obtain ⟨vs,hH,r⟩:=s.at' _ a _ hn e
    obtain ⟨b,rfl,hb⟩:=zmv hk ry
    exact ⟨a,_,rfl,.inr ⟨_,k,b,.inl hH,rfl,hb,rfl⟩,zmw r⟩
   ·rename_i e
    obtain ⟨k,hk,h⟩:=bnd h
    cases h
    obtain ⟨ob,vs,hH,r⟩:=s.at' _ a _ hn e
    obtain ⟨b,rfl,hb⟩:=zmv hk ry
    exact ⟨a,_,rfl,.inr ⟨_,k,b,.inr ⟨ob,hH⟩,rfl,hb,rfl⟩,zmw r⟩
   ·cases h
 ·cases h
noncomputable def zhk:D->D->Sto->Option (D × Sto):=λx y S=>(dRd S x y).bind λo=>o.bind λv=>some (v,S)
theorem yc2 {K:QFg}:Op3 K zhk ybn:=by
 intro ρ S H x y x' y' v S' Q sim rx ry h p
 obtain ⟨o,h1,h⟩:=bnd h
 obtain ⟨w,h2,h⟩:=bnd h
 cases h
 obtain ⟨a,o',rfl,g,r⟩:=sim.dRd rx ry h1
 obtain ⟨u,e,ru⟩:=r.2 _ h2
 subst e
 exact ⟨a,u,rfl,g,p ρ H u (Ext.refl ..) sim ru⟩
noncomputable def zjf (neg:Bool):D->D->Sto->Option (D × Sto):=λy x S=>(dRd S x y).bind λo=>some (.bl (if neg then !o.isSome else o.isSome),S)
theorem yc3 {K:QFg}{neg:Bool}:Op3 K (zjf neg) (λy x H Q=>∃a o,x=.ref a/\zfd H a y o/\Q (.bl (if neg then !o.isSome else o.isSome)) H):=by
 intro ρ S H y x y' x' v S' Q sim ry rx h p
 obtain ⟨o,h1,h⟩:=bnd h
 cases h
 obtain ⟨a,o',rfl,g,r⟩:=sim.dRd rx ry h1
 refine ⟨a,o',rfl,g,?_⟩
 rw [r.isSome]
 exact p ρ H _ (Ext.refl ..) sim (.bl _)
section
variable {X:Cx}{a b e f o i value:Expr}{ma mb me mf mo mi mv:EM}{pos pos' apos cpos:Pos}{k:Nat}
theorem zrl (hr:Room k X.A) (ha:PE3 X a ma) (hb:PE3 X b mb) (hs:zlv b:=by intro _ _;rfl):PE3 X (.Subscript a b pos) (eOp zhk ma mb):=PE.imp (zyr (zhi hr) ha hb hs) (ziq yc2)
theorem yc4 (hr:Room k X.A) (ha:PE3 X a ma) (hb:PE3 X b mb) (hm:behindInMarks .NotIn b=false:=by rfl):PT3 X (.Compare a [.NotIn] [b] pos) (tE (eOp (zjf true) ma mb)):=zc1 (ybo hr) (yc3 (neg:=true)) ha hb hm
end
section
variable {X:Cx}{pos:Pos}
end
theorem zrm (kvs:List (List Key × V)):zdz (.dT kvs):=⟨λ_ z=>(by cases z),λ_ _ z=>(by cases z)⟩
noncomputable def zfm:D->D->D->Sto->Option Sto
 | .ref n,y,v,S=>match S[n]? with
  | some (.dct kvs)=>(zhh y).bind λk=>if kvs.length<sizeLine then some (S.set n (.dct (zfk kvs k v))) else none
  | some (.tdct kvs)=>(zku y).bind λk=>if kvs.length<sizeLine then some (S.set n (.tdct (zkv kvs k v))) else none
  | _=>none
 | _,_,_,_=>none
theorem yc5 {ρ:List Addr}{H:Hp}{kvs:List (List Key × D)}{vs:List V}(r:RDs ρ H (kvs.map (·.2)) vs):((kvs.map (·.1)).zip vs).length=kvs.length:=by
 rw [List.length_zip,qlm];have:=r.length;rw [qlm] at this;omega
theorem yc6 {K:QFg}{ρ:List Addr}{S S':Sto}{H:Hp}{x y d:D}{x' y' v':V}(s:Sim K ρ S H) (rx:RD ρ H x x') (ry:RD ρ H y y') (rd:RD ρ H d v') (h:zfm x y d S=some S'):∃a H',x' = .ref a/\DPut H a y' v' H'/\Ext ρ H ρ H'/\Sim K ρ S' H':=by
 unfold zfm at h
 split at h
 ·cases rx with
  | @ref n a hn =>
   split at h
   ·rename_i kvs e
    obtain ⟨k,hk,h⟩:=bnd h
    obtain ⟨hz,e2⟩:=za7 h
    cases e2
    obtain ⟨vs,hH,r⟩:=s.at' _ a _ hn e
    have ey:=zkr hk ry
    subst ey
    obtain ⟨ws,hw1,hw2⟩:=kv_put (k:=k) rd r
    have ex:=zik (o:=.dK (zce ((kvs.map (·.1)).zip vs) k v')) hn hH (zi6 _)
    refine ⟨a,_,rfl,DPut.k hH (by rw [ybx r];exact hz),ex,s.setG hn e rfl hH (zi6 _) ⟨ws,by rw [zbw,hw1],hw2.mono ex⟩⟩
   ·rename_i kvs e
    obtain ⟨k,hk,h⟩:=bnd h
    obtain ⟨hz,e2⟩:=za7 h
    cases e2
    obtain ⟨vs,hH,r⟩:=s.at' _ a _ hn e
    obtain ⟨b,rfl,hb⟩:=zmv hk ry
    obtain ⟨ws,hw1,hw2⟩:=yc1 (k:=k) rd r
    have ex:=zik (o:=.dT (zce ((kvs.map (·.1)).zip vs) k v')) hn hH (zrm _)
    refine ⟨a,_,rfl,DPut.t hH hb (by rw [yc5 r];exact hz),ex,s.setG hn e rfl hH (zrm _) ⟨ws,by rw [zbw,hw1],hw2.mono ex⟩⟩
   ·cases h
 ·cases h
noncomputable def zkw (o i:EM):GM:=λv l S=>(o l S).bind λp=>(i l p.2).bind λq=>(zfm p.1 q.1 v q.2).bind λS'=>some (l,S')
section
variable {X:Cx}{o i value:Expr}{mo mi mv:EM}{pos pos':Pos}{k:Nat}
theorem yc7 (hr:Room k X.A) (ho:PE3 X o mo) (hi:PE3 X i mi) (hv:PE3 X value mv) (hs:swapsWith value (some (.Subscript o i pos')) pos.line X.env=pure false:=by rfl) :
  PS3 X (.Assign [.Subscript o i pos'] value pos) (zam mv (zkw mo mi)):=PS.imp (zys (zhi hr) ho hi hv hs) λE σ H hx4_=>by
 obtain ⟨ρ,l,S,f,l',S',sim,ro,hm,p⟩:=hx4_
 obtain ⟨⟨d,S1⟩,h1,hm⟩:=bnd hm
 obtain ⟨⟨l2,S2⟩,h2,hm⟩:=bnd hm
 obtain ⟨⟨x,S3⟩,h3,h2⟩:=bnd h2
 obtain ⟨⟨y,S4⟩,h4,h2⟩:=bnd h2
 obtain ⟨S5,h5,h2⟩:=bnd h2
 cases h2;cases hm
 refine ⟨ρ,l,S,d,S1,sim,ro,h1,λρ1 H1 v' e1 s1 r1=>⟨ρ1,l,S1,x,S3,s1,ro.mono e1,h3,λρ2 H2 x' e2 s2 r2=>⟨ρ2,l,S3,y,S4,s2,(ro.mono e1).mono e2,h4,λρ3 H3 y' e3 s3 r3=>?_⟩⟩⟩
 obtain ⟨a,H4,rfl,pu,ex,s4⟩:=yc6 s3 (r2.mono e3) r3 (r1.mono (e2.trans e3)) h5
 exact ⟨a,H4,rfl,pu,p ρ3 _ σ ((e1.trans (e2.trans e3)).trans ex) s4 ((((ro.mono e1).mono e2).mono e3).mono ex)⟩
end
def Fnc (K:QFg) (mg:Str->Option Value) (x:Str):Prop:=∃f o,PySem.W.nsIn K mainGlobals x=some (some (.ref f))/\K.lookup f=some o/\mg x=some (.ref f)
noncomputable def zmx (x:Str):EM:=λ_ S=>some (.ref S.length,S++[.fnc x])
section
variable {K:QFg}{ρ:List Addr}{H:Hp}{S:Sto}
theorem yc8 {a:Addr}(ha:H a=none):Ext ρ H (ρ++[a]) H :=
 ⟨ext0_push,λb vs h n=>⟨h,λi hi=>by
  rcases za8 hi with hi|⟨_,z⟩
  ·exact n i hi
  ·rw [z,ha] at h;cases h⟩⟩
theorem Sim.fnc {a:Addr}{x:Str}(s:Sim K ρ S H) (h1:PySem.W.nsIn K mainGlobals x=some (some (.ref a))) (h2:∃o,K.lookup a=some o):Sim K (ρ++[a]) (S++[.fnc x]) H:=by
 refine ⟨by simp [s.len],λi j b x1 x2 g1 g2 g3 g4 m1 m2=>?_,λn b o g1 g2=>?_⟩
 ·rcases za8 g3 with g3|⟨e3,f3⟩
  ·rcases za8 g4 with g4|⟨e4,f4⟩
   ·have l1:=(qme g3).1
    have l2:=(qme g4).1
    have l:=s.len
    rcases za8 g1 with g1|⟨q1,_⟩
    ·rcases za8 g2 with g2|⟨q2,_⟩
     ·exact s.nd i j b _ _ g1 g2 g3 g4 m1 m2
     ·omega
    ·omega
   ·subst f4;cases m2
  ·subst f3;cases m1
 ·rcases za8 g1 with g1|⟨e1,f1⟩
  ·rcases za8 g2 with g2|⟨e2,f2⟩
   ·exact (s.at' n b o g1 g2).more ext0_push
   ·have:=(qme g1).1;have:=s.len;omega
  ·subst f1
   rcases za8 g2 with g2|⟨e2,f2⟩
   ·have:=(qme g2).1;have:=s.len;omega
   ·subst f2
    exact ⟨h1,h2⟩
end
section
variable {X:Cx}{x y:Str}{pos p:Pos}{a:Expr}{es:List Expr}
theorem yc9 {f:Addr}{o:Obj}(hg:Gl X x) (hm:X.mg x=some (.ref f)) (hk:X.K.lookup f=some o) (hd:(x == ("__debug__":Str))=false:=by decide):PE X (.Name x pos) (λ_ H Q=>H f=none->Q (.ref f) H) :=
 λ_ _ _ H _ I h=>zib I hg hm ⟨.ref f,H,I,rfl,h (I.bs f o (I.ok.mod.kin f o hk)).2⟩ hd
theorem yda (F:Fnc X.K X.mg x) (hg:Gl X x) (hd:(x == ("__debug__":Str))=false:=by decide):PE3 X (.Name x pos) (zmx x):=by
 obtain ⟨f,o,h1,h2,h3⟩:=F
 refine PE.imp (yc9 hg h3 h2 hd) λσ H Q ⟨ρ,l,S,v,S',sim,ro,hm,p⟩=>?_
 cases hm
 intro hf
 exact p (ρ++[f]) H _ (yc8 hf) (sim.fnc h1 ⟨o,h2⟩) (.ref (by rw [<-sim.len];exact zd0 ρ f))
theorem ydb {tv:TE}{t:TA}{j:Nat}(hr:Room j X.A) (hv:PE X (.Name y p) tv) (ha:PA X (a :: es) t) (he:starEach (a :: es) X.env=(false,eval a X.env) :: starEach es X.env:=by rfl) (hpl:(backTo pos (starEach es X.env)).any (·.1)=false:=by rfl) :
  PE X (.Call (.Name y p) (a :: es) [] pos) (λσ H Q=>tv σ H λx H1=>∃f fd ps sp k,x=.ref f/\FnOk X.prog X.w X.K X.mg X.base CX0 k f fd ps sp/\k<=j/\PySem.W.keepIn X.K (.ref f)=true/\Binds X.K fd ps []/\zos sp [] E0 t σ H1 Q):=by
 intro pins s σ H Q I h
 refine wpAny_Call_Name_kw (thn (hv pins s σ H _ I h) λu s0 ⟨x,H0,I0,rx,f,fd,ps,sp,k,ex,F,hkj,hk,hb,q0⟩=>?_)
 subst ex
 cases rx
 refine PySem.W.callWith_K (h₀:=X.base) I.ok.mod.kin hk (thn (ha pos pins s0 σ H0 _ I0 q0) λus s1 ⟨vs,H1,I1,r,q⟩=>⟨I1.kIn,?_⟩) he hpl
 exact zot F (hr.mono hkj) hb .nil zpj I1 r q
noncomputable def zhl (S:Sto):D->Option Str
 | .ref n=>match S[n]? with
  | some (.fnc x)=>some x
  | _=>none
 | _=>none
noncomputable def zkx (tab:List (Str × FM)) (e:EM) (as:AM):EM:=λl S=>(e l S).bind λp=>(zhl p.2 p.1).bind λx=>(tab.lookup x).bind λm=>(as l p.2).bind λq=>m q.1 q.2
theorem ydc {j n:Nat}{me:EM}{mA:AM}{tab:List (Str × FM)}(hr:Room j X.A) (hv:PE3 X (.Name y p) me) (ha:PA3 X (a :: es) mA) (hl:∀l S v S',mA l S=some (v,S')->v.length=n)
  (ht:∀x m,tab.lookup x=some m->Fnc X.K X.mg x/\∃k,k<=j/\Has X.prog X.w X.K X.mg X.base x k n m)
  (he:starEach (a :: es) X.env=(false,eval a X.env) :: starEach es X.env:=by rfl) (hpl:(backTo pos (starEach es X.env)).any (·.1)=false:=by rfl) :
  PE3 X (.Call (.Name y p) (a :: es) [] pos) (zkx tab me mA):=PE.imp (ydb hr hv ha he hpl) λσ H Q hx1_=>by
 obtain ⟨ρ,l,S,v,S',sim,ro,hq,p⟩:=hx1_
 obtain ⟨⟨x,S1⟩,h1,hq⟩:=bnd hq
 obtain ⟨nm,h2,hq⟩:=bnd hq
 obtain ⟨m,h3,hq⟩:=bnd hq
 obtain ⟨⟨xs,S2⟩,h4,hq2⟩:=bnd hq
 obtain ⟨⟨f,o,n1,n2,n3⟩,k,hk,f',fd,ps,F,hm,kp,hb⟩:=ht nm m h3
 have ef:f' = f:=by rw [n3] at hm;cases hm;rfl
 subst ef
 refine ⟨ρ,l,S,x,S1,sim,ro,h1,λρ1 H1 x' e1 s1 r1=>?_⟩
 unfold zhl at h2
 dsimp only at h2
 split at h2
 ·split at h2
  ·rename_i e
   cases h2
   cases r1 with
   | @ref _ a' hn =>
    obtain ⟨g1,_⟩:=s1.at' _ a' _ hn e
    rw [n1] at g1
    cases g1
    exact ⟨f',fd,ps,_,k,rfl,F,hk,kp,hb,ρ1,l,S1,xs,S2,s1,ro.mono e1,h4,λρ2 H2 vs e2 s2 r2=>⟨by rw [List.append_nil,<-r2.length];exact hl _ _ _ _ h4,ρ2,xs,S2,v,S',s2,by rw [List.append_nil];exact r2,hq2,p.ext (e1.trans e2)⟩⟩
  ·cases h2
 ·cases h2
theorem ydd {R:Str->FM->Prop}{x:Str}{m:FM}(h:R x m):∀y m',([(x,m)]:List (Str × FM)).lookup y=some m'->R y m':=λy m' e=>by
 rw [List.lookup_cons] at e
 split at e
 ·rename_i c
  cases e
  rw [eq_of_beq c];exact h
 ·cases e
end
section
variable {k:Nat}{names:List (Str × NameKind)}{acc:List (Str × Addr)}
end
end L3
namespace SP
open PySem PySem.W PyProof.Rows PySem.Calls
section
variable {prog:Program}{w:World}{A:Around}{E:Value->Shared->Prop}{s:Shared}
theorem yde {x:Addr}{ps:List Pr}{R0:Value->Pr->Prop}{Q:Value->Shared->Prop}(hR:∀v p,R0 v p->IsP s.heap v p)
  (hc:∀(E:Value->Shared->Prop) (R:List Value->Shared->Prop),(∀h' tk vs,s.heap.objs.size<=h'.objs.size->(∀b o,s.heap.get? b=some o->h'.get? b=some o)->TR R0 vs ps->R vs { s with heap:=h',toks:=tk })->wpAny (model prog w) A.in1 (collect (.ref x)) R E s) (nd:ps.Nodup) (h64:ps.length<64)
  (h:∀h' tk D e out,(∀b o,s.heap.get? b=some o->h'.get? b=some o)->s.heap.objs.size<=D->h'.get? D=some (seqObj "list" out.toArray e)->TR R0 out (sortP ps)->Q (.ref D) { s with heap:=h',toks:=tk }) :
  wpAny (model prog w) A (call (.builtin "sorted") [.ref x]) Q E s:=by
 have fits:∀k,k<64->k<=sizeLine:=λk hk=>by rw [sizeLine_eq];omega
 refine call_function_entry kind_sorted plain_sorted entry_sorted (args_sorted1 _) ?_
 unfold Builtin.«sorted»
 refine qwb (m:=checkCount "sorted" 1 1 _) (qwp (qwb (hc _ _ λh' tk vs sz keep t=>?_)))
 have hl:=t.length
 refine qwb (wpAny_newList ?_ (fits _ (by omega)))
 have hD:(h'.push (seqObj "list" vs.toArray 0)).get? h'.objs.size=some (seqObj "list" vs.toArray 0):=Heap.get?_push_size _ rfl
 have t':Tp (h'.push (seqObj "list" vs.toArray 0)) vs ps:=t.imp λv p x=>(hR v p x).kept λb o _ e=>qps _ (keep b o e)
 refine qwb (wpAny_holding (wpAny_call_entry slot_list_sort ⟨_,hD,rfl⟩ entry_list_sort (zuz (s:={ s with heap:=h'.push (seqObj "list" vs.toArray 0),toks:=tk }) hD t' t nd h64 λout to=>⟨_,rfl,?_⟩) (args_list_sort _)))
 refine qwp ⟨_,rfl,?_⟩
 obtain ⟨c,hc2⟩:=sortedHeap_at (out:=out.toArray) hD
 refine h _ tk h'.objs.size c out (λb o e=>?_) sz hc2 to
 have lb:=Heap.lt_size (keep b o e)
 rw [sortedHeap_old (Nat.ne_of_lt lb) (by rw [size_push'];exact Nat.lt_succ_of_lt lb)]
 exact qps _ (keep b o e)
theorem sorted_pairs_list {x:Addr}{vs:List Value}{ps:List Pr}{R0:Value->Pr->Prop}{Q:Value->Shared->Prop}(hR:∀v p,R0 v p->IsP s.heap v p) (hl:s.heap.IsList x vs.toArray) (t:TR R0 vs ps) (nd:ps.Nodup) (h64:ps.length<64)
  (h:∀h' tk D e out,(∀b o,s.heap.get? b=some o->h'.get? b=some o)->s.heap.objs.size<=D->h'.get? D=some (seqObj "list" out.toArray e)->TR R0 out (sortP ps)->Q (.ref D) { s with heap:=h',toks:=tk }) :
  wpAny (model prog w) A (call (.builtin "sorted") [.ref x]) Q E s:=by
 refine yde hR (λE R hQ=>collect_list hl ?_ (by rw [t.length,sizeLine_eq];omega)) nd h64 h
 refine hQ _ s.toks vs (by rw [Heap.size_update,size_push'];exact Nat.le_succ _) (λb o e=>?_) t
 have hb:=Nat.ne_of_lt (Heap.lt_size e)
 exact (Heap.get?_update_other _ _ (Ne.symm hb)).trans (qps _ e)
end
end SP
namespace L3
open PySem PySem.Spec PyProof.Rows L2
noncomputable def dPr:D->Option SP.Pr
 | .tup [.int a,.int b]=>some (a,b)
 | _=>none
noncomputable def pD (p:SP.Pr):D:=.tup [.int p.1,.int p.2]
noncomputable def zhm:List D->Option (List SP.Pr)
 | []=>some []
 | d :: ds=>(dPr d).bind λp=>(zhm ds).bind λps=>some (p :: ps)
theorem ydf {d:D}{p:SP.Pr}(h:dPr d=some p):d=pD p:=by
 unfold dPr at h
 split at h
 ·cases h;rfl
 ·cases h
theorem zrn:∀{ds:List D}{ps:List SP.Pr},zhm ds=some ps->ds=ps.map pD
 | [],ps,h=>by cases h;rfl
 | d :: ds,ps,h=>by
  obtain ⟨p,h1,h⟩:=bnd h
  obtain ⟨qs,h2,h⟩:=bnd h
  cases h
  rw [List.map_cons,ydf h1,zrn h2]
def VP (H:Hp):List V->List SP.Pr->Prop:=Paired λv p=>∃b,v=.ref b/\H b=some (.tup [.int p.1,.int p.2])
theorem zro {ρ:List Addr}{H:Hp}:∀{ps:List SP.Pr}{vs:List V},RDs ρ H (ps.map pD) vs->VP H vs ps
 | [],vs,r=>by cases r;exact .nil
 | p :: ps,vs,r=>by
  cases r with
  | cons r1 r2 =>
   refine .cons ?_ (zro r2)
   cases r1 with
   | tup hb rs =>
    obtain ⟨x,y,e,q1,q2⟩:=rs.two
    subst e
    cases q1;cases q2
    exact ⟨_,rfl,hb⟩
theorem ydg {ρ:List Addr}{H:Hp}{ps:List SP.Pr}{vs:List V}(h:VP H vs ps):RDs ρ H (ps.map pD) vs:=by
 induction h with
 | nil=>exact .nil
 | cons q _ ih =>
  obtain ⟨b,rfl,hb⟩:=q
  exact .cons (.tup hb (.cons (.int _) (.cons (.int _) .nil))) ih
def RH (H:Hp) (v:Value) (p:SP.Pr):Prop:=∃b,v=.ref b/\H b=some (.tup [.int p.1,.int p.2])
theorem ydh {P:Program}{w:World}{H:Hp}{h:Heap}(ok:HOk P w H h) {v:Value}{p:SP.Pr}(x:RH H v p):SP.IsP h v p:=by
 obtain ⟨b,rfl,hb⟩:=x
 obtain ⟨_,its,rv,o,h1,h2,n,h3,_⟩:=(show ObjOk P w H h b (.tup _) from ok b _ hb)
 cases rv with
 | cons a1 a2 =>
  cases a2 with
  | cons a3 a4 =>
   cases a4
   obtain ⟨t1,rfl⟩:=a1
   obtain ⟨t2,rfl⟩:=a3
   exact ⟨b,o,t1,t2,n,rfl,h1,h2,h3⟩
theorem ydi {H:Hp}{vs:List V}{ps:List SP.Pr}(x:VP H vs ps):∀{us:List Value},Vals vs us->SP.TR (RH H) us ps:=by
 induction x with
 | nil=>intro us r;cases r;exact .nil
 | cons q _ ih =>
  intro us r
  cases r with
  | cons r1 r2 =>
   obtain ⟨b,rfl,hb⟩:=q
   cases r1
   exact .cons ⟨b,rfl,hb⟩ (ih r2)
theorem ydj {H:Hp}{us:List Value}{ps:List SP.Pr}(t:SP.TR (RH H) us ps):∃ws,Vals ws us/\VP H ws ps:=by
 induction t with
 | nil=>exact ⟨[],.nil,.nil⟩
 | cons q _ ih =>
  obtain ⟨ws,w1,w2⟩:=ih
  obtain ⟨b,rfl,hb⟩:=q
  exact ⟨.ref b :: ws,.cons rfl w1,.cons ⟨b,rfl,hb⟩ w2⟩
theorem VP.length {H:Hp}{vs:List V}{ps:List SP.Pr}(x:VP H vs ps):vs.length=ps.length:=Paired.length x
def zrp (K:QFg):List V->Hp->VK->Prop:=λxs H Q=>∃(p:Addr) (vs:List V) (ps:List SP.Pr),xs=[.ref p]/\SqL K H p vs/\VP H vs ps/\ps.Nodup/\ps.length<64/\∀l ws,H l=none->VP H ws (SP.sortP ps)->Q (.ref l) (upd H l (.lst ws))
section
variable {X:Cx}
theorem ydk:CallR X (.builtin "sorted") (zrp X.K):=by
 intro pins s σ H xs us Q I r h
 obtain ⟨p,vs,ps,rfl,sq,vp,nd,h64,q⟩:=h
 obtain ⟨u,rfl,ru⟩:=zdq r
 cases ru
 obtain ⟨its,rv,pl,hz⟩:=I.list sq
 refine SP.sorted_pairs_list (R0:=RH H) (λv p x=>ydh I.hok x) pl.isList (ydi vp rv) nd h64 λh' tk D e out keep sz hD t=>?_
 obtain ⟨ws,w1,w2⟩:=ydj t
 have hl:ws.length<=sizeLine:=by rw [w2.length,(SP.sortP_perm ps).length_eq,sizeLine_eq];omega
 exact ⟨.ref D,_,I.laid (t':=tk) keep sz (show ObjOk X.prog X.w _ _ _ (.lst ws) from ⟨hl,out,e,w1,hD⟩),rfl,q D ws (I.hok.fresh sz) w2⟩
end
noncomputable def zgl:FM
 | [.ref n],S=>(lstOf S n).bind λxs=>(zhm xs).bind λps=>if ps.Nodup/\ps.length<64 then some (.ref S.length,S++[.lst ((SP.sortP ps).map pD)]) else none
 | _,_=>none
theorem ydl {K:QFg}:Fn3 K zgl (zrp K):=by
 intro ρ S H xs vs v S' Q sim r h p
 unfold zgl at h
 split at h
 ·obtain ⟨ys,h1,h⟩:=bnd h
  obtain ⟨ps,h2,h⟩:=bnd h
  obtain ⟨hz,e⟩:=za7 h
  cases e
  obtain ⟨w,rfl,rw'⟩:=r.one
  obtain ⟨a,us,ha,sq,rv⟩:=sim.lstOf h1
  cases rw' with
  | ref hn =>
   rw [ha] at hn;cases hn
   rw [zrn h2] at rv
   exact ⟨a,us,ps,rfl,sq,zro rv,hz.1,hz.2,λl ws hl hw=>zfy sim (ydg hw) p l hl⟩
 ·cases h
section
variable {X:Cx}{a:Expr}{es:List Expr}{mA:AM}{pos p:Pos}
theorem ydm (hg:Gl X "sorted") (hm:X.mg "sorted" = none) (ha:PA3 X (a :: es) mA) (he:starEach (a :: es) X.env=(false,eval a X.env) :: starEach es X.env:=by rfl) (hpl:(backTo pos (starEach es X.env)).any (·.1)=false:=by rfl):PE3 X (.Call (.Name "sorted" p) (a :: es) [] pos) (zaf zgl mA) :=
 zg1 ydk ydl hg hm ybw ha (by decide) (by decide) he hpl
end
end L3
namespace SP
open PySem PySem.W PyProof.Rows PySem.Calls
section
variable {prog:Program}{w:World}{A:Around}{E:Value->Shared->Prop}{s:Shared}{d it:Addr}{es:Array DictEntry}{ep i:Nat}
end
end SP
namespace L3
open PySem PySem.Spec PyProof.Rows L2
section
variable {X:Cx}{tg:Expr}
end
section
variable {X:Cx}{tgt iter:Expr}{m:EM}
end
section
variable {X:Cx}
end
section
variable {X:Cx}{a:Expr}{es:List Expr}{mA:AM}{pos p:Pos}
end
theorem ydn {α:Type}{c:Prop} [Decidable c] {x:Option α}{y:α}(h:(if c then x else none)=some y):c/\x=some y:=by
 by_cases e:c
 ·rw [if_pos e] at h;exact ⟨e,h⟩
 ·rw [if_neg e] at h;cases h
section
variable {X:Cx}{a:Expr}
end
section
variable {prog:Program}{w:World}{A:Around}{E:Value->Shared->Prop}{s:Shared}{c:Addr}{i j:Int}{t u:Tok}
end
section
variable {X:Cx}
end
section
variable {X:Cx}{a:Expr}{es:List Expr}{mA:AM}{pos p:Pos}
end
section
variable {prog:Program}{w:World}{K:Type} [DecidableEq K] {knd:HeapKind prog w K}{A:Around}{E:Value->Shared->Prop}{s:Shared}{d a:Addr}{k:K}{xs:List (K × Addr × Value)}{z:Value}
end
section
variable {X:Cx}{o e f:Expr}{td ty tx:TE}{apos cpos:Pos}
end
section
variable {X:Cx}{o e f:Expr}{mo me mf:EM}{apos cpos:Pos}{k:Nat}
end
section
variable {h:Heap}{p:PyData}
noncomputable def eqR (h:Heap) (p:PyData) (y:Value):Bool:=@decide (∃q as,Reads h y q as/\q.canLay0=true/\q.eqv p=true) (Classical.propDecidable _)
theorem zrq {y:Value}{q:PyData}{as:List Addr}(r:Reads h y q as) (c:q.canLay0=true):eqR h p y=q.eqv p:=by
 unfold eqR
 cases e:q.eqv p with
 | true=>exact @decide_eq_true _ (Classical.propDecidable _) ⟨q,as,r,c,e⟩
 | false =>
  refine @decide_eq_false _ (Classical.propDecidable _) λ⟨q',as',r',_,e'⟩=>?_
  have:=PySem.SeqAt.Reads.unique q q' y as as' c r r'
  subst this
  rw [e] at e';cases e'
theorem zrr:∀{us:List Value}{qs:List PyData}{as:List Addr},ReadsAll h us qs as->PyData.canLayAll0 qs=true->us.map (eqR h p)=qs.map λq=>q.eqv p
 | _,_,_,.nil,_=>rfl
 | _,_,_,.cons r rs,c=>by
  rw [PyData.canLayAll0,Bool.and_eq_true] at c
  rw [List.map_cons,List.map_cons,zrq r c.1,zrr rs c.2]
theorem zrs {A:Around}{s:Shared}{x:Value}{bs:List Addr}(rx:Reads s.heap x p bs) (cx:p.canLay0=true) (hu:A.units+p.depth<cLine):∀{us:List Value}{qs:List PyData}{as:List Addr},ReadsAll s.heap us qs as->PyData.canLayAll0 qs=true->∀y∈us,SeqAt.EqAt A s y x (eqR s.heap p y)
 | _,_,_,.nil,_=>λy hy=>by cases hy
 | _,_,_,.cons r rs,c=>λy hy=>by
  rw [PyData.canLayAll0,Bool.and_eq_true] at c
  rcases List.mem_cons.mp hy with e|hy
  ·subst e
   rw [zrq r c.1]
   exact PySem.SeqAt.eqAt_reads _ p A s _ x _ bs r rx c.1 cx (Nat.lt_of_le_of_lt (Nat.add_le_add_left (Nat.min_le_right _ _) _) hu)
  ·exact zrs rx cx hu rs c.2 y hy
end
section
variable {X:Cx}{k:Nat}
variable {a b:Expr}{ma mb:EM}{pos:Pos}
end
def zrt (K:QFg):V->List V->Hp->VK->Prop:=λy vs H Q=>∃x ρ S dx xs p qs a us j,vs=[x]/\Sim K ρ S H/\RD ρ H dx x/\y=.ref a/\H a=some (.lst us)/\RDs ρ H xs us/\zau S 60 dx=some p/\zbm S 60 xs=some qs/\p.canLay0=true/\PyData.canLayAll0 qs=true/\(qs.map λq=>q.eqv p).idxOf? true=some j/\Q (.int j) H
noncomputable def zgm:D->List D->Sto->Option (D × Sto)
 | .ref n,[x],S=>match S[n]? with
  | some (.lst xs)=>(zau S 60 x).bind λp=>(zbm S 60 xs).bind λqs=>if p.canLay0=true/\PyData.canLayAll0 qs=true then ((qs.map λq=>q.eqv p).idxOf? true).bind λj=>some (.int j,S) else none
  | _=>none
 | _,_,_=>none
theorem ydo {l:List Bool}{j:Nat}(h:l.idxOf? true=some j):l[j]? = some true/\∀m,m<j->l[m]? = some false:=by
 unfold List.idxOf? at h
 rw [List.findIdx?_eq_some_iff_getElem] at h
 obtain ⟨hj,h1,h2⟩:=h
 refine ⟨by rw [qge hj];simpa using h1,λm hm=>?_⟩
 have:=h2 m hm
 rw [qge (Nat.lt_trans hm hj)]
 simpa using this
section
variable {X:Cx}{k:Nat}
theorem ydp (hr:Room k X.A):MtM X "list.index" (zrt X.K):=by
 intro pins s σ H y vs v us' Q I ry rv' h
 obtain ⟨x,ρ,S,dx,xs,p,qs,a,us,j,rfl,sim,r1,rfl,hH,r2,h1,h2,c1,c2,hj,hq⟩:=h
 cases ry
 obtain ⟨u,rfl,ru⟩:=rv'.one
 obtain ⟨⟨as,k1⟩,_,_,k2⟩:=zgd I sim 60 dx x u p r1 ru h1
 obtain ⟨z,its,n,rv,hl,e⟩:=I.lstM hH
 obtain ⟨⟨bs,k3⟩,_,_,_⟩:=zz0 I sim 60 xs us its qs r2 rv h2
 have em:=zrr (p:=p) k3 c2
 rw [<-em] at hj
 obtain ⟨g1,g2⟩:=ydo hj
 have hjl:j<its.length:=by have:=(qme g1).1;simpa using this
 have e1:eqR s.heap p its.toArray[j]=true:=by
  rw [qgm,qge hjl] at g1
  simpa using g1
 have hsm:(j:Int)<2 ^ 63-1:=by
  have:(sizeLine:Nat)=16777216:=sizeLine_eq
  omega
 refine call_meets F.slot_list_index ⟨_,e,rfl⟩ F.entry_list_index (F.args_list_index_2 _ _) (SeqAt.list_indexAt a its.toArray n none #[] u (eqR s.heap p) j (by simpa using hjl) hsm e1 λm hm hmj=>?_) ⟨e,λw hw=>zrs k1 c1 (by have:=hr.un;show X.A.units+1+_<_;omega) k3 c2 w (by simpa using hw),⟨.int j,H,I.tok _,⟨_,rfl⟩,hq⟩⟩
 have:=g2 m hmj
 have hml:m<its.length:=by simpa using hm
 rw [qgm,qge hml] at this
 simpa using this
theorem ydq {K:QFg}:Mt3 K zgm (zrt K):=by
 intro ρ S H x x' xs vs v S' Q sim rx r h p
 unfold zgm at h
 split at h
 ·split at h
  ·rename_i n y S ys e
   obtain ⟨d1,h2,h⟩:=bnd h
   obtain ⟨ds,h3,h⟩:=bnd h
   obtain ⟨hc,h⟩:=ydn h
   obtain ⟨j,hj,h⟩:=bnd h
   cases h
   obtain ⟨w,rfl,rw'⟩:=r.one
   obtain ⟨a,us,ha,hH,r2⟩:=sim.lst e
   cases rx with
   | ref hn =>
    rw [ha] at hn;cases hn
    exact ⟨w,ρ,_,y,ys,d1,ds,a,us,j,rfl,sim,rw',rfl,hH,r2,h2,h3,hc.1,hc.2,hj,p ρ H _ (Ext.refl ..) sim (.int _)⟩
  ·cases h
 ·cases h
variable {o e:Expr}{mo me:EM}{apos cpos:Pos}
theorem ydr (hr:Room k X.A) (ho:PE3 X o mo) (he:PE3 X e me) (hbase:attributeBase o "index" X.env (eval o X.env)=eval o X.env:=by rfl)
  (hfew:((backTo cpos (starEach [e] X.env)).all (λx=>!x.1) && (backToKw cpos (keywordEach [] X.env)).all (λx=>x.1.isSome) && decide (([e]:List Expr).length+([]:List Keyword).length+(if ([]:List Keyword).isEmpty then 0 else 1)<30))=true:=by rfl)
  (hline:(apos.endLine == cpos.line)=true:=by rfl) (hs:starEach [e] X.env=(false,eval e X.env) :: starEach [] X.env:=by rfl) (hplain:(backTo cpos (starEach [] X.env)).any (·.1)=false:=by rfl) :
  PE3 X (.Call (.Attribute o "index" apos) [e] [] cpos) (zb5 zgm mo (zab me zae)):=zkg PySem.F.slot_list_index PySem.F.type_list_index (ydp hr) ydq ho (zad he zag hs) hbase hfew hline hs hplain
end
section
variable {X:Cx}{o:Expr}{mo:EM}{apos cpos:Pos}
end
section
variable {X:Cx}{pos:Pos}{ke ve:Expr}
end
section
variable {X:Cx}{pos:Pos}{ke ve:Expr}{mk mv:EM}{k:Nat}
end
section
variable {X:Cx}
end
section
variable {X:Cx}{a:Expr}{es:List Expr}{mA:AM}{pos p:Pos}
end
section
variable {elt t1 i1 t2 i2:Expr}{ifs1 ifs2:List Expr}{scope:Scope}{pos:Pos}{it acc:Value}{env:Env}
noncomputable abbrev two (elt t1 i1 t2 i2:Expr) (ifs1 ifs2:List Expr) (scope:Scope) (pos:Pos):Expr:=.ListComp elt [⟨t1,i1,ifs1,0⟩,⟨t2,i2,ifs2,0⟩] scope pos
variable {prog:Program}{w:World}{A:Around}{R:Result->Shared->Prop}{s:Shared}
end
abbrev RM:=Lo->Sto->Option ((Int × Nat) × Sto)
inductive tr (K:QFg) (r:RM) (σ:St) (H:Hp) (R:It->Hp->Prop):Prop
 | mk (ρ:_) (l:_) (S:_) (lo:_) (n:_) (S':_) (_:Sim K ρ S H) (_:RO ρ H l σ) (_:r l S=some ((lo,n),S')) (_:∀ρ' H',Ext ρ H ρ' H'->Sim K ρ' S' H'->R (Itr lo n) H')
section
variable {X:Cx}{tgt:Expr}{mA:AM}{p0 pos':Pos}{a a2:Expr}
end
theorem Inv.turnedL {X:Cx}{pins:List (Addr × Obj)}{σ:L2.St}{H:Hp}{s:Shared}{h':Heap}{t':Nat}{ch:List Addr}(I:Inv X pins σ H s) (hf:∀b∈ch,zdo X pins H b) (k:∀b o,b ∉ ch->s.heap.get? b=some o->h'.get? b=some o):Inv X pins σ H { s with heap:=h',toks:=t' }:=by
 have nf:∀b u,H b=some u->b ∉ ch:=λb u e z=>by rw [(hf b z).1] at e;cases e
 refine I.step (g':=s.gens) (d':=s.drawn) (ch:=ch) (λb hb=>?_) (λb o _ _ hc e _=>k b o hc e) (λb o _ _ hc e _=>⟨o.slots,k b o hc e⟩) (λ_ _ _ _ n=>n) (λb o hc e=>⟨o,k b o hc e⟩) (λ_ _ e=>e) (λ_ _ _ e=>e) (λb ps e=>⟨#[],by rw [e];simp⟩) (λm hm=>?_) (λb u e=>?_) I.bare
 ·obtain ⟨_,q1,_,q3,q4,q5⟩:=hf b hb
  exact ⟨q3,q1,q4,q5⟩
 ·obtain ⟨o,es,ep,ho,q⟩:=hm
  exact ⟨o,es,ep,k _ o (λz=>(hf _ z).2.1 rfl) ho,q⟩
 ·refine (I.hok b u e).stay (λc v hc q=>k c v ?_ q) (λ_ q=>q) λ_ _ q=>q
  rcases hc with z|z
  ·rw [z];exact nf b u e
  ·exact nf c _ z
section
variable {prog:Program}{w:World}{A:Around}{E:Value->Shared->Prop}{s:Shared}
variable {z TI TO i1 i2 c1 c2:Addr}{n1 n2 k:Nat}{P1 P2:Nat->Value->Prop}{T1 T2:Nat->Heap->Prop}{a b:Value}
theorem fr1 {h h':Heap}(D1:Draws prog w A i1 [i1,c1] n1 P1 T1) (st:T1 k h) {x:Addr}(sb:Heap.ExtBut x h h') (n1':i1≠x) (n2':c1≠x):T1 k h':=D1.frame k h h' st λb hb o e=>by
 have hb:b=i1\/b=c1:=by simpa using hb
 rcases hb with rfl|rfl
 ·exact sb _ _ n1' e
 ·exact sb _ _ n2' e
theorem yds {Q:Value->Shared->Prop}(D1:Draws prog w A i1 [i1,c1] n1 P1 T1) (D2:Draws prog w A i2 [i2,c2] n2 P2 T2) (G:ZipApart z TI TO i1 i2 c1 c2) (hz:IsZip s.heap z TI TO .none) (hI:IsPair s.heap TI (.ref i1) (.ref i2)) (hO:IsPair s.heap TO a b)
  (h1:T1 k s.heap) (h2:T2 k s.heap) (k1:k<n1) (k2:k<n2)
  (hQ:∀x y h' tk,P1 k x->P2 k y->IsZip h' z TI TO (rawInt s.heap.objs.size)->IsPair h' TO x y->T1 (k+1) h'->T2 (k+1) h'->IsPair h' s.heap.objs.size x y ->
   (∀c o,c≠z->c≠TO->c≠i1->c≠i2->s.heap.get? c=some o->h'.get? c=some o)->Q (.ref s.heap.objs.size) { s with heap:=h',toks:=tk }) :
  wpAny (model prog w) A (Builtin.«zip.__next__» ⟨[.ref z],[]⟩) (λfin s'=>∃v,fin=.done (.ret v)/\Q v s') E s:=by
 show wpAny _ _ (field (.ref z) 2 >>= _) _ _ _
 refine qwb (wpAny_field hz rfl (x:=.bool false) rfl ?_)
 show wpAny _ _ (field (.ref z) 3 >>= _) _ _ _
 refine qwb (wpAny_field hz rfl (x:=.ref TI) rfl (qwb (wpAny_seqItems hI rfl ?_)))
 show wpAny _ _ (Builtin.SmallTypes.ownedTupleIsFree (.ref z) >>= _) _ _ _
 refine qwb ?_
 unfold Builtin.SmallTypes.ownedTupleIsFree
 refine qwb (wpAny_field hz rfl (x:=.none) rfl (qwp ?_))
 simp only [if_true]
 refine qwb (wpAny_rule (qwb (wpAny_field hz rfl (x:=.ref TO) rfl (qwb (wpAny_setField_rec hz (by simp) λg1 z1 s1=>?_)))))
 replace z1:IsZip g1 z TI TO .ellipsis:=z1
 refine qwb ?_
 simp only [List.zipIdx_cons,List.zipIdx_nil,List.forIn_cons,List.forIn_nil]
 refine qwb (qwb (wpAny_onRaise ?_))
 show wpAny _ _ (Builtin.SmallTypes.nextOf (.ref i1) >>= _) _ _ _
 refine qwb (D1.item k _ _ _ k1 (fr1 D1 h1 s1.extBut G.i1z G.l1z) λx g2 tk2 px t1 s2=>qwp ?_)
 have o2:IsPair g2 TO a b:=s2.extBut _ _ G.TOi1 (s1.extBut _ _ G.TOz hO)
 refine qwb (wpAny_seqItems o2 rfl (qwb (wpAny_updateSeq_pair o2 λg3 o3 s3=>?_)))
 replace o3:IsPair g3 TO x b:=o3
 refine qwb (wpAny_letGo (qwp (qwb (qwb (wpAny_onRaise ?_)))))
 show wpAny _ _ (Builtin.SmallTypes.nextOf (.ref i2) >>= _) _ _ _
 have t2:T2 k g3:=fr1 D2 (fr1 D2 (fr1 D2 h2 s1.extBut G.i2z G.l2z) s2.extBut G.i12.symm G.l2i1) s3.extBut G.TOi2.symm G.l2TO
 refine qwb (D2.item k _ _ _ k2 t2 λy g4 tk4 py u2 s4=>qwp ?_)
 have o4:IsPair g4 TO x b:=s4.extBut _ _ G.TOi2 o3
 refine qwb (wpAny_seqItems o4 rfl (qwb (wpAny_updateSeq_pair o4 λg5 o5 s5=>?_)))
 replace o5:IsPair g5 TO x y:=o5
 refine qwb (wpAny_letGo (qwp (qwp (qwb (wpAny_seqItems o5 rfl (qwb (wpAny_newTuple ?_)))))))
 have sz:g5.objs.size=s.heap.objs.size:=by rw [s5.1,s4.1,s3.1,s2.1,s1.1]
 have z5:IsZip g5 z TI TO .ellipsis:=s5.extBut _ _ G.TOz.symm (s4.extBut _ _ G.i2z.symm (s3.extBut _ _ G.TOz.symm (s2.extBut _ _ G.i1z.symm z1)))
 have old5:∀c o,c≠z->c≠TO->c≠i1->c≠i2->s.heap.get? c=some o->g5.get? c=some o:=λc o q1 q2 q3 q4 e=>s5.extBut _ _ q2 (s4.extBut _ _ q4 (s3.extBut _ _ q2 (s2.extBut _ _ q3 (s1.extBut _ _ q1 e))))
 have v1:T1 (k+1) g5:=fr1 D1 (fr1 D1 (fr1 D1 t1 s3.extBut G.TOi1.symm G.l1TO) s4.extBut G.i12 G.l1i2) s5.extBut G.TOi1.symm G.l1TO
 have v2:T2 (k+1) g5:=fr1 D2 u2 s5.extBut G.TOi2.symm G.l2TO
 have zl:z<g5.objs.size:=Heap.lt_size z5
 show wpAny _ _ (Builtin.SmallTypes.ownedTupleHandOut (.ref z) (.ref g5.objs.size) >>= _) _ _ _
 refine qwb ?_
 unfold Builtin.SmallTypes.ownedTupleHandOut
 have z6:IsZip (g5.push { cls:=.type "tuple",data:=.seq #[x,y] }) z TI TO .ellipsis:=qps _ z5
 refine qwb (wpAny_setField_rec z6 (by simp) λg7 z7 s7=>?_)
 replace z7:IsZip g7 z TI TO (rawInt g5.objs.size):=z7
 refine wpAny_setField_rec z7 (by simp) λg8 z8 s8=>?_
 replace z8:IsZip g8 z TI TO (rawInt g5.objs.size):=z8
 have rise:∀c o,c≠z->g5.get? c=some o->g8.get? c=some o:=λc o q e=>s8.extBut _ _ q (s7.extBut _ _ q (qps _ e))
 have pr8:IsPair g8 g5.objs.size x y:=s8.extBut _ _ (Nat.ne_of_gt zl) (s7.extBut _ _ (Nat.ne_of_gt zl) (Heap.get?_push_size _ rfl))
 rw [sz] at z8 pr8
 refine qwp ⟨_,rfl,?_⟩
 show Q (.ref g5.objs.size) _
 rw [sz]
 exact hQ x y g8 _ px py z8 (rise _ _ G.TOz o5) (fr1 D1 v1 (x:=z) (λc o q e=>rise c o q e) G.i1z G.l1z) (fr1 D2 v2 (x:=z) (λc o q e=>rise c o q e) G.i2z G.l2z) pr8 λc o q1 q2 q3 q4 e=>rise c o q1 (old5 c o q1 q2 q3 q4 e)
theorem ydt {Q:Fin->Shared->Prop}(D1:Draws prog w A i1 [i1,c1] n1 P1 T1) (G:ZipApart z TI TO i1 i2 c1 c2) (hz:IsZip s.heap z TI TO .none) (hI:IsPair s.heap TI (.ref i1) (.ref i2)) (hO:IsPair s.heap TO a b)
  (h1:T1 k s.heap) (hend:k=n1\/k<n1/\∃P2 T2,Draws prog w A i2 [i2,c2] k P2 T2/\T2 k s.heap)
  (hE:∀h' e tk,(∀c o,c≠z->c≠TO->c≠i1->c≠i2->s.heap.get? c=some o->h'.get? c=some o)->(∃o,h'.get? e=some o/\o.cls=.type "StopIteration")->E (.ref e) { s with heap:=h',toks:=tk }) :
  wpAny (model prog w) A (Builtin.«zip.__next__» ⟨[.ref z],[]⟩) Q E s:=by
 show wpAny _ _ (field (.ref z) 2 >>= _) _ _ _
 refine qwb (wpAny_field hz rfl (x:=.bool false) rfl ?_)
 show wpAny _ _ (field (.ref z) 3 >>= _) _ _ _
 refine qwb (wpAny_field hz rfl (x:=.ref TI) rfl (qwb (wpAny_seqItems hI rfl ?_)))
 show wpAny _ _ (Builtin.SmallTypes.ownedTupleIsFree (.ref z) >>= _) _ _ _
 refine qwb ?_
 unfold Builtin.SmallTypes.ownedTupleIsFree
 refine qwb (wpAny_field hz rfl (x:=.none) rfl (qwp ?_))
 simp only [if_true]
 refine qwb (wpAny_rule (qwb (wpAny_field hz rfl (x:=.ref TO) rfl (qwb (wpAny_setField_rec hz (by simp) λg1 z1 s1=>?_)))))
 replace z1:IsZip g1 z TI TO .ellipsis:=z1
 refine qwb ?_
 simp only [List.zipIdx_cons,List.zipIdx_nil,List.forIn_cons,List.forIn_nil]
 refine qwb (qwb (wpAny_onRaise ?_))
 show wpAny _ _ (Builtin.SmallTypes.nextOf (.ref i1) >>= _) _ _ _
 have q1:=fr1 D1 h1 s1.extBut G.i1z G.l1z
 rcases hend with rfl|⟨k1,P2,T2,D2,h2⟩
 ·refine qwb (D1.done _ _ _ q1 λg2 e s2 he=>?_)
  obtain ⟨oe,hoe,hce⟩:=he
  have z2:IsZip g2 z TI TO .ellipsis:=s2 _ _ G.i1z.symm z1
  have ez:e≠z:=λx=>by subst x;rw [z2] at hoe;cases hoe;simp at hce
  refine wpAny_setField_rec z2 (by simp) λg3 _ s3=>hE g3 e _ (λc o c1 _ c3 _ x=>s3.extBut _ _ c1 (s2 _ _ c3 (s1.extBut _ _ c1 x))) ⟨oe,s3.extBut _ _ ez hoe,hce⟩
 ·refine qwb (D1.item k _ _ _ k1 q1 λx g2 tk2 px t1 s2=>qwp ?_)
  have o2:IsPair g2 TO a b:=s2.extBut _ _ G.TOi1 (s1.extBut _ _ G.TOz hO)
  refine qwb (wpAny_seqItems o2 rfl (qwb (wpAny_updateSeq_pair o2 λg3 o3 s3=>?_)))
  refine qwb (wpAny_letGo (qwp (qwb (qwb (wpAny_onRaise ?_)))))
  show wpAny _ _ (Builtin.SmallTypes.nextOf (.ref i2) >>= _) _ _ _
  have t2:T2 k g3:=fr1 D2 (fr1 D2 (fr1 D2 h2 s1.extBut G.i2z G.l2z) s2.extBut G.i12.symm G.l2i1) s3.extBut G.TOi2.symm G.l2TO
  refine qwb (D2.done _ _ _ t2 λg4 e s4 he=>?_)
  obtain ⟨oe,hoe,hce⟩:=he
  have z4:IsZip g4 z TI TO .ellipsis:=s4 _ _ G.i2z.symm (s3.extBut _ _ G.TOz.symm (s2.extBut _ _ G.i1z.symm z1))
  have ez:e≠z:=λx=>by subst x;rw [z4] at hoe;cases hoe;simp at hce
  refine wpAny_setField_rec z4 (by simp) λg5 _ s5=>hE g5 e _ (λc o q1 q2 q3 q4 x=>s5.extBut _ _ q1 (s4 _ _ q4 (s3.extBut _ _ q2 (s2.extBut _ _ q3 (s1.extBut _ _ q1 x))))) ⟨oe,s5.extBut _ _ ez hoe,hce⟩
end
section
variable {prog:Program}{w:World}{A:Around}{E:Value->Shared->Prop}{s:Shared}
variable {z TI TO i1 i2 c1 c2:Addr}{n1 n2 k:Nat}{P1 P2:Nat->Value->Prop}{T1 T2:Nat->Heap->Prop}{a b:Value}
theorem ydu {Q:Option Value->Shared->Prop}(D1:Draws prog w A.in1 i1 [i1,c1] n1 P1 T1) (D2:Draws prog w A.in1 i2 [i2,c2] n2 P2 T2) (G:ZipApart z TI TO i1 i2 c1 c2) (hz:IsZip s.heap z TI TO .none) (hI:IsPair s.heap TI (.ref i1) (.ref i2)) (hO:IsPair s.heap TO a b)
  (h1:T1 k s.heap) (h2:T2 k s.heap) (k1:k<n1) (k2:k<n2)
  (hQ:∀x y h' tk,P1 k x->P2 k y->IsZip h' z TI TO (rawInt s.heap.objs.size)->IsPair h' TO x y->T1 (k+1) h'->T2 (k+1) h'->IsPair h' s.heap.objs.size x y ->
   (∀c o,c≠z->c≠TO->c≠i1->c≠i2->s.heap.get? c=some o->h'.get? c=some o)->Q (some (.ref s.heap.objs.size)) { s with heap:=h',toks:=tk }) :
  wpAny (model prog w) A (pyNext (.ref z)) Q E s:=by
 have hT:s.TypeIs (.ref z) "zip":=⟨_,hz,rfl⟩
 unfold pyNext
 exact qwb (wpAny_attempt (wpAny_callSpecial?_slot (name:=Str.ofString "__next__") hT F.slot_zip_next (wpAny_call_entry F.slot_zip_next hT F.entry_zip_next (yds D1 D2 G hz hI hO h1 h2 k1 k2 λx y h' tk p1 p2 p3 p4 p5 p6 p7 p8=>qwp (hQ x y h' tk p1 p2 p3 p4 p5 p6 p7 p8)) (F.args_zip_next_1 _))))
theorem zru {Q:Option Value->Shared->Prop}(D1:Draws prog w A.in1 i1 [i1,c1] n1 P1 T1) (G:ZipApart z TI TO i1 i2 c1 c2) (hz:IsZip s.heap z TI TO .none) (hI:IsPair s.heap TI (.ref i1) (.ref i2)) (hO:IsPair s.heap TO a b)
  (h1:T1 k s.heap) (hend:k=n1\/k<n1/\∃P2 T2,Draws prog w A.in1 i2 [i2,c2] k P2 T2/\T2 k s.heap)
  (hQ:∀h' tk,(∀c o,c≠z->c≠TO->c≠i1->c≠i2->s.heap.get? c=some o->h'.get? c=some o)->Q none { s with heap:=h',toks:=tk }):wpAny (model prog w) A (pyNext (.ref z)) Q E s:=by
 have hT:s.TypeIs (.ref z) "zip":=⟨_,hz,rfl⟩
 unfold pyNext
 refine qwb (wpAny_attempt (wpAny_callSpecial?_slot (name:=Str.ofString "__next__") hT F.slot_zip_next (wpAny_call_entry F.slot_zip_next hT F.entry_zip_next (ydt D1 G hz hI hO h1 hend λh' e tk hk he=>?_) (F.args_zip_next_1 _))))
 obtain ⟨o,ho,hc⟩:=he
 exact qwb (wpAny_isInstance (T:="StopIteration") (b:=true) ⟨o,ho,hc⟩ isSubtype_stop (qwp (hQ _ _ hk)))
end
structure Zs (P:Program) (w:World) (K:QFg) (J:It) (b a:Addr) (tn:Nat->Heap->Prop):Prop where
 obj:∀i h,tn i h->∃o,h.get? b=some o/\∀v,o.data≠.cell v
 keep:∀i h h',tn i h->(∀o,h.get? b=some o->h'.get? b=some o)->tn i h'
 go:∀(X:Cx),X.prog=P->X.w=w->X.K=K->X.calm=true->∀(i:Nat) (pins:List (Addr × Obj)) (s:Shared) (σ:L2.St) (H:Hp),Inv X pins σ H s->tn i s.heap->J.go i H ->
  ∃n Pv St,Draws P w X.A.in1 b [b,a] n Pv St/\St i s.heap/\i<n/\(∀h',St (i+1) h'->tn (i+1) h')/\∀u,Pv i u->∃x,RelV x u/\J.yld i H x H
 stop:∀(X:Cx),X.prog=P->X.w=w->X.K=K->X.calm=true->∀(i:Nat) (pins:List (Addr × Obj)) (s:Shared) (σ:L2.St) (H:Hp),Inv X pins σ H s->tn i s.heap->J.stop i H ->
  ∃Pv St,Draws P w X.A.in1 b [b,a] i Pv St/\St i s.heap
theorem ydv {P:Program}{w:World}{K:QFg}(b a:Addr) (nab:a≠b):Zs P w K (Itl K a) b a (λi h=>h.IsListIter b a i) where
 obj:=λi h st=>by
  obtain ⟨o,q,c,d⟩:=st
  exact ⟨o,q,λv z=>by rw [d] at z;cases z⟩
 keep:=λi h h1 st k=>st.at λo q=>k o q
 go:=by
  intro X hP hw hK hc i pins s σ H I st hg
  subst hP hw hK
  obtain ⟨xs,x,hq,hx⟩:=hg
  obtain ⟨its,rv,p,hz⟩:=I.list hq
  obtain ⟨u,hu,ru⟩:=rv.get hx
  have hlt:i<its.toArray.size:=by simpa using (qme hu).1
  refine ⟨_,_,_,Draws.list (A:=X.A.in1) (I.ok.hd hc) b a nab its.toArray,⟨st,p.isList⟩,hlt,λh' q=>q.1,λv hv=>⟨x,?_,rfl,λys hy=>by rw [I.list_inj hy hq];exact hx⟩⟩
  have:its.toArray[i]? = some u:=by simpa using hu
  rw [this] at hv
  exact (qoi hv) ▸ ru
 stop:=by
  intro X hP hw hK hc i pins s σ H I st hg
  subst hP hw hK
  obtain ⟨xs,hq,hx⟩:=hg
  obtain ⟨its,rv,p,hz⟩:=I.list hq
  have hl:=rv.length
  refine ⟨λ_ _=>False,λj h=>j=i/\h.IsListIter b a i/\h.IsList a its.toArray,?_,rfl,st,p.isList⟩
  refine ⟨λj h q=>?_,λj h h' q k=>⟨q.1,q.2.1.at λo e=>k b (by simp) o e,q.2.2.at λo e=>k a (by simp) o e⟩,λj s' Q E hj q=>absurd hj (by rw [q.1];exact Nat.lt_irrefl _),λs' Q E q hE=>?_⟩
  ·obtain ⟨_,⟨o,e,_⟩,_⟩:=q
   exact ⟨o,e⟩
  ·exact wpAny_nextOf_list_end (I.ok.hd hc) q.2.1 q.2.2 (by simp;omega) hE
theorem ydw {P:Program}{w:World}{K:QFg}(b a:Addr) (nab:a≠b):Zs P w K (Itt K a) b a (λi h=>h.IsTupleIter b a i) where
 obj:=λi h st=>by
  obtain ⟨o,q,c,d⟩:=st
  exact ⟨o,q,λv z=>by rw [d] at z;cases z⟩
 keep:=λi h h1 st k=>by
  obtain ⟨o,q,r⟩:=st
  exact ⟨o,k o q,r⟩
 go:=by
  intro X hP hw hK hc i pins s σ H I st hg
  subst hP hw hK
  obtain ⟨xs,x,hq,hx⟩:=hg
  obtain ⟨its,rv,p,hz⟩:=I.tuple hq
  obtain ⟨u,hu,ru⟩:=rv.get hx
  have p:s.heap.IsTuple a its.toArray:=p
  have hlt:i<its.toArray.size:=by simpa using (qme hu).1
  refine ⟨_,_,_,zq0 (A:=X.A.in1) (I.ok.hd hc) b a nab its.toArray,⟨st,p⟩,hlt,λh' q=>q.1,λv hv=>⟨x,?_,rfl,λys hy=>by rw [I.tuple_inj hy hq];exact hx⟩⟩
  have:its.toArray[i]? = some u:=by simpa using hu
  rw [this] at hv
  exact (qoi hv) ▸ ru
 stop:=by
  intro X hP hw hK hc i pins s σ H I st hg
  subst hP hw hK
  obtain ⟨xs,hq,hx⟩:=hg
  obtain ⟨its,rv,p,hz⟩:=I.tuple hq
  have p:s.heap.IsTuple a its.toArray:=p
  have hl:=rv.length
  refine ⟨λ_ _=>False,λj h=>j=i/\h.IsTupleIter b a i/\h.IsTuple a its.toArray,?_,rfl,st,p⟩
  refine ⟨λj h q=>?_,λj h h' q k=>⟨q.1,?_,?_⟩,λj s' Q E hj q=>absurd hj (by rw [q.1];exact Nat.lt_irrefl _),λs' Q E q hE=>?_⟩
  ·obtain ⟨_,⟨o,e,_⟩,_⟩:=q
   exact ⟨o,e⟩
  ·obtain ⟨o,e,r⟩:=q.2.1
   exact ⟨o,k b (by simp) o e,r⟩
  ·obtain ⟨o,e,r⟩:=q.2.2
   exact ⟨o,k a (by simp) o e,r⟩
  ·exact zmh (I.ok.hd hc) q.2.1 q.2.2 (by simp;omega) hE
noncomputable def Itz (J1 J2:It):It:=⟨λi H=>J1.go i H/\J2.go i H,λi H x H1=>∃y1 y2 p,J1.yld i H y1 H/\J2.yld i H y2 H/\H p=none/\x=.ref p/\H1=upd H p (.tup [y1,y2]),λi H=>J1.stop i H\/(J1.go i H/\J2.stop i H)⟩
theorem ydx {P:Program}{w:World}{K:QFg}{elts:List Expr}{x0:Nat}{tp:Pos}{J1 J2:It}{z TI TO i1 i2 c1 c2:Addr}{t1 t2:Nat->Heap->Prop}(Z1:Zs P w K J1 i1 c1 t1) (Z2:Zs P w K J2 i2 c2 t2) (G:ZipApart z TI TO i1 i2 c1 c2) :
  Turn P w K (.Tuple elts x0 tp) (Itz J1 J2) [z,TI,TO,i1,i2] z (λi h=>IsZip h z TI TO .none/\IsPair h TI (.ref i1) (.ref i2)/\(∃a b,IsPair h TO a b)/\t1 i h/\t2 i h) where
 mem:=by simp
 obj:=by
  rintro i h ⟨hz,hI,⟨a,b,hO⟩,q1,q2⟩ c hc
  simp only [List.mem_cons,List.not_mem_nil,or_false] at hc
  rcases hc with rfl|rfl|rfl|rfl|rfl
  ·exact ⟨_,hz,λv e=>by have e:Data.fields _=Data.cell v:=e
                        cases e⟩
  ·exact ⟨_,hI,λv e=>by have e:Data.seq _ _=Data.cell v:=e
                        cases e⟩
  ·exact ⟨_,hO,λv e=>by have e:Data.seq _ _=Data.cell v:=e
                        cases e⟩
  ·exact Z1.obj i h q1
  ·exact Z2.obj i h q2
 keep:=by
  rintro i h h' ⟨hz,hI,⟨a,b,hO⟩,q1,q2⟩ k
  exact ⟨k z (by simp) _ hz,k TI (by simp) _ hI,⟨a,b,k TO (by simp) _ hO⟩,Z1.keep i h h' q1 (k i1 (by simp)),Z2.keep i h h' q2 (k i2 (by simp))⟩
 item:=by
  intro X hP hw hK hc i pins s σ H E I hf st hg
  obtain ⟨hz,hI,⟨a,b,hO⟩,q1,q2⟩:=st
  obtain ⟨n1,P1,T1,D1,u1,k1,v1,r1⟩:=Z1.go X hP hw hK hc i pins s σ H I q1 hg.1
  obtain ⟨n2,P2,T2,D2,u2,k2,v2,r2⟩:=Z2.go X hP hw hK hc i pins s σ H I q2 hg.2
  subst hP hw hK
  have hn:H s.heap.objs.size=none:=I.hok.fresh (qlr _)
  have lt:∀{c:Addr} {o:Obj},s.heap.get? c=some o->c≠s.heap.objs.size:=λe=>Nat.ne_of_lt (Heap.lt_size e)
  have li1:i1≠s.heap.objs.size:=by
   obtain ⟨o,e,_⟩:=Z1.obj i _ q1
   exact lt e
  have li2:i2≠s.heap.objs.size:=by
   obtain ⟨o,e,_⟩:=Z2.obj i _ q2
   exact lt e
  refine ydu D1 D2 G hz hI hO u1 u2 k1 k2 λx y h1 tk p1 p2 p3 p4 p5 p6 p7 p8=>⟨_,rfl,wpAny_letOwnedTupleGo_zip p3 λh2 z2 s2=>?_⟩
  replace s2:Heap.SameBut z h1 h2:=s2
  obtain ⟨dx,rx,yx⟩:=r1 x p1
  obtain ⟨dy,ry,yy⟩:=r2 y p2
  refine ⟨.ref s.heap.objs.size,upd H s.heap.objs.size (.tup [dx,dy]),?_,rfl,⟨dx,dy,s.heap.objs.size,yx,yy,hn,rfl,rfl⟩,⟨z2,s2.extBut _ _ G.TIz (p8 _ _ G.TIz G.TITO G.TIi1 G.TIi2 hI),⟨_,_,s2.extBut _ _ G.TOz p4⟩,Z1.keep _ _ _ (v1 _ p5) (λo e=>s2.extBut _ _ G.i1z e),Z2.keep _ _ _ (v2 _ p6) (λo e=>s2.extBut _ _ G.i2z e)⟩,λc hc=>?_⟩
  ·refine Inv.dealt (t1:=tk) (us:=[x,y]) (ch:=[z,TI,TO,i1,i2]) I hf (λc o hc q=>?_) ⟨_,s2.extBut _ _ (lt hz).symm p7,rfl,_,rfl,rfl⟩ (.cons rx (.cons ry .nil)) (by show 2<=sizeLine;decide)
   simp only [List.mem_cons,List.not_mem_nil,or_false,not_or] at hc
   exact s2.extBut _ _ hc.1 (p8 c o hc.1 hc.2.2.1 hc.2.2.2.1 hc.2.2.2.2 q)
  ·have hne:c≠s.heap.objs.size:=by
    simp only [List.mem_cons,List.not_mem_nil,or_false] at hc
    rcases hc with rfl|rfl|rfl|rfl|rfl
    ·exact lt hz
    ·exact lt hI
    ·exact lt hO
    ·exact li1
    ·exact li2
   rw [zap hne];exact (hf c hc).1
 done:=by
  intro X hP hw hK hc i pins s σ H E I hf st hg
  obtain ⟨hz,hI,⟨a,b,hO⟩,q1,q2⟩:=st
  have fin:∀(h1:Heap) (tk:Nat),(∀c o,c≠z->c≠TO->c≠i1->c≠i2->s.heap.get? c=some o->h1.get? c=some o)->Inv X pins σ H { s with heap:=h1,toks:=tk }:=λh1 tk k =>
   Inv.turnedL (ch:=[z,TI,TO,i1,i2]) I hf λc o hc q=>by
    simp only [List.mem_cons,List.not_mem_nil,or_false,not_or] at hc
    exact k c o hc.1 hc.2.2.1 hc.2.2.2.1 hc.2.2.2.2 q
  rcases hg with g1|⟨g1,g2⟩
  ·obtain ⟨P1,T1,D1,u1⟩:=Z1.stop X hP hw hK hc i pins s σ H I q1 g1
   subst hP hw hK
   exact zru D1 G hz hI hO u1 (.inl rfl) λh1 tk k=>⟨rfl,fin h1 tk k⟩
  ·obtain ⟨n1,P1,T1,D1,u1,k1,_⟩:=Z1.go X hP hw hK hc i pins s σ H I q1 g1
   obtain ⟨P2,T2,D2,u2⟩:=Z2.stop X hP hw hK hc i pins s σ H I q2 g2
   subst hP hw hK
   exact zru D1 G hz hI hO u1 (.inr ⟨k1,P2,T2,D2,u2⟩) λh1 tk k=>⟨rfl,fin h1 tk k⟩
 self:=λA i s Q E st h=>wpAny_pyIter_zip st.1 h
noncomputable abbrev itO (t:Bool) (a:Addr):Obj:={ cls:=.type (if t then "tuple_iterator" else "list_iterator"),data:=.fields #[.ref a,.int 0 0] }
def SqB (t:Bool) (h:Heap) (a:Addr) (vs:Array Value):Prop:=if t then h.IsTuple a vs else h.IsList a vs
theorem SqB.push {t:Bool}{h:Heap}{a:Addr}{vs:Array Value}(q:SqB t h a vs) (o:Obj):SqB t (h.push o) a vs:=by
 cases t with
 | true =>
  obtain ⟨x,e,r⟩:=(q:h.IsTuple a vs)
  exact (⟨x,qps _ e,r⟩:(h.push o).IsTuple a vs)
 | false=>exact Heap.IsList.push (q:h.IsList a vs) o
theorem zrv {prog:Program}{w:World}{A:Around}{E:Value->Shared->Prop}{s:Shared}{t:Bool}{a:Addr}{vs:Array Value}{Q:Value->Shared->Prop}(q:SqB t s.heap a vs) (h:Q (.ref s.heap.objs.size) { s with heap:=s.heap.push (itO t a) }):wpAny (model prog w) A (pyIter (.ref a)) Q E s:=by
 cases t with
 | true=>exact wpAny_pyIter_tuple (q:s.heap.IsTuple a vs) h
 | false=>exact wpAny_pyIter_list (q:s.heap.IsList a vs) h
noncomputable abbrev zp1 (t1:Bool) (h:Heap) (l1:Addr):Heap:=h.push (itO t1 l1)
noncomputable abbrev zp2 (t1 t2:Bool) (h:Heap) (l1 l2:Addr):Heap:=(zp1 t1 h l1).push (itO t2 l2)
noncomputable abbrev zp3 (t1 t2:Bool) (h:Heap) (l1 l2:Addr):Heap:=(zp2 t1 t2 h l1 l2).push { cls:=.type "tuple",data:=.seq #[.ref h.objs.size,.ref (zp1 t1 h l1).objs.size] }
noncomputable abbrev zp4 (t1 t2:Bool) (h:Heap) (l1 l2:Addr):Heap:=(zp3 t1 t2 h l1 l2).push { cls:=.type "tuple",data:=.seq #[.none,.none] }
noncomputable abbrev zp5 (t1 t2:Bool) (h:Heap) (l1 l2:Addr):Heap:=(zp4 t1 t2 h l1 l2).push { cls:=.type "zip",data:=.fields #[.none,.bool false,.bool false,.ref (zp2 t1 t2 h l1 l2).objs.size,.ref (zp3 t1 t2 h l1 l2).objs.size] }
theorem ydy (t1 t2:Bool) (l1 l2:Addr) (xs ys:Array Value) :
  Meets (Builtin.«zip.__new__» ⟨[.type "zip",.ref l1,.ref l2],[]⟩) (λ_ R s=>SqB t1 s.heap l1 xs/\SqB t2 s.heap l2 ys/\R (.ok (.ret (.ref (zp4 t1 t2 s.heap l1 l2).objs.size))) { s with heap:=zp5 t1 t2 s.heap l1 l2 }) :=
 .of_wp λprog w A R s h=>by
  obtain ⟨hp,g,d,tk,os⟩:=s
  obtain ⟨q1,q2,h⟩:=h
  have hsub:=sub_zip
  have b1:SqB t1 (Shared.heap ⟨hp,g,d,tk,os⟩) l1 xs:=q1
  have b2:SqB t2 (Shared.heap ⟨hp.push (itO t1 l1),g,d,tk,os⟩) l2 ys:=SqB.push q2 _
  wp_walk using zrv b1,zrv b2
  exact ⟨_,rfl,h⟩
section
variable {prog:Program}{w:World}{A:Around}{E:Value->Shared->Prop}{s:Shared}
theorem ydz {t1 t2:Bool}{l1 l2:Addr}{xs ys:Array Value}{Q:Value->Shared->Prop}(q1:SqB t1 s.heap l1 xs) (q2:SqB t2 s.heap l2 ys)
  (h:∀h',IsZip h' (s.heap.objs.size+4) (s.heap.objs.size+2) (s.heap.objs.size+3) .none->IsPair h' (s.heap.objs.size+2) (.ref s.heap.objs.size) (.ref (s.heap.objs.size+1))->IsPair h' (s.heap.objs.size+3) .none .none ->
   h'.get? s.heap.objs.size=some (itO t1 l1)->h'.get? (s.heap.objs.size+1)=some (itO t2 l2)->(∀c o,s.heap.get? c=some o->h'.get? c=some o)->Q (.ref (s.heap.objs.size+4)) { s with heap:=h' }) :
  wpAny (model prog w) A (call (.type "zip") [.ref l1,.ref l2]) Q E s:=by
 refine callType_new F.called_zip (by decide) (F.typeCall_zip_2 _ _) (F.newCall_zip_2 _ _) (λobj=>F.args_object_init_3 obj _ _) F.entry_zip_new (ydy t1 t2 l1 l2 xs ys) ⟨q1,q2,?_⟩
 have e1:(zp1 t1 s.heap l1).objs.size=s.heap.objs.size+1:=Heap.size_push ..
 have e2:(zp2 t1 t2 s.heap l1 l2).objs.size=s.heap.objs.size+2:=by rw [Heap.size_push,e1]
 have e3:(zp3 t1 t2 s.heap l1 l2).objs.size=s.heap.objs.size+3:=by rw [Heap.size_push,e2]
 have e4:(zp4 t1 t2 s.heap l1 l2).objs.size=s.heap.objs.size+4:=by rw [Heap.size_push,e3]
 have g5:(zp5 t1 t2 s.heap l1 l2).get? (zp4 t1 t2 s.heap l1 l2).objs.size=some _:=Heap.get?_push_size _ rfl
 have g4:(zp5 t1 t2 s.heap l1 l2).get? (zp3 t1 t2 s.heap l1 l2).objs.size=some _:=qps _ (Heap.get?_push_size _ rfl)
 have g3:(zp5 t1 t2 s.heap l1 l2).get? (zp2 t1 t2 s.heap l1 l2).objs.size=some _:=qps _ (qps _ (Heap.get?_push_size _ rfl))
 have g2:(zp5 t1 t2 s.heap l1 l2).get? (zp1 t1 s.heap l1).objs.size=some _:=qps _ (qps _ (qps _ (Heap.get?_push_size _ rfl)))
 have g1:(zp5 t1 t2 s.heap l1 l2).get? s.heap.objs.size=some _:=qps _ (qps _ (qps _ (qps _ (Heap.get?_push_size _ rfl))))
 show _/\_
 rw [e2,e3,e4] at g5
 rw [e1,e2] at g3
 rw [e3] at g4
 rw [e1] at g2
 rw [e4]
 exact ⟨⟨_,g5,rfl⟩,h _ g5 g3 g4 g1 g2 λc o x=>qps _ (qps _ (qps _ (qps _ (qps _ x))))⟩
end
theorem yd0:bootBuiltins "zip" = some (.type "zip"):=by decide +kernel
noncomputable def ItB (K:QFg) (t:Bool) (a:Addr):It:=if t then Itt K a else Itl K a
def SqK (K:QFg) (t:Bool) (H:Hp) (a:Addr):Prop:=if t then ∃xs,SqT K H a xs else ∃xs,SqL K H a xs
def iZp (K:QFg) (ta:TA):TI:=λσ H R=>ta σ H λvs H1=>∃(t1 t2:Bool) (a b:Addr),vs=[.ref a,.ref b]/\SqK K t1 H1 a/\SqK K t2 H1 b/\R (Itz (ItB K t1 a) (ItB K t2 b)) H1
theorem SqK.at {X:Cx}{pins:List (Addr × Obj)}{σ:L2.St}{H:Hp}{s:Shared}{t:Bool}{a:Addr}(I:Inv X pins σ H s) (q:SqK X.K t H a):∃vs,SqB t s.heap a vs/\a<s.heap.objs.size:=by
 cases t with
 | true =>
  obtain ⟨xs,hq⟩:=(q:∃xs,SqT X.K H a xs)
  obtain ⟨its,rv,pl,hz⟩:=I.tuple hq
  have pl:s.heap.IsTuple a its.toArray:=pl
  obtain ⟨o,e,_⟩:=id pl
  exact ⟨_,pl,Heap.lt_size e⟩
 | false =>
  obtain ⟨xs,hq⟩:=(q:∃xs,SqL X.K H a xs)
  obtain ⟨its,rv,pl,hz⟩:=I.list hq
  obtain ⟨o,e,_⟩:=id pl.isList
  exact ⟨_,pl.isList,Heap.lt_size e⟩
theorem zrw {P:Program}{w:World}{K:QFg}(t:Bool) (b a:Addr) (nab:a≠b):Zs P w K (ItB K t a) b a (λi h=>if t then h.IsTupleIter b a i else h.IsListIter b a i):=by
 cases t with
 | true=>exact ydw b a nab
 | false=>exact ydv b a nab
theorem yd1 {X:Cx}{elts:List Expr}{x0:Nat}{tp:Pos}{a a2:Expr}{ta:TA}{p pos:Pos}(hg:Gl X "zip") (hm:X.mg "zip" = none) (ha:PA X [a,a2] ta) (hs:starEach [a,a2] X.env=(false,eval a X.env) :: starEach [a2] X.env:=by rfl) (hs2:(backTo pos (starEach [a2] X.env)).any (·.1)=false:=by rfl) :
  PI X (.Tuple elts x0 tp) (.Call (.Name "zip" p) [a,a2] [] pos) (iZp X.K ta):=by
 intro pins s σ H R I h
 refine Call_ (zem I hg hm yd0 (PyProof.Rows.callWith_type1 (thn (ha pos pins s σ H _ I h) λus s1 hx_=>?_) hs hs2))
 obtain ⟨vs,H1,I1,r1,q1⟩:=hx_
 obtain ⟨t1,t2,b,c,rfl,k1,k2,q⟩:=q1
 obtain ⟨u,v,rfl,ru,rv⟩:=Vals.two r1
 cases ru;cases rv
 obtain ⟨xs,b1,l1⟩:=k1.at I1
 obtain ⟨ys,b2,l2⟩:=k2.at I1
 refine ydz b1 b2 λh' hz hI hO w1 w2 hk=>?_
 have m1:@LT.lt Nat _ b s1.heap.objs.size:=l1
 have m2:@LT.lt Nat _ c s1.heap.objs.size:=l2
 generalize hn:s1.heap.objs.size=n at *
 have G:ZipApart (n+4) (n+2) (n+3) n (n+1) b c:=by constructor <;> (show (_:Nat)≠_) <;> omega
 refine wpAny_pyIter_zip (s:={ s1 with heap:=h' }) hz ⟨_,_,_,_,H1,rfl,I1.kept (t':=s1.toks) hk,ydx (zrw t1 n b (Nat.ne_of_lt m1)) (zrw t2 (n+1) c (Nat.ne_of_lt (Nat.lt_succ_of_lt m2))) G,⟨hz,hI,⟨_,_,hO⟩,?_,?_⟩,λc hc=>?_,q⟩
 ·cases t1 with
  | true=>exact ⟨_,w1,rfl,rfl⟩
  | false=>exact ⟨_,w1,rfl,rfl⟩
 ·cases t2 with
  | true=>exact ⟨_,w2,rfl,rfl⟩
  | false=>exact ⟨_,w2,rfl,rfl⟩
 ·have:s1.heap.objs.size<=c:=by
   simp only [List.mem_cons,List.not_mem_nil,or_false] at hc
   rcases hc with rfl|rfl|rfl|rfl|rfl <;> omega
  exact I1.fpOk this (I1.hok.fresh this)
noncomputable def itZ (i1 i2:ItM):ItM:=λi S=>(i1 i S).bind λo=>match o with
 | none=>some none
 | some x=>(i2 i S).bind λp=>match p with
  | none=>some none
  | some y=>some (some (.tup [x,y]))
noncomputable def sqI (S:Sto):D->Option (ItM × Nat)
 | .tup xs=>some (itX xs,xs.length)
 | .ref n=>(lstOf S n).bind λxs=>some (itL n,xs.length)
 | _=>none
noncomputable def zky (m:AM):IM:=λl S=>(m l S).bind λp=>match p.1 with
 | [x,y]=>(sqI p.2 x).bind λa=>(sqI p.2 y).bind λb=>some (itZ a.1 b.1,min a.2 b.2+1,p.2)
 | _=>none
theorem yd2 {K:QFg}{ρ:List Addr}{H:Hp}{i1 i2:ItM}{J1 J2:It}(h1:zev K ρ H i1 J1) (h2:zev K ρ H i2 J2):zkq K ρ H (itZ i1 i2) (Itz J1 J2):=by
 intro i ρ1 S1 H1 e s
 obtain ⟨a1,a2⟩:=h1 i ρ1 S1 H1 e s
 obtain ⟨b1,b2⟩:=h2 i ρ1 S1 H1 e s
 unfold itZ
 refine ⟨λq=>?_,λx q=>?_⟩
 ·obtain ⟨o,ho,q⟩:=bnd q
  cases o with
  | none=>exact .inl (a1 ho)
  | some x =>
   obtain ⟨p,hp,q⟩:=bnd q
   cases p with
   | none=>exact .inr ⟨(a2 x ho).1,b1 hp⟩
   | some y=>cases q
 ·obtain ⟨o,ho,q⟩:=bnd q
  cases o with
  | none=>cases q
  | some x1 =>
   obtain ⟨p,hp,q⟩:=bnd q
   cases p with
   | none=>cases q
   | some y1 =>
    cases q
    obtain ⟨g1,r1⟩:=a2 x1 ho
    obtain ⟨g2,r2⟩:=b2 y1 hp
    refine ⟨⟨g1,g2⟩,λv H2 hx_=>?_⟩
    obtain ⟨y,y',p,hy1,hy2,hp,e1,e2⟩:=hx_
    subst e1 e2
    obtain ⟨_,s1⟩:=r1 y H1 hy1
    obtain ⟨_,s2⟩:=r2 y' H1 hy2
    exact ⟨zcc hp,s.laid hp,.tup zbw (.cons (s1.mono (zcc hp)) (.cons (s2.mono (zcc hp)) .nil))⟩
theorem zrx {K:QFg}{ρ:List Addr}{S:Sto}{H:Hp}{x:D}{v:V}{a:ItM × Nat}(h:sqI S x=some a) (sim:Sim K ρ S H) (r:RD ρ H x v):∃t c,v=.ref c/\SqK K t H c/\zev K ρ H a.1 (ItB K t c):=by
 unfold sqI at h
 split at h
 ·cases h
  cases r with
  | @tup _ c us hc' rr=>exact ⟨true,c,rfl,⟨us,SqT.of hc'⟩,zl6 hc' rr⟩
 ·obtain ⟨ys,hx,h⟩:=bnd h
  cases h
  obtain ⟨c,us,hc',sq,rv'⟩:=sim.lstOf hx
  cases r with
  | ref hn =>
   rw [hc'] at hn;cases hn
   exact ⟨false,c,rfl,⟨us,sq⟩,zl7 hc'⟩
 ·cases h
theorem yd3 {X:Cx}{elts:List Expr}{x0:Nat}{tp:Pos}{a a2:Expr}{mA:AM}{p0 pos':Pos}(hgl:Gl X "zip") (hmg:X.mg "zip" = none) (ha:PA3 X [a,a2] mA) (hst:starEach [a,a2] X.env=(false,eval a X.env) :: starEach [a2] X.env:=by rfl) (hst2:(backTo pos' (starEach [a2] X.env)).any (·.1)=false:=by rfl):zmp X (.Tuple elts x0 tp) (.Call (.Name "zip" p0) [a,a2] [] pos') (zky mA) :=
 PI.imp (yd1 hgl hmg ha hst hst2) λσ H R hx_=>by
  obtain ⟨ρ,l,S,it,k,S',sim,ro,hm,p⟩:=hx_
  obtain ⟨⟨xs,S2⟩,q2,q1⟩:=bnd hm
  dsimp only at q1
  split at q1
  ·rename_i x y
   obtain ⟨u1,e1,q1⟩:=bnd q1
   obtain ⟨u2,e2,q1⟩:=bnd q1
   cases q1
   refine ⟨ρ,l,S,[x,y],_,sim,ro,q2,λρ1 H1 vs ex s1 r1=>?_⟩
   obtain ⟨v,u,rfl,rv,ru⟩:=r1.two
   obtain ⟨t1,c1,rfl,k1,o1⟩:=zrx e1 s1 rv
   obtain ⟨t2,c2,rfl,k2,o2⟩:=zrx e2 s1 ru
   exact ⟨t1,t2,c1,c2,rfl,k1,k2,p ρ1 H1 _ ex s1 (yd2 o1 o2)⟩
  ·cases q1
section
variable {P:Program}{w:World}{K:QFg}{tg:Expr}
end
section
variable {X:Cx}{tg l:Expr}{tl:TE}{m:EM}
end
section
variable {X:Cx}{a b e:Expr}{m ma mb:EM}{pos:Pos}{es:List Expr}{ms:List EM}{out:Str}
end
open PySem.Builtin PySem.Builtin.Str
section
variable {X:Cx}
variable {o e:Expr}{mo m:EM}{apos cpos:Pos}{name:Str}{id:String}{f:D->List D->Sto->Option (D × Sto)}{r:V->List V->Hp->VK->Prop}
end
section
variable {X:Cx}{o:Expr}{mo:EM}{apos cpos:Pos}
end
section
variable {prog:Program}{w:World}{A:Around}{E:Value->Shared->Prop}
end
section
variable {X:Cx}
variable {o e:Expr}{mo m:EM}{apos cpos:Pos}
end
section
variable {prog:Program}{w:World}{A:Around}{E:Value->Shared->Prop}{s:Shared}
noncomputable abbrev dis (ns:List Int) (n:Nat):List Int:=firstMet (λi=>ns.getD i 0) n
end
noncomputable def zgn:FM
 | [.ref n],S=>match S[n]? with
  | some (.iset _ k)=>if k<scanBound then some (.int k,S) else none
  | _=>none
 | _,_=>none
theorem zry:∀{ns:List Int}{its:List Value},Vals (ns.map V.int) its->IntsAre its ns
 | [],its,r=>by cases r;exact .nil
 | n :: ns,its,r=>by
  cases r with
  | cons p q=>obtain ⟨t,rfl⟩:=p;exact .cons n t (zry q)
def zrz:List V->Hp->VK->Prop:=λxs H Q=>∃(a:Addr) (f:Int->Bool) (k:Nat),xs=[.ref a]/\H a=some (.set f k)/\k<scanBound/\Q (.int k) H
section
variable {X:Cx}{K:QFg}{a:Expr}{es:List Expr}{mA:AM}{pos p:Pos}{k:Nat}
theorem yd4:CallR X (.builtin "len") zrz:=by
 intro pins s σ H xs us Q I r h
 obtain ⟨b,f,j,rfl,hH,hj,q⟩:=h
 obtain ⟨u,rfl,ru⟩:=zdq r
 cases ru
 obtain ⟨o,es,ep,t,ho,hex,hd,_,_,_,hf,hn⟩:=(show s.heap.SetOf (intKind X.prog X.w) b f j from I.hok b _ hH)
 have h4:(4096:Nat)=scanBound:=rfl
 refine call_len_set ho hex hd hf (by omega) ?_
 rw [hn]
 exact ⟨.int j,H,I.tok _,⟨_,rfl⟩,q⟩
theorem yd5:Fn3 K zgn zrz:=by
 intro ρ S H xs vs v S' Q sim r h p
 unfold zgn at h
 split at h
 ·split at h
  ·rename_i n S f j e
   obtain ⟨hz,e2⟩:=za7 h
   cases e2
   obtain ⟨w,rfl,rw'⟩:=r.one
   cases rw' with
   | ref hn=>exact ⟨_,f,j,rfl,sim.at' _ _ _ hn e,hz,p ρ H _ (Ext.refl ..) sim (.int _)⟩
  ·cases h
 ·cases h
theorem yd6:bootBuiltins "set" = some (.type "set"):=by decide +kernel
theorem yd7 (hg:Gl X "len") (hm:X.mg "len" = none) (ha:PA3 X (a :: es) mA) (he:starEach (a :: es) X.env=(false,eval a X.env) :: starEach es X.env:=by rfl) (hpl:(backTo pos (starEach es X.env)).any (·.1)=false:=by rfl):PE3 X (.Call (.Name "len" p) (a :: es) [] pos) (zaf zgn mA) :=
 zg1 yd4 yd5 hg hm PySem.boot_len ha (by decide) (by decide) he hpl
end
theorem yd8 (ns:List Int):(dis ns ns.length).length=ns.length↔ns.Nodup:=by
 have key:∀(l acc:List Int),acc.Nodup->((l.foldl step_dedup acc).length=acc.length+l.length↔(acc++l).Nodup)/\(l.foldl step_dedup acc).length<=acc.length+l.length:=by
  intro l
  induction l with
  | nil=>intro acc h;simp [h]
  | cons x l ih =>
   intro acc h
   rw [List.foldl_cons]
   unfold step_dedup
   by_cases hx:acc.any (· == x)=true
   ·rw [if_pos hx]
    obtain ⟨i1,i2⟩:=ih acc h
    have hm:x∈acc:=by simpa using hx
    constructor
    ·constructor
     ·intro z;simp only [List.length_cons] at z;have i2:=i2;unfold step_dedup at i2;omega
     ·intro z
      rw [List.nodup_append] at z
      exact absurd rfl (z.2.2 x hm x List.mem_cons_self)
    ·simp only [List.length_cons];unfold step_dedup at i2;omega
   ·rw [if_neg hx]
    have hm:x ∉ acc:=by simpa using hx
    have hn:(acc++[x]).Nodup:=by rw [List.nodup_append];exact ⟨h,by simp,λa ha b hb=>by rw [List.mem_singleton.mp hb];exact λz=>hm (z ▸ ha)⟩
    obtain ⟨i1,i2⟩:=ih (acc++[x]) hn
    unfold step_dedup at i1 i2
    rw [qla,List.length_singleton] at i1 i2
    rw [List.append_assoc] at i1
    constructor
    ·rw [List.length_cons,show l.length+1=1+l.length from Nat.add_comm _ _,<-Nat.add_assoc]
     exact i1
    ·simp only [List.length_cons];omega
 have e:dis ns ns.length=ns.foldl step_dedup []:=by
  unfold dis firstMet
  congr 1
  apply List.ext_getElem?
  intro i
  rw [qgm]
  by_cases hi:i<ns.length
  ·rw [List.getElem?_range hi,qge hi];simp [hi]
  ·rw [List.getElem?_eq_none (by simpa using hi),List.getElem?_eq_none (by simpa using hi)];rfl
 rw [e]
 simpa using (key ns [] List.nodup_nil).1
end L3
namespace SP
open PySem PySem.W PyProof.Rows PySem.Calls
section
variable {prog:Program}{w:World}{A:Around}{E:Value->Shared->Prop}{s:Shared}
end
end SP
namespace L3
open PySem PySem.Spec PyProof.Rows L2
section
variable {X:Cx}{K:QFg}{a:Expr}{es:List Expr}{mA:AM}{pos p:Pos}
end
section
variable {X:Cx}{a b:Expr}{ma mb:EM}{pos:Pos}
end
open PySem.W
section
variable {X:Cx}{pos:Pos}
theorem yd9 {i:Int}{j:Nat}{p0:Pos}{e:Expr}{te:TE}(he:PE X e te) :
  PE X (.Dict [some (.Constant (.int i) j p0)] [e] pos) (λσ H Q=>∀p,H p=none->X.K.lookup p=none->te σ (upd H p (.dK [])) λv H2=>H2 p=some (.dK [])/\Q (.ref p) (upd H2 p (.dK [(Sum.inl i,v)]))):=by
 intro pins s σ H Q I q
 have hn:=I.fresh
 have hK:X.K.lookup s.heap.objs.size=none:=by
  cases e:X.K.lookup s.heap.objs.size with
  | none=>rfl
  | some o=>exact absurd (Heap.lt_size (I.kIn _ o e)) (Nat.lt_irrefl _)
 have I1:=I.laid (a:=s.heap.objs.size) (o:=.dK []) (h':=s.heap.push { cls:=.type "dict",data:=.dict #[] }) (t':=s.toks) (λ_ _ q=>qps _ q) (qlr _)
  ⟨Nat.zero_le _,beq_eq_false_iff_ne.mpr (Ne.symm (Nat.ne_of_lt (ya0 I))),[],.nil,Heap.DictOf.new s.heap⟩
 refine wpAny_Dict_walk (knd:=zc0 X.prog X.w) rfl rfl (by simp) (by simp) ?_
 refine pairTrees_cons_walk (wpAny_Constant_int ?_)
 refine thn (he pins _ σ _ _ (I1.tok _) (q _ hn hK)) λu s2 ⟨x,H2,I2,rx,hp,qq⟩=>?_
 refine pairTrees_nil_walk ?_
 obtain ⟨_,hd,vs0,r0,dd⟩:=I2.hok s.heap.objs.size _ hp
 cases r0
 refine ⟨[(Sum.inl i,u)],⟨zob X.prog X.w i _,rfl,trivial⟩,dd,λh' dd' hs=>?_⟩
 obtain ⟨o,es,ep,ho,hr⟩:=id dd'
 have I3:=I2.write (x:=s.heap.objs.size) (e:=s.heap.objs.size) (o:=.dK [(Sum.inl i,x)]) (h':=h') (t':=s2.toks+1) (by rw [hp];exact trivial) (.inl rfl) (λb o hb e=>hs.extBut b o hb e) ⟨o,ho⟩
  ⟨by show 1<=sizeLine;decide,hd,[(Sum.inl i,u)],.cons ⟨rfl,rx⟩ .nil,dd'⟩
 exact ⟨.ref s.heap.objs.size,_,I3,rfl,qq⟩
noncomputable def zkz (i:Int) (mv:EM):EM:=λl S=>(mv l S).bind λq=>some (.ref q.2.length,q.2++[.dct [(Sum.inl i,q.1)]])
theorem yea {i:Int}{j:Nat}{p0:Pos}{ve:Expr}{mv:EM}(hv:PE3 X ve mv):PE3 X (.Dict [some (.Constant (.int i) j p0)] [ve] pos) (zkz i mv):=PE.imp (yd9 hv) λσ H Q hx1_=>by
 obtain ⟨ρ,l,S,v,S',sim,ro,hm,p⟩:=hx1_
 obtain ⟨⟨y,S2⟩,q2,hm⟩:=bnd hm
 cases hm
 intro D hD hK
 have hn0:=sim.notin hD hK
 refine ⟨ρ,l,S,y,S2,sim.laid hD,ro.mono (zcc hD),q2,λρ2 H2 y' e2 s2 r2=>?_⟩
 obtain ⟨hD2,hn2⟩:=e2.out D _ zbw hn0
 have e12:=(zcc hD).trans e2
 refine ⟨hD2,p (ρ2++[D]) _ (.ref D) ((e12.besideG hD hD2 (zi6 _)).adopt hD) ((s2.besideG hD2 (zi6 _) hn2).adoptG ⟨[y'],by rw [zbw];rfl,.cons (r2.mono0 (zea hD2 (zi6 _))) .nil⟩ hn2) (.ref ?_)⟩
 rw [<-s2.len];exact zd0 ρ2 D
end
noncomputable def zX (g:GM) (b:SM) (rb:ZM):List D->ZM
 | [],_,_=>none
 | x :: xs,l,S=>(g x l S).bind λp=>match rb p.1 p.2 with
  | some z=>some z
  | none=>(b p.1 p.2).bind λq=>match q.1 with
   | .nx=>zX g b rb xs q.2.1 q.2.2
   | .ct=>zX g b rb xs q.2.1 q.2.2
   | _=>none
noncomputable def zjg (m:EM) (g:GM) (b:SM) (rb:ZM):ZM:=λl S=>(m l S).bind λp=>match p.1 with
 | .tup xs=>zX g b rb xs l p.2
 | _=>none
section
variable {X:Cx}{E:XK}{CA:Str->Addr}{tgt iter:Expr}{body:List Stmt}{g:GM}{b:SM}{rb:ZM}{m:EM}{pos:Pos}
theorem yeb (hp:PassesOwn (model X.prog X.w) X.A X.env X.xe) (hc:X.calm=true) (hi:PE3 X iter m) (hg:PG3 X tgt g) (hb:zcn X body b) (hz:zgh X E CA body rb)
  (hs:∀x,foldedSetIterable iter X.env x=pure x:=by intro _;rfl):PSz X E CA (.For tgt iter body [] pos) (zjg m g b rb):=by
 have hb':PSs X body (λD σ H=>ts X.K b D σ H\/Rz X.K E CA rb σ H):=λpins s σ H D I h=>h.elim (hb pins s σ H D I) (hz pins s σ H D I)
 refine λpins s σ H D I ⟨ρ,l,S,C,S',sim,ro,hm,p⟩=>zid hp hc (zll hi) hg hb' hs pins s σ H D I ?_
 obtain ⟨⟨x,S1⟩,q1,hm⟩:=bnd hm
 dsimp only at hm
 split at hm
 ·rename_i xs
  refine ⟨ρ,l,S,.tup xs,S1,sim,ro,q1,λρ1 H1 x' e1 s1 r1=>?_⟩
  cases r1 with
  | @tup xs a vs ha r =>
   refine ⟨a,rfl,⟨vs,SqT.of ha⟩,λi k σ1 H2=>k=xs.length-i/\i<=xs.length/\∃ρ2 l2 S2,Ext ρ H ρ2 H2/\(H2 a=some (.tup vs)/\RDs ρ2 H2 xs vs)/\Sim X.K ρ2 S2 H2/\RO ρ2 H2 l2 σ1/\zX g b rb (xs.drop i) l2 S2=some (C,S'),⟨xs.length,by simp,Nat.zero_le _,ρ1,l,S1,e1,⟨ha,r⟩,s1,ro.mono e1,hm⟩,?_⟩
   rintro i k σ1 H2 ⟨rfl,hi,ρ2,l2,S2,e2,⟨ha2,rv2⟩,s2,ro2,hm2⟩
   by_cases hlt:i<xs.length
   ·have hx:xs[i]? = some xs[i]:=qge hlt
    obtain ⟨v,hvi,rv⟩:=rv2.get hx
    rw [List.drop_eq_getElem_cons hlt] at hm2
    refine .inr ⟨⟨vs,v,SqT.of ha2,hvi⟩,_,λσ' H' h=>h,λy H' hyl=>?_⟩
    obtain ⟨e,hy2⟩:=hyl
    subst e
    have hy3:=hy2 vs (SqT.of ha2)
    rw [hvi] at hy3;cases hy3
    obtain ⟨⟨l3,S3⟩,q3,hm2⟩:=bnd hm2
    refine ⟨ρ2,l2,S2,xs[i],l3,S3,s2,ro2,rv,q3,λρ3 H3 σ3 e3 s3 r3=>?_⟩
    dsimp only at hm2
    cases er:rb l3 S3 with
    | some z =>
     rw [er] at hm2;cases hm2
     exact .inr ⟨ρ3,l3,S3,C,S',s3,r3,er,λρ4 H4 e4 s4=>p ρ4 H4 ((e2.trans e3).trans e4) s4⟩
    | none =>
     rw [er] at hm2
     obtain ⟨⟨fl,l4,S4⟩,q4,hm2⟩:=bnd hm2
     refine .inl ⟨ρ3,l3,S3,fl,l4,S4,s3,r3,q4,λρ4 H4 σ4 e4 s4 r4=>?_⟩
     have nx:zX g b rb (xs.drop (i+1)) l4 S4=some (C,S')->∃m',m' < xs.length-i/\m' = xs.length-(i+1)/\i+1<=xs.length/\∃ρ2 l2 S2,Ext ρ H ρ2 H4/\(H4 a=some (.tup vs)/\RDs ρ2 H4 xs vs)/\Sim X.K ρ2 S2 H4/\RO ρ2 H4 l2 σ4/\zX g b rb (xs.drop (i+1)) l2 S2=some (C,S'):=λh =>
      ⟨_,by omega,rfl,hlt,ρ4,l4,S4,(e2.trans e3).trans e4,⟨e4.tup _ _ (e3.tup _ _ ha2),(rv2.mono e3).mono e4⟩,s4,r4,h⟩
     cases fl with
     | nx=>exact nx hm2
     | ct=>exact nx hm2
     | bk=>cases hm2
     | rt d=>cases hm2
   ·have hil:i=xs.length:=by omega
    subst hil
    rw [List.drop_length] at hm2
    cases hm2
 ·cases hm
end
noncomputable def zgo:FM
 | [.ref n],S=>match S[n]? with
  | some (.lst xs)=>(zcx xs).bind λns=>if ns.length+1<scanBound then some (.ref S.length,S++[.iset (λk=>(dis ns ns.length).any (· == k)) (dis ns ns.length).length]) else none
  | _=>none
 | _,_=>none
def rSetL:List V->Hp->VK->Prop:=λxs H Q=>∃(a:Addr) (ns:List Int),xs=[.ref a]/\H a=some (.lst (ns.map V.int))/\ns.length+1<scanBound/\∀l,H l=none->Q (.ref l) (upd H l (.set (λk=>(dis ns ns.length).any (· == k)) (dis ns ns.length).length))
section
variable {X:Cx}{K:QFg}{a:Expr}{es:List Expr}{mA:AM}{pos p:Pos}{k:Nat}
theorem yec (hr:Room k X.A):CallR X (.type "set") rSetL:=by
 intro pins s σ H xs us Q I r h
 obtain ⟨b,ns,rfl,hH,hb,q⟩:=h
 obtain ⟨u,rfl,ru⟩:=zdq r
 cases ru
 obtain ⟨_,its,n,rv,hlen,e⟩:=I.lstM hH
 have hl:its.toArray.size=ns.length:=by have:=rv.length;simp at this;simp;omega
 refine call_set_list (items:=its.toArray) (ns:=ns) hr.hd ⟨_,e,rfl,n,rfl⟩ (by simpa using zry rv) (by rw [hl];exact hb) λh' tk hS hk=>?_
 rw [hl] at hS
 exact ⟨.ref s.heap.objs.size,_,I.laid (o:=.set _ _) (λb o e=>hk b o (Heap.lt_size e) e) (qlr _) hS,rfl,q _ I.fresh⟩
theorem yed:Fn3 K zgo rSetL:=by
 intro ρ S H xs vs v S' Q sim r h p
 unfold zgo at h
 split at h
 ·split at h
  ·rename_i n S ys ey
   obtain ⟨ns,h1,h⟩:=bnd h
   obtain ⟨hz,e⟩:=za7 h
   cases e
   obtain ⟨w,rfl,rw'⟩:=r.one
   cases rw' with
   | ref hn =>
    obtain ⟨a',us,ha',hH,r2⟩:=sim.lst ey
    rw [ha'] at hn;cases hn
    have:=zi9 h1 r2
    subst this
    exact ⟨_,ns,rfl,hH,hz,λl hl=>p (ρ++[l]) _ _ (zj6 hl) (sim.pushG hl zbw) (.ref (by rw [<-sim.len];exact zd0 ρ l))⟩
  ·cases h
 ·cases h
theorem yee (hr:Room k X.A) (hg:Gl X "set") (hm:X.mg "set" = none) (ha:PA3 X (a :: es) mA) (he:starEach (a :: es) X.env=(false,eval a X.env) :: starEach es X.env:=by rfl) (hpl:(backTo pos (starEach es X.env)).any (·.1)=false:=by rfl):PE3 X (.Call (.Name "set" p) (a :: es) [] pos) (zaf zgo mA) :=
 zlx (yec hr) yed hg hm yd6 ha (by decide) (by decide) he hpl
end
noncomputable def zfn:FM
 | [.ref n],S=>match S[n]? with
  | some (.dct kvs)=>some (.int kvs.length,S)
  | _=>none
 | _,_=>none
section
variable {X:Cx}{K:QFg}{a:Expr}{es:List Expr}{mA:AM}{pos p:Pos}
theorem yef:Fn3 K zfn (λxs H Q=>∃a kvs,xs=[V.ref a]/\H a=some (.dK kvs)/\Q (.int kvs.length) H):=by
 intro ρ S H xs vs v S' Q sim r h p
 unfold zfn at h
 split at h
 ·split at h
  ·rename_i n S kvs ey
   cases h
   obtain ⟨w,rfl,rw'⟩:=r.one
   cases rw' with
   | @ref _ a' hn =>
    obtain ⟨us,hH,r2⟩:=sim.at' _ a' _ hn ey
    refine ⟨a',_,rfl,hH,?_⟩
    have e:((kvs.map (·.1)).zip us).length=kvs.length:=by
     rw [List.length_zip,qlm];have:=r2.length;rw [qlm] at this;omega
    rw [e]
    exact p ρ H _ (Ext.refl ..) sim (.int _)
  ·cases h
 ·cases h
theorem zr0 (hg:Gl X "len") (hm:X.mg "len" = none) (ha:PA3 X (a :: es) mA) (he:starEach (a :: es) X.env=(false,eval a X.env) :: starEach es X.env:=by rfl) (hpl:(backTo pos (starEach es X.env)).any (·.1)=false:=by rfl):PE3 X (.Call (.Name "len" p) (a :: es) [] pos) (zaf zfn mA) :=
 zg1 zyt yef hg hm PySem.boot_len ha (by decide) (by decide) he hpl
end
theorem zbr {α:Type}{x:α}{p:α->Prop}:(∃d,(some (some x):Option (Option α))=some (some d)/\p d)=p x:=by
 apply propext;constructor
 ·rintro ⟨d,h,q⟩;cases h;exact q
 ·exact λq=>⟨x,rfl,q⟩
theorem zck {α:Type}{x:α}{p:α->Prop}:(∃d,(some x:Option α)=some d/\p d)=p x:=by
 apply propext;constructor
 ·rintro ⟨d,h,q⟩;cases h;exact q
 ·exact λq=>⟨x,rfl,q⟩
theorem zcl {b:Bool}{p:Bool->Prop}:(∃k,D.bl b=D.bl k/\p k)=p b:=by
 apply propext;constructor
 ·rintro ⟨d,h,q⟩;cases h;exact q
 ·exact λq=>⟨b,rfl,q⟩
theorem zhn {α:Type}{x y:α}:L2.atI [x,y] 0=some x:=rfl
theorem zgp {α:Type}{x y:α}:L2.atI [x,y] 1=some y:=rfl
theorem zho {α:Type}{x y z:α}:L2.atI [x,y,z] 0=some x:=rfl
theorem zhp {α:Type}{x y z:α}:L2.atI [x,y,z] 1=some y:=rfl
theorem zhq {α:Type}{x y z:α}:L2.atI [x,y,z] 2=some z:=rfl
theorem zc9 {S:Sto}{xs:List D}:lstOf (S++[.lst xs]) S.length=some xs:=by unfold lstOf;rw [zd0]
theorem yeg {α:Type}(l:List α) (x y:α):(l++[x]).set l.length y=l++[y]:=by
 induction l with
 | nil=>rfl
 | cons z r ih=>show z :: (r++[x]).set r.length y=_;rw [ih];rfl
theorem yeh {α:Type}(xs:List α) (i:Int) (h0:0<=i) (h1:i<xs.length):∃x,L2.atI xs i=some x/\x∈xs:=by
 have hl:i.toNat<xs.length:=by omega
 refine ⟨xs[i.toNat],?_,qem hl⟩
 unfold L2.atI L2.ixN
 rw [if_pos h0,if_pos h1]
 simp [hl]
theorem atI_get {α:Type}{xs:List α}{i:Nat}{x:α}(h:xs[i]? = some x):L2.atI xs (i:Int)=some x:=by
 have hl:=(qme h).1
 unfold L2.atI L2.ixN
 rw [if_pos (by omega),if_pos (by omega)]
 simpa using h
section
variable {S:Sto}{Q:D->Sto->Prop}{l:Lo}{QG:Lo->Sto->Prop}
theorem zhr {i j:Int}:Wo (zez (.int i) (.int j) S) Q=(((-(2 ^ 64)<i/\i<2 ^ 64)\/(-(2 ^ 64)<j/\j<2 ^ 64))/\Q (.int (i*j)) S):=zee
theorem ze6 {xs:List D}{i:Int}:Wo (zal (.tup xs) (.int i) S) Q = ∃v,L2.atI xs i=some v/\Q v S:=by
 have e:zal (.tup xs) (.int i) S=dIx (.tup xs) (.int i) S:=by
  unfold zal
  cases h:dIx (.tup xs) (.int i) S with
  | some v=>rfl
  | none=>rfl
 rw [e,zf8]
theorem zd6 {k:Nat}{i:Int}:Wo (zal (.ref k) (.int i) S) Q = ∃xs,lstOf S k=some xs/\∃v,L2.atI xs i=some v/\Q v S:=by
 have e:zal (.ref k) (.int i) S=dIx (.ref k) (.int i) S:=by
  unfold zal
  cases h:dIx (.ref k) (.int i) S with
  | some v=>rfl
  | none=>rfl
 rw [e,zf9]
theorem ze7 {k:Nat}:Wo (za5 [.ref k] S) Q = ∃xs,lstOf S k=some xs/\Q (.int xs.length) S:=zgb
theorem zhs {xs:List D}:Wo (za5 [.tup xs] S) Q=Q (.int xs.length) S:=zga
theorem zht {i j:Bool}:Wo (dNe (.bl i) (.bl j) S) Q=Q (.bl (!decide (i=j))) S:=za9
theorem zhu {i j:Int}:Wo (dNe (.int i) (.int j) S) Q=Q (.bl (!decide (i=j))) S:=za9
theorem yei {n m:Nat}{xs:List D}(h1:S[n]? = some (.lst xs)) (h2:S[m]? = some (.lst [])):Wo (zi4 (.ref n) (.ref m) S) Q=Q (.bl (!xs.isEmpty)) S:=by
 show Wo (match S[n]?,S[m]? with|some (.lst xs),some (.lst [])=>some (.bl (!xs.isEmpty),S)|_,_=>none) Q=_
 rw [h1,h2];exact za9
end
def Gr (S0 S:Sto):Prop:=∃ex,S=S0++ex
theorem Gr.refl (S:Sto):Gr S S:=⟨[],by rw [List.append_nil]⟩
theorem Gr.trans {A B C:Sto}(h:Gr A B) (g:Gr B C):Gr A C:=by obtain ⟨x,rfl⟩:=h;obtain ⟨y,rfl⟩:=g;exact ⟨x++y,by rw [List.append_assoc]⟩
theorem Gr.push {A B:Sto}(h:Gr A B) (o:Ob):Gr A (B++[o]):=h.trans ⟨[o],rfl⟩
theorem Gr.get {A B:Sto}{n:Nat}{o:Ob}(h:Gr A B) (e:A[n]? = some o):B[n]? = some o:=by
 obtain ⟨x,rfl⟩:=h
 rw [List.getElem?_append_left (qme e).1];exact e
theorem Gr.lst {A B:Sto}{n:Nat}{xs:List D}(h:Gr A B) (e:lstOf A n=some xs):lstOf B n=some xs:=by
 unfold lstOf at e ⊢
 cases q:A[n]? with
 | none=>rw [q] at e;cases e
 | some o=>rw [h.get q];rw [q] at e;exact e
section
variable {it:ItM}{im:IM}{ixs:List (Option Nat)}{g:GM}{t:TM}{e:EM}{l:Lo}{S S1:Sto}{Q:D->Sto->Prop}{k:Nat}
theorem zmy (xs:List D) (R:Nat->List D->Lo->Sto->Prop) (hit:∀i acc l S,R i acc l S->it i S=some xs[i]?)
  (step:∀(i:Nat) x acc l S,xs[i]? = some x->R i acc l S->Wg (g x l S) λl1 S1=>Wt t l1 S1 λb S2=>if b=true then We e l1 S2 λv S3=>R (i+1) (acc++[v]) l1 S3 else R (i+1) acc l1 S2) :
  ∀(n i:Nat) (acc:List D) (l:Lo) (S:Sto),n+i=xs.length->R i acc l S->∃rest S' l',zdv it g t e (n+1) i l S=some (rest,S')/\R xs.length (acc++rest) l' S'
 | 0,i,acc,l,S,hn,h=>by
  have hi:i=xs.length:=by omega
  have e0:=hit i acc l S h
  rw [List.getElem?_eq_none_iff.mpr (by omega)] at e0
  refine ⟨[],S,l,?_,by rw [List.append_nil,<-hi];exact h⟩
  unfold zdv;rw [e0];rfl
 | n+1,i,acc,l,S,hn,h=>by
  have hi:i<xs.length:=by omega
  have e0:=hit i acc l S h
  rw [qge hi] at e0
  obtain ⟨l1,S1,e1,b,S2,e2,q⟩:=step i _ acc l S (qge hi) h
  cases b with
  | true =>
   obtain ⟨v,S3,e3,q⟩:=q
   obtain ⟨rest,S',l',e4,q⟩:=zmy xs R hit step n (i+1) (acc++[v]) l1 S3 (by omega) q
   refine ⟨v :: rest,S',l',?_,by rw [List.append_assoc] at q;exact q⟩
   unfold zdv;rw [e0];show (g _ l S).bind _=_;rw [e1];show (t l1 S1).bind _=_;rw [e2]
   show (e l1 S2).bind _=_;rw [e3];show (zdv it g t e (n+1) (i+1) l1 S3).bind _=_;rw [e4];rfl
  | false =>
   obtain ⟨rest,S',l',e4,q⟩:=zmy xs R hit step n (i+1) acc l1 S2 (by omega) q
   refine ⟨rest,S',l',?_,q⟩
   unfold zdv;rw [e0];show (g _ l S).bind _=_;rw [e1];show (t l1 S1).bind _=_;rw [e2]
   exact e4
theorem zmz (xs:List D) (R:Nat->List D->Lo->Sto->Prop) (him:im l S=some (it,xs.length+1,S1)) (h0:R 0 [] (zbn ixs l) S1) (hit:∀i acc l S,R i acc l S->it i S=some xs[i]?)
  (step:∀(i:Nat) x acc l S,xs[i]? = some x->R i acc l S->Wg (g x l S) λl1 S1=>Wt t l1 S1 λb S2=>if b=true then We e l1 S2 λv S3=>R (i+1) (acc++[v]) l1 S3 else R (i+1) acc l1 S2)
  (fin:∀acc l' S',R xs.length acc l' S'->acc.length<=sizeLine/\Q (.ref S'.length) (S'++[.lst acc])):We (zcq im ixs g t e) l S Q:=by
 obtain ⟨rest,S',l',h1,h2⟩:=zmy (it:=it) (g:=g) (t:=t) (e:=e) xs R hit step xs.length 0 [] (zbn ixs l) S1 rfl h0
 obtain ⟨hz,q⟩:=fin rest l' S' h2
 refine ⟨_,_,?_,q⟩
 unfold zcq;rw [him];show (zdv it g t e (xs.length+1) 0 (zbn ixs l) S1).bind _=_;rw [h1];show (if _ then _ else _)=_;rw [if_pos hz]
theorem zjh (xs:List D) (F:D->D) (P:Sto->Prop) (L:Lo->Prop) (him:im l S=some (it,xs.length+1,S1)) (h0:P S1) (l0:L (zbn ixs l)) (hit:∀i S,P S->it i S=some xs[i]?) (hz:xs.length<=sizeLine)
  (step:∀x l S,x∈xs->L l->P S->Wg (g x l S) λl1 S2=>P S2/\L l1/\We e l1 S2 λv S3=>v=F x/\P S3)
  (fin:∀S',P S'->Q (.ref S'.length) (S'++[.lst (xs.map F)])):We (zcq im ixs g zd3 e) l S Q:=by
 refine zmz xs (λi acc l S=>acc=(xs.take i).map F/\L l/\P S) him ⟨rfl,l0,h0⟩ (λi acc l S h=>hit i S h.2.2) ?_ ?_
 ·rintro i x acc l S hx ⟨rfl,hl,hp⟩
  obtain ⟨l1,S2,e1,p1,q1,v,S3,e2,rfl,p3⟩:=step x l S (qmg hx) hl hp
  refine ⟨l1,S2,e1,?_⟩
  dsimp only
  rw [zqj,if_pos rfl]
  refine ⟨_,S3,e2,?_,q1,p3⟩
  rw [List.take_add_one,hx];simp
 ·rintro acc l' S' ⟨rfl,hl,hp⟩
  rw [List.take_length]
  exact ⟨by rw [qlm];exact hz,fin S' hp⟩
theorem yej (xs:List D) (F:D->Option D) (P:Sto->Prop) (L:Lo->Prop) (him:im l S=some (it,xs.length+1,S1)) (h0:P S1) (l0:L (zbn ixs l)) (hit:∀i S,P S->it i S=some xs[i]?) (hz:xs.length<=sizeLine)
  (step:∀x l S,x∈xs->L l->P S->Wg (g x l S) λl1 S2=>L l1/\Wt t l1 S2 λb S3=>P S3/\(b=false->F x=none)/\(b=true->We e l1 S3 λv S4=>F x=some v/\P S4))
  (fin:∀S',P S'->Q (.ref S'.length) (S'++[.lst (xs.filterMap F)])):We (zcq im ixs g t e) l S Q:=by
 refine zmz xs (λi acc l S=>acc=(xs.take i).filterMap F/\L l/\P S) him ⟨rfl,l0,h0⟩ (λi acc l S h=>hit i S h.2.2) ?_ ?_
 ·rintro i x acc l S hx ⟨rfl,hl,hp⟩
  obtain ⟨l1,S2,e1,q1,b,S3,e2,p3,hf,ht⟩:=step x l S (qmg hx) hl hp
  refine ⟨l1,S2,e1,b,S3,e2,?_⟩
  have et:xs.take (i+1)=xs.take i++[x]:=by rw [List.take_add_one,hx];rfl
  cases b with
  | true =>
   obtain ⟨v,S4,e4,hv,p4⟩:=ht rfl
   dsimp only
   rw [if_pos rfl]
   refine ⟨v,S4,e4,?_,q1,p4⟩
   rw [et,List.filterMap_append];simp [hv]
  | false =>
   dsimp only
   rw [if_neg Bool.false_ne_true]
   refine ⟨?_,q1,p3⟩
   rw [et,List.filterMap_append];simp [hf rfl]
 ·rintro acc l' S' ⟨rfl,hl,hp⟩
  rw [List.take_length]
  exact ⟨Nat.le_trans (List.length_filterMap_le _ _) hz,fin S' hp⟩
end
theorem zr1 {as:AM}{l:Lo}{S S1:Sto}{j:Int}(h:as l S=some ([.int j],S1)) (hz:-(2 ^ 62)<=j/\j<2 ^ 62):zbx as l S=some ((0,j.toNat),S1):=by
 unfold zbx;rw [h];simp only [Option.bind_some];rw [if_pos hz]
theorem zk0 {as:AM}{l:Lo}{S S1:Sto}{n:Nat}(h:as l S=some ([.int (n:Int)],S1)) (hn:n<1000000000):zew (zbx as) l S=some (itX (za3 0 n),(za3 0 n).length+1,S1):=by
 have:=zr1 h ⟨by omega,by omega⟩
 unfold zew;rw [this];simp only [Option.bind_some,Int.toNat_natCast,zfi]
noncomputable def enl (xs:List D):List D:=xs.mapIdx λi x=>.tup [.int i,x]
theorem zji (xs:List D):(enl xs).length=xs.length:=by simp [enl]
theorem zm0 (xs:List D) (i:Nat):(enl xs)[i]? = (xs[i]?).map λx=>.tup [.int i,x]:=by simp [enl,List.getElem?_mapIdx]
theorem zr2 {xs:List D}{i:Nat}{S:Sto}:itN (itX xs) i S=some (enl xs)[i]?:=by
 rw [zm0];rfl
theorem zr3 {as:AM}{l:Lo}{S S1:Sto}{xs:List D}(h:as l S=some ([.tup xs],S1)):zi7 as l S=some (itN (itX xs),(enl xs).length+1,S1):=by
 unfold zi7;rw [h,zji];rfl
theorem yek {e:EM}{l:Lo}{S S1:Sto}{xs:List D}(h:e l S=some (.tup xs,S1)):zec e l S=some (itX xs,xs.length+1,S1):=by
 unfold zec;rw [h];rfl
theorem zr4 {e:EM}{l:Lo}{S S1:Sto}{n:Nat}{xs:List D}(h:e l S=some (.ref n,S1)) (hn:lstOf S1 n=some xs):zec e l S=some (itL n,xs.length+1,S1):=by
 unfold zec;rw [h];show (lstOf S1 n).bind _=_;rw [hn];rfl
theorem zr5 {n i:Nat}{S:Sto}{xs:List D}(hn:lstOf S n=some xs):itL n i S=some xs[i]?:=by unfold itL;rw [hn];rfl
section
variable {g:GM}{b:SM}
theorem zk1 (P:Nat->Lo->Sto->Prop) (O:D->Sto->Prop):∀(xs:List D) (k:Nat) (l:Lo) (S:Sto),P k l S ->
  (∀(i:Nat) x l S,xs[i]? = some x->P (k+i) l S->Wg (g x l S) λl1 S1=>Ws b l1 S1 λf l2 S2=>((f=.nx\/f=.ct)/\P (k+i+1) l2 S2)\/∃d,f=.rt d/\O d S2) ->
  Wr (zcd g b xs l S) λf l' S'=>(f=.nx/\P (k+xs.length) l' S')\/∃d,f=.rt d/\O d S'
 | [],k,l,S,h0,_=>⟨_,_,_,rfl,.inl ⟨rfl,h0⟩⟩
 | x :: xs,k,l,S,h0,hs=>by
  obtain ⟨l1,S1,e1,f,l2,S2,e2,q⟩:=hs 0 x l S rfl h0
  rcases q with ⟨hf,h1⟩|⟨d,rfl,hd⟩
  ·have ih:=zk1 P O xs (k+1) l2 S2 h1 λi y l S hy hp=>by
    have:=hs (i+1) y l S (by simpa using hy) (by rw [show k+(i+1)=k+1+i by omega];exact hp)
    rw [show k+(i+1)+1=k+1+i+1 by omega] at this
    exact this
   obtain ⟨f',l',S',e3,q1⟩:=ih
   refine ⟨f',l',S',?_,by rw [List.length_cons,show k+(xs.length+1)=k+1+xs.length by omega];exact q1⟩
   unfold zcd
   rw [e1];show (b l1 S1).bind _=_;rw [e2]
   rcases hf with rfl|rfl <;> exact e3
  ·refine ⟨_,l2,S2,?_,.inr ⟨d,rfl,hd⟩⟩
   unfold zcd
   rw [e1];show (b l1 S1).bind _=_;rw [e2];rfl
theorem zjj (P:Nat->Lo->Sto->Prop) (O:D->Sto->Prop) {as:AM}{l:Lo}{S S1:Sto}{n:Nat}{QS:Fl->Lo->Sto->Prop}(h:as l S=some ([.int (n:Int)],S1)) (hn:n<1000000000) (h0:P 0 l S1)
  (step:∀(i:Nat) l S,i<n->P i l S->Wg (g (.int i) l S) λl1 S1=>Ws b l1 S1 λf l2 S2=>((f=.nx\/f=.ct)/\P (i+1) l2 S2)\/∃d,f=.rt d/\O d S2)
  (fin:∀l' S',P n l' S'->QS .nx l' S') (out:∀d l' S',O d S'->QS (.rt d) l' S'):Ws (zdi (zbx as) g b) l S QS:=by
 rw [zzz]
 refine ⟨_,_,h,(n:Int),rfl,⟨by omega,by omega⟩,?_⟩
 rw [Int.toNat_natCast]
 refine (zk1 P O (za3 0 n) 0 l S1 h0 ?_).mono ?_
 ·intro i x l S hx hp
  obtain ⟨hi,rfl⟩:=zql hx
  rw [Nat.zero_add] at hp
  have:=step i l S hi hp
  rw [Int.zero_add,Nat.zero_add]
  exact this
 ·rintro f l' S' (⟨rfl,hp⟩|⟨d,rfl,hd⟩)
  ·rw [zfi,Nat.zero_add] at hp;exact fin l' S' hp
  ·exact out d l' S' hd
end
section
variable {S:Sto}{Q:D->Sto->Prop}{l:Lo}
theorem zeg {i j:Int}:Wo (za6 (.int i) (.int j) S) Q=Q (.int (i+j)) S:=za9
theorem zgq {xs ys:List D}:Wo (za6 (.tup xs) (.tup ys) S) Q=(xs.length+ys.length<=sizeLine/\Q (.tup (xs++ys)) S):=zee
theorem zgr {n m:Nat}{xs ys:List D}(h1:S[n]? = some (.lst xs)) (h2:S[m]? = some (.lst ys)):Wo (za6 (.ref n) (.ref m) S) Q=(xs.length+ys.length<=sizeLine/\Q (.ref S.length) (S++[.lst (xs++ys)])):=by
 show Wo (match S[n]?,S[m]? with|some (.lst xs),some (.lst ys)=>if xs.length+ys.length<=sizeLine then some (.ref S.length,S++[.lst (xs++ys)]) else none|_,_=>none) Q=_
 rw [h1,h2];exact zee
theorem zgs {k:Bool}:Wo (zi8 [.bl k] S) Q=Q (.int (if k then 1 else 0)) S:=za9
def Wp (o:OM) (l:Lo) (S:Sto) (Q:Option Int->Sto->Prop):Prop:=∃v S',o l S=some (v,S')/\Q v S'
theorem zfo {Q:Option Int->Sto->Prop}:Wp zdf l S Q=Q none S:=by
 apply propext
 exact ⟨λhx1_=>by obtain ⟨v,S',h,q⟩:=hx1_;cases h;exact q,λq=>⟨_,_,rfl,q⟩⟩
theorem zfp {e:EM}{Q:Option Int->Sto->Prop}:Wp (zc2 e) l S Q=We e l S λx S1=>∃i,x=.int i/\Q (some i) S1:=by
 apply propext
 constructor
 ·rintro ⟨v,S',h,q⟩
  obtain ⟨⟨x,S1⟩,h1,h⟩:=bnd h
  refine ⟨x,S1,h1,?_⟩
  cases x with
  | int i=>cases h;exact ⟨i,rfl,q⟩
  | _=>cases h
 ·rintro ⟨x,S1,h1,i,rfl,q⟩
  exact ⟨_,S1,by unfold zc2;rw [h1];rfl,q⟩
theorem zfq {b:Int}{p:Int->Prop}:(∃k,D.int b=D.int k/\p k)=p b:=by
 apply propext;constructor
 ·rintro ⟨d,h,q⟩;cases h;exact q
 ·exact λq=>⟨b,rfl,q⟩
noncomputable def slA (x:D) (a b:Option Int) (S:Sto):Option (D × Sto):=match x with
 | .tup xs=>some (.tup (zby xs a b),S)
 | .ref n=>(lstOf S n).bind λxs=>some (.ref S.length,S++[.lst (zby xs a b)])
 | .str z=>if z.length<=sizeLine then some (.str (Txt.slice z a b),S) else none
 | _=>none
theorem zfr {m:EM}{lo hi:OM}:We (zc7 m lo hi) l S Q=We m l S λx S1=>Wp lo l S1 λa S2=>Wp hi l S2 λb S3=>Wo (slA x a b S3) Q:=by
 apply propext
 constructor
 ·rintro ⟨v,S',h,q⟩
  obtain ⟨⟨x,S1⟩,h1,h⟩:=bnd h
  obtain ⟨⟨a,S2⟩,h2,h⟩:=bnd h
  obtain ⟨⟨b,S3⟩,h3,h⟩:=bnd h
  exact ⟨x,S1,h1,a,S2,h2,b,S3,h3,v,S',h,q⟩
 ·rintro ⟨x,S1,h1,a,S2,h2,b,S3,h3,v,S',h,q⟩
  refine ⟨v,S',?_,q⟩
  unfold zc7;rw [h1];show (lo l S1).bind _=_;rw [h2];show (hi l S2).bind _=_;rw [h3];exact h
theorem zgt {xs:List D}{a b:Option Int}:Wo (slA (.tup xs) a b S) Q=Q (.tup (zby xs a b)) S:=za9
theorem yel {n:Nat}{xs:List D}{a b:Option Int}(h:lstOf S n=some xs):Wo (slA (.ref n) a b S) Q=Q (.ref S.length) (S++[.lst (zby xs a b)]):=by
 show Wo ((lstOf S n).bind λxs=>some (.ref S.length,S++[.lst (zby xs a b)])) Q=_
 rw [h];exact za9
theorem zm1 (xs:List D) (k:Nat):zby xs none (some (k:Int))=xs.take k:=by
 unfold zby;rw [HT.sIx_none,HT.sIx_nat,List.drop_zero,Nat.sub_zero]
 by_cases h:k<=xs.length
 ·rw [Nat.min_eq_left h]
 ·rw [Nat.min_eq_right (by omega),List.take_length,List.take_of_length_le (by omega)]
end
section
variable {it:ItM}{im:IM}{g:GM}{b:SM}
theorem zr6 (xs:List D) (P:Nat->Lo->Sto->Prop) (O:D->Sto->Prop) (hit:∀i l S,P i l S->it i S=some xs[i]?)
  (step:∀(i:Nat) x l S,xs[i]? = some x->P i l S->Wg (g x l S) λl1 S1=>Ws b l1 S1 λf l2 S2=>((f=.nx\/f=.ct)/\P (i+1) l2 S2)\/∃d,f=.rt d/\O d S2) :
  ∀(n i:Nat) (l:Lo) (S:Sto),n+i=xs.length->P i l S->Wr (zd5 it g b (n+1) i l S) λf l' S'=>(f=.nx/\P xs.length l' S')\/∃d,f=.rt d/\O d S'
 | 0,i,l,S,hn,h=>by
  have hi:i=xs.length:=by omega
  have e0:=hit i l S h
  rw [List.getElem?_eq_none_iff.mpr (by omega)] at e0
  refine ⟨.nx,l,S,?_,.inl ⟨rfl,by rw [<-hi];exact h⟩⟩
  unfold zd5;rw [e0];rfl
 | n+1,i,l,S,hn,h=>by
  have hi:i<xs.length:=by omega
  have e0:=hit i l S h
  rw [qge hi] at e0
  obtain ⟨l1,S1,e1,f,l2,S2,e2,q⟩:=step i _ l S (qge hi) h
  rcases q with ⟨hf,h1⟩|⟨d,rfl,hd⟩
  ·obtain ⟨f',l',S',e3,q1⟩:=zr6 xs P O hit step n (i+1) l2 S2 (by omega) h1
   refine ⟨f',l',S',?_,q1⟩
   unfold zd5;rw [e0];show (g _ l S).bind _=_;rw [e1];show (b l1 S1).bind _=_;rw [e2]
   rcases hf with rfl|rfl <;> exact e3
  ·refine ⟨_,l2,S2,?_,.inr ⟨d,rfl,hd⟩⟩
   unfold zd5;rw [e0];show (g _ l S).bind _=_;rw [e1];show (b l1 S1).bind _=_;rw [e2];rfl
theorem zm2 (xs:List D) (P:Nat->Lo->Sto->Prop) (O:D->Sto->Prop) {l:Lo}{S S1:Sto}{QS:Fl->Lo->Sto->Prop}(him:im l S=some (it,xs.length+1,S1)) (h0:P 0 l S1) (hit:∀i l S,P i l S->it i S=some xs[i]?)
  (step:∀(i:Nat) x l S,xs[i]? = some x->P i l S->Wg (g x l S) λl1 S1=>Ws b l1 S1 λf l2 S2=>((f=.nx\/f=.ct)/\P (i+1) l2 S2)\/∃d,f=.rt d/\O d S2)
  (fin:∀l' S',P xs.length l' S'->QS .nx l' S') (out:∀d l' S',O d S'->QS (.rt d) l' S'):Ws (zhg im g b) l S QS:=by
 obtain ⟨f,l',S',e,q⟩:=zr6 (it:=it) (g:=g) (b:=b) xs P O hit step xs.length 0 l S1 rfl h0
 refine ⟨f,l',S',by unfold zhg;rw [him];exact e,?_⟩
 rcases q with ⟨rfl,h⟩|⟨d,rfl,h⟩
 ·exact fin l' S' h
 ·exact out d l' S' h
theorem zk2 {e:EM}(xs:List D) (P:Nat->Lo->Sto->Prop) (O:D->Sto->Prop) {l:Lo}{S S1:Sto}{QS:Fl->Lo->Sto->Prop}(he:e l S=some (.tup xs,S1)) (h0:P 0 l S1)
  (step:∀(i:Nat) x l S,xs[i]? = some x->P i l S->Wg (g x l S) λl1 S1=>Ws b l1 S1 λf l2 S2=>((f=.nx\/f=.ct)/\P (i+1) l2 S2)\/∃d,f=.rt d/\O d S2)
  (fin:∀l' S',P xs.length l' S'->QS .nx l' S') (out:∀d l' S',O d S'->QS (.rt d) l' S'):Ws (zcp e g b) l S QS:=by
 rw [zqk]
 refine ⟨_,_,he,?_⟩
 refine (zk1 P O xs 0 l S1 h0 ?_).mono ?_
 ·intro i x l S hx hp
  rw [Nat.zero_add] at hp ⊢
  exact step i x l S hx hp
 ·rintro f l' S' (⟨rfl,hp⟩|⟨d,rfl,hd⟩)
  ·rw [Nat.zero_add] at hp;exact fin l' S' hp
  ·exact out d l' S' hd
theorem zr7 {n:Nat}(xs:List D) (P:Nat->Lo->Sto->Prop) (O:D->Sto->Prop) (hit:∀i l S,P i l S->lstOf S n=some xs)
  (step:∀(i:Nat) x l S,xs[i]? = some x->P i l S->Wg (g x l S) λl1 S1=>Ws b l1 S1 λf l2 S2=>((f=.nx\/f=.ct)/\P (i+1) l2 S2)\/∃d,f=.rt d/\O d S2) :
  ∀(k i:Nat) (l:Lo) (S:Sto),k+i=xs.length->P i l S->Wr (zdu g b n (k+1) i l S) λf l' S'=>(f=.nx/\P xs.length l' S')\/∃d,f=.rt d/\O d S'
 | 0,i,l,S,hn,h=>by
  have hi:i=xs.length:=by omega
  refine ⟨.nx,l,S,?_,.inl ⟨rfl,by rw [<-hi];exact h⟩⟩
  unfold zdu;rw [hit i l S h];simp only [Option.bind_some];rw [List.getElem?_eq_none_iff.mpr (by omega)]
 | k+1,i,l,S,hn,h=>by
  have hi:i<xs.length:=by omega
  obtain ⟨l1,S1,e1,f,l2,S2,e2,q⟩:=step i _ l S (qge hi) h
  rcases q with ⟨hf,h1⟩|⟨d,rfl,hd⟩
  ·obtain ⟨f',l',S',e3,q1⟩:=zr7 xs P O hit step k (i+1) l2 S2 (by omega) h1
   refine ⟨f',l',S',?_,q1⟩
   unfold zdu;rw [hit i l S h];simp only [Option.bind_some];rw [qge hi];show (g _ l S).bind _=_;rw [e1];show (b l1 S1).bind _=_;rw [e2]
   rcases hf with rfl|rfl <;> exact e3
  ·refine ⟨_,l2,S2,?_,.inr ⟨d,rfl,hd⟩⟩
   unfold zdu;rw [hit i l S h];simp only [Option.bind_some];rw [qge hi];show (g _ l S).bind _=_;rw [e1];show (b l1 S1).bind _=_;rw [e2];rfl
theorem zr8 {e:EM}{n:Nat}(xs:List D) (P:Nat->Lo->Sto->Prop) (O:D->Sto->Prop) {l:Lo}{S S1:Sto}{QS:Fl->Lo->Sto->Prop}(he:e l S=some (.ref n,S1)) (h0:P 0 l S1) (hit:∀i l S,P i l S->lstOf S n=some xs)
  (step:∀(i:Nat) x l S,xs[i]? = some x->P i l S->Wg (g x l S) λl1 S1=>Ws b l1 S1 λf l2 S2=>((f=.nx\/f=.ct)/\P (i+1) l2 S2)\/∃d,f=.rt d/\O d S2)
  (fin:∀l' S',P xs.length l' S'->QS .nx l' S') (out:∀d l' S',O d S'->QS (.rt d) l' S'):Ws (zcp e g b) l S QS:=by
 rw [zqk]
 refine ⟨_,_,he,?_⟩
 simp only
 rw [hit 0 l S1 h0];simp only [Option.bind_some]
 refine (zr7 xs P O hit step xs.length 0 l S1 rfl h0).mono ?_
 rintro f l' S' (⟨rfl,hp⟩|⟨d,rfl,hd⟩)
 ·exact fin l' S' hp
 ·exact out d l' S' hd
end
theorem zr9 (B:Nat):∀ts:List Str,(∀t∈ts,t.length<=B)->(ts.map (·.length)).sum<=B*ts.length
 | [],_=>Nat.zero_le _
 | t :: ts,h=>by
  have h1:=h t List.mem_cons_self
  have h2:=zr9 B ts λx hx=>h x (List.mem_cons_of_mem _ hx)
  simp only [List.map_cons,List.sum_cons,List.length_cons]
  rw [Nat.mul_add];omega
theorem yem (xs:List PyData):PyData.shownAll xs=xs.map PyData.shown:=by
 induction xs with
 | nil=>rfl
 | cons x xs ih=>unfold PyData.shownAll;rw [ih];rfl
theorem yen (B:Nat) (xs:List PyData) (h:∀x∈xs,x.shown.length<=B):(PyData.tuple xs).shown.length<=B*xs.length+2*xs.length+3:=by
 show (tupleText (PyData.shownAll xs)).length<=_
 rw [yem]
 have h1:=tupleText_len_le (xs.map PyData.shown)
 have h2:=zr9 B (xs.map PyData.shown) λt ht=>by
  obtain ⟨p,hp,rfl⟩:=List.mem_map.mp ht
  exact h p hp
 simp only [qlm] at h1 h2
 omega
def Sh (S:Sto) (k B:Nat) (d:D):Prop:=∃p:PyData,p.shown.length<=B/\∀S',Gr S S'->zau S' k d=some p
theorem Sh.le {S:Sto}{k B B':Nat}{d:D}(h:Sh S k B d) (hb:B<=B'):Sh S k B' d:=let ⟨p,h1,h2⟩:=h;⟨p,Nat.le_trans h1 hb,h2⟩
theorem zsa {S:Sto}{k B:Nat}:∀(xs:List D),(∀x∈xs,Sh S k B x)->∃ps:List PyData,ps.length=xs.length/\(∀p∈ps,p.shown.length<=B)/\∀S',Gr S S'->zbm S' k xs=some ps
 | [],_=>⟨[],rfl,(λp hp=>by cases hp),λex _=>by unfold zbm;rfl⟩
 | x :: xs,h=>by
  obtain ⟨p,h1,h2⟩:=h x List.mem_cons_self
  obtain ⟨ps,h3,h4,h5⟩:=zsa xs λy hy=>h y (List.mem_cons_of_mem _ hy)
  refine ⟨p :: ps,by simp [h3],λq hq=>?_,λex g=>?_⟩
  ·rcases List.mem_cons.mp hq with rfl|hq
   ·exact h1
   ·exact h4 q hq
  ·unfold zbm;rw [h2 ex g,h5 ex g];rfl
theorem zgu {S:Sto}{k B n:Nat}{xs:List D}(h:∀x∈xs,Sh S k B x) (hn:xs.length<=n):Sh S (k+1) (B*n+2*n+3) (.tup xs):=by
 obtain ⟨ps,h1,h2,h3⟩:=zsa xs h
 refine ⟨.tuple ps,?_,λex g=>?_⟩
 ·have:=yen B ps h2
  rw [h1] at this
  have h4:B*xs.length<=B*n:=Nat.mul_le_mul_left _ hn
  omega
 ·unfold zau;rw [h3 ex g];rfl
theorem zm3 {n:Nat}(h:n<1000000):((n:Nat):Int).natAbs.log2<1920:=by
 by_cases hz:n=0
 ·subst hz;decide
 ·have h1:((n:Nat):Int).natAbs=n:=by omega
  rw [h1]
  have h2:n.log2<20:=(Nat.log2_lt hz).mpr (Nat.lt_of_lt_of_le h (by decide))
  omega
theorem zm4 {S:Sto}{k n:Nat}(h:n<1000000):Sh S (k+1) 10 (.int n):=by
 refine ⟨.int n,?_,λex _=>by unfold zau;rw [if_pos (zm3 h)]⟩
 show (PySem.Str.ofString (toString (n:Int))).length<=10
 exact PySem.W.KT.len_num (by omega) (by omega)
theorem sh_non {S:Sto}{k:Nat}:Sh S (k+1) 10 .non:=⟨.none,by decide +kernel,λex _=>by unfold zau;rfl⟩
theorem yeo {S:Sto}{k B:Nat}{z:Str}(h:z.length<=B) (hc:∀c∈z.cps.toList,c<128):Sh S (k+1) (10*B+2) (.str z):=by
 refine ⟨.str z,?_,λex _=>by unfold zau;rfl⟩
 have:=StrLaws.reprText_len z λc hc'=>Nat.lt_of_lt_of_le (hc c hc') (by decide)
 show (PyData.str z).shown.length<=_;unfold PyData.shown
 omega
theorem zhv {S:Sto}{x:D}{p:PyData}{Q:D->Sto->Prop}(h:zau S 140 x=some p) (hz:p.shown.length<=sizeLine):Wo (zd4 [x] S) Q=Q (.str p.shown) S:=by
 rw [zz4,h]
 apply propext
 constructor
 ·rintro ⟨pd,e,_,q⟩;cases e;exact q
 ·intro q;exact ⟨p,rfl,hz,q⟩
section
variable {l:Lo}{S:Sto}{Q:D->Sto->Prop}{QG:Lo->Sto->Prop}{a b c:EM}
theorem zhw {x:Str}:We (zmx x) l S Q=Q (.ref S.length) (S++[.fnc x]):=by
 apply propext
 exact ⟨λhx1_=>by obtain ⟨v,S',h,q⟩:=hx1_;cases h;exact q,λq=>⟨_,_,rfl,q⟩⟩
theorem zhx {tab:List (Str × FM)}{as:AM}:We (zkx tab a as) l S Q=We a l S λv S1=>∃x,zhl S1 v=some x/\∃m,tab.lookup x=some m/\Wa as l S1 λys S2=>Wo (m ys S2) Q:=by
 apply propext
 constructor
 ·rintro ⟨v,S',h,q⟩
  obtain ⟨⟨x,S1⟩,h1,h⟩:=bnd h
  obtain ⟨n,h2,h⟩:=bnd h
  obtain ⟨m,h3,h⟩:=bnd h
  obtain ⟨⟨ys,S2⟩,h4,h⟩:=bnd h
  exact ⟨x,S1,h1,n,h2,m,h3,ys,S2,h4,v,S',h,q⟩
 ·rintro ⟨x,S1,h1,n,h2,m,h3,ys,S2,h4,v,S',h,q⟩
  refine ⟨v,S',?_,q⟩
  unfold zkx;rw [h1];show (zhl S1 x).bind _=_;rw [h2];show (tab.lookup n).bind _=_;rw [h3];show (as l S1).bind _=_;rw [h4];exact h
theorem zsb {x y:D}:Wo (zhk x y S) Q = ∃v,dRd S x y=some (some v)/\Q v S:=by
 unfold zhk
 rw [zed]
 apply propext
 constructor
 ·rintro ⟨o,h,q⟩
  rw [zed] at q
  obtain ⟨v,rfl,q⟩:=q
  rw [za9] at q
  exact ⟨v,h,q⟩
 ·rintro ⟨v,h,q⟩
  exact ⟨_,h,by rw [zed];exact ⟨v,rfl,by rw [za9];exact q⟩⟩
theorem yep {neg:Bool}{x y:D}:Wo (zjf neg y x S) Q = ∃o,dRd S x y=some o/\Q (.bl (if neg then !o.isSome else o.isSome)) S:=by
 unfold zjf
 rw [zed];simp only [za9]
theorem yeq {neg:Bool}{ds:List D}{n:Nat}{ks:List (List Int)}{k:List Int}(h:S[n]? = some (.tset ks)) (hk:zcx ds=some k):Wo (zgk neg (.tup ds) (.ref n) S) Q=Q (.bl (if neg then !decide (k∈ks) else decide (k∈ks))) S:=by
 have:zgk neg (.tup ds) (.ref n) S=some (.bl (if neg then !decide (k∈ks) else decide (k∈ks)),S):=by
  unfold zgk;dsimp only;rw [h];dsimp only;rw [hk];rfl
 rw [this];exact za9
theorem yer {ds:List D}{n:Nat}{ks:List (List Int)}{k:List Int}(h:S[n]? = some (.tset ks)) (hk:zcx ds=some k) (hz:ks.length<1000) (hn:k ∉ ks):Wo (zgj (.ref n) [.tup ds] S) Q=Q .non (S.set n (.tset (ks++[k]))):=by
 have:zgj (.ref n) [.tup ds] S=some (.non,S.set n (.tset (ks++[k]))):=by
  unfold zgj;dsimp only;rw [h];dsimp only;rw [hk];show (if _ then _ else _)=_;rw [if_pos hz,if_neg hn]
 rw [this];exact za9
theorem yet {n:Nat}{ks:List (List Int)}(h:S[n]? = some (.tset ks)):zhj S (.ref n)=some ():=by unfold zhj;dsimp only;rw [h]
theorem yeu {f:D->List D->Sto->Option (D × Sto)}{r:AM}:We (zkt f a r) l S Q=We a l S λx S1=>zhj S1 x=some ()/\Wa r l S1 λys S2=>Wo (f x ys S2) Q:=by
 apply propext
 constructor
 ·rintro ⟨v,S',h,q⟩
  obtain ⟨⟨x,S1⟩,h1,h⟩:=bnd h
  obtain ⟨_,h2,h⟩:=bnd h
  obtain ⟨⟨y,S2⟩,h3,h⟩:=bnd h
  exact ⟨x,S1,h1,h2,y,S2,h3,v,S',h,q⟩
 ·rintro ⟨x,S1,h1,h2,y,S2,h3,v,S',h,q⟩
  refine ⟨_,_,?_,q⟩
  unfold zkt;rw [h1];show (zhj S1 x).bind _=_;rw [h2];show (r l S1).bind _=_;rw [h3];exact h
theorem yev {i:Nat}{ds:List D}{k:List Int}(h:l[i]? = some (some (.tup ds))) (hk:zcx ds=some k):We (zjd (zaa i)) l S Q=Q (.ref S.length) (S++[.tset [k]]):=by
 have:zjd (zaa i) l S=some (.ref S.length,S++[.tset [k]]):=by
  unfold zjd zaa
  rw [h]
  show (zcx ds).bind _=_
  rw [hk]
  show (match (S++[Ob.tset []])[S.length]? with|some (.tset [])=>_|_=>none)=_
  rw [zd0]
  show some (_,(S++[Ob.tset []]).set S.length (.tset [k]))=_
  rw [yeg]
 apply propext
 constructor
 ·rintro ⟨v,S',e,q⟩;rw [this] at e;cases e;exact q
 ·exact λq=>⟨_,_,this,q⟩
theorem zhy {o i:EM}{v:D}:Wg (zkw o i v l S) QG=We o l S λx S1=>We i l S1 λy S2=>∃S',zfm x y v S2=some S'/\QG l S':=by
 apply propext
 constructor
 ·rintro ⟨l',S',h,q⟩
  obtain ⟨⟨x,S1⟩,h1,h⟩:=bnd h
  obtain ⟨⟨y,S2⟩,h2,h⟩:=bnd h
  obtain ⟨S3,h3,h⟩:=bnd h
  cases h
  exact ⟨x,S1,h1,y,S2,h2,_,h3,q⟩
 ·rintro ⟨x,S1,h1,y,S2,h2,S3,h3,q⟩
  refine ⟨l,S3,?_,q⟩
  unfold zkw;rw [h1];show (i l S1).bind _=_;rw [h2];show (zfm x y v S2).bind _=_;rw [h3];rfl
end
theorem zsc {c:TM}{b:SM}(I:Nat->Lo->Sto->Prop) (O:D->Sto->Prop) (Q:Lo->Sto->Prop)
  (step:∀m l S,I m l S->Wt c l S λk S1=>if k=true then Ws b l S1 λf l2 S2=>((f=.nx\/f=.ct)/\∃m',m' < m/\I m' l2 S2)\/∃d,f=.rt d/\O d S2 else Q l S1) :
  ∀(fuel m:Nat),m<fuel->∀l S,I m l S->Wr (whl c b fuel l S) λf l' S'=>(f=.nx/\Q l' S')\/∃d,f=.rt d/\O d S'
 | 0,m,h,_,_,_=>absurd h (Nat.not_lt_zero _)
 | fuel+1,m,h,l,S,hi=>by
  obtain ⟨k,S1,e1,h1⟩:=step m l S hi
  cases k with
  | false=>exact ⟨.nx,l,S1,by unfold whl;rw [e1];rfl,.inl ⟨rfl,h1⟩⟩
  | true =>
   have h1:Ws b l S1 λf l2 S2=>((f=.nx\/f=.ct)/\∃m',m' < m/\I m' l2 S2)\/∃d,f=.rt d/\O d S2:=h1
   obtain ⟨f,l2,S2,e2,q⟩:=h1
   rcases q with ⟨hf,m',hm,hi2⟩|⟨d,rfl,hd⟩
   ·obtain ⟨f',l',S',e3,q⟩:=zsc I O Q step fuel m' (by omega) l2 S2 hi2
    refine ⟨f',l',S',?_,q⟩
    unfold whl;rw [e1];show (b l S1).bind _=_;rw [e2]
    rcases hf with rfl|rfl <;> exact e3
   ·refine ⟨_,l2,S2,?_,.inr ⟨d,rfl,hd⟩⟩
    unfold whl;rw [e1];show (b l S1).bind _=_;rw [e2];rfl
theorem zm5 {c:TM}{b:SM}(I:Nat->Lo->Sto->Prop) (O:D->Sto->Prop) (Q:Lo->Sto->Prop) {l:Lo}{S:Sto}{QS:Fl->Lo->Sto->Prop}(m:Nat) (hm:m<1000000) (h0:I m l S)
  (step:∀m l S,I m l S->Wt c l S λk S1=>if k=true then Ws b l S1 λf l2 S2=>((f=.nx\/f=.ct)/\∃m',m' < m/\I m' l2 S2)\/∃d,f=.rt d/\O d S2 else Q l S1)
  (fin:∀l' S',Q l' S'->QS .nx l' S') (out:∀d l' S',O d S'->QS (.rt d) l' S'):Ws (whl c b zfj) l S QS:=by
 refine Wr.mono (zsc I O Q step zfj m hm l S h0) ?_
 rintro f l' S' (⟨rfl,h⟩|⟨d,rfl,h⟩)
 ·exact fin l' S' h
 ·exact out d l' S' h
theorem zav {m n:SM}{l l':Lo}{S S':Sto}{QS:Fl->Lo->Sto->Prop}(h1:Ws m l S λf l1 S1=>f=.nx/\l1=l'/\S1=S') (h2:Ws n l' S' QS):Ws (zaj m n) l S QS:=by
 rw [zg6]
 obtain ⟨f,l1,S1,e,rfl,rfl,rfl⟩:=h1
 exact ⟨_,_,_,e,h2⟩
theorem zcm {m n:SM}{l:Lo}{S:Sto}{QS:Fl->Lo->Sto->Prop}(R:Lo->Sto->Prop) (O:D->Sto->Prop) (h1:Ws m l S λf l1 S1=>(f=.nx/\R l1 S1)\/∃d,f=.rt d/\O d S1) (h2:∀l1 S1,R l1 S1->Ws n l1 S1 QS) (h3:∀d l1 S1,O d S1->QS (.rt d) l1 S1):Ws (zaj m n) l S QS:=by
 rw [zg6]
 obtain ⟨f,l1,S1,e,q⟩:=h1
 rcases q with ⟨rfl,r⟩|⟨d,rfl,o⟩
 ·exact ⟨_,_,_,e,h2 l1 S1 r⟩
 ·exact ⟨_,_,_,e,h3 d l1 S1 o⟩
theorem Gr.len {A B:Sto}(h:Gr A B):A.length<=B.length:=by obtain ⟨x,rfl⟩:=h;rw [qla];omega
theorem Gr.set {A B:Sto}{r:Nat}(h:Gr A B) (hr:A.length<=r) (o:Ob):Gr A (B.set r o):=by
 obtain ⟨x,rfl⟩:=h
 exact ⟨x.set (r-A.length) o,by rw [List.set_append_right _ _ hr]⟩
theorem zhz {S:Sto}{n:Nat}{xs:List D}(h:S[n]? = some (.lst xs)):lstOf S n=some xs:=by unfold lstOf;rw [h]
theorem za0 {S:Sto}{o:Ob}:(S++[o])[S.length]? = some o:=zd0 S o
theorem zbj {S:Sto}{n:Nat}{o o':Ob}(h:S[n]? = some o):(S++[o'])[n]? = some o:=by
 rw [List.getElem?_append_left (qme h).1];exact h
theorem zcr {S:Sto}{n:Nat}{o o':Ob}(h:S[n]? = some o):(S.set n o')[n]? = some o':=List.getElem?_set_self (qme h).1
theorem zbs {S:Sto}{n m:Nat}{o o':Ob}(h:S[m]? = some o) (hn:n≠m):(S.set n o')[m]? = some o:=by rw [List.getElem?_set_ne hn];exact h
theorem ze8 {S:Sto}{n:Nat}{xs:List D}{x:D}{Q:D->Sto->Prop}(h:S[n]? = some (.lst xs)) (hz:xs.length<sizeLine):Wo (zcs (.ref n) [x] S) Q=Q .non (S.set n (.lst (xs++[x]))):=by
 rw [zzy,h]
 apply propext
 constructor
 ·rintro ⟨ys,e,_,q⟩;cases e;exact q
 ·exact λq=>⟨xs,rfl,hz,q⟩
theorem zcy {S:Sto}{n:Nat}{xs:List D}(h:S[n]? = some (.lst xs)):zg2 (.ref n) S=some xs:=zhz h
end L3
section
namespace G
open PySem PySem.Spec PyProof.Rows L2 L3
noncomputable abbrev bd:List Stmt:=PySem.Challenge.pw_opencells_k33_namings_told.main.body
noncomputable def zsd:SM:=zaj (zam (zaf zbk (zab (zaf zaq (zab (eC (.str "many")) (zab (eUn (zb9 [("Unreached",false)]) (zaa 0)) (zae)))) (zab (zaf zaq (zab (eC (.str "closed")) (zab (eUn (zb9 [("Unreached",false)]) (zaa 0)) (zae)))) (zae)))) (zah 1)) (zaj (zam (eOp za6 (zaa 1) (zaf zbk (zab (zaf zaq (zab (eC (.str "unlike")) (zab (eUn (zb9 [("Unreached",false)]) (zaa 0)) (zae)))) (zab (zaf zaq (zab (eC (.str "full")) (zab (eUn (zb9 [("Unreached",false)]) (zaa 0)) (zae)))) (zae))))) (zah 1)) (zaj (zam (eOp za6 (zaa 1) (zaf zbk (zab (zaf zaq (zab (eC (.str "unreached")) (zab (eUn (zb9 [("Unreached",true)]) (zaa 0)) (zae)))) (zab (zaf zaq (zab (eC (.str "clash")) (zab (eUn (zb9 [("Unreached",false)]) (zaa 0)) (zae)))) (zae))))) (zah 1)) (zaj (zam (eOp za6 (zaa 1) (zaf zbk (zab (zaf zaq (zab (eC (.str "words")) (zab (eUn (zb9 [("Unreached",false)]) (zaa 0)) (zae)))) (zab (zaf zaq (zab (eC (.str "open")) (zab (eUn (zb9 [("Unreached",false)]) (zaa 0)) (zae)))) (zae))))) (zah 1)) (zaj (zam (eOp za6 (zaa 1) (zaf zbk (zab (zaf zaq (zab (eC (.str "back")) (zab (eUn (zb9 [("Unreached",false)]) (zaa 0)) (zae)))) (zab (zaf zaq (zab (eC (.str "text")) (zab (eUn (zb9 [("Unreached",false)]) (zaa 0)) (zae)))) (zae))))) (zah 1)) (zaj (zam (eOp za6 (zaa 1) (zaf zbk (zab (zaf zaq (zab (eC (.str "name")) (zab (eUn (zb9 [("Unreached",false)]) (zaa 0)) (zae)))) (zab (zaf zaq (zab (eC (.str "line")) (zab (eUn (zb9 [("Unreached",false)]) (zaa 0)) (zae)))) (zae))))) (zah 1)) (zba (eOp za6 (zcq (zec (zaa 1)) [none,none] (zco 2 (zbb (zah 0) (zbb (zah 1) (zcg)))) (tE (zaa 1)) (zaa 0)) (eOp zhd (zaf zbk (zab (eC (.str "no value")) (zae))) (zaf zi8 (zab (zj7 (eUn (zb9 [("Unreached",true)]) (zaa 0))) (zae)))))))))))
noncomputable def zjk:FM:=zb2 2 zsd
noncomputable def zse:SM:=zba (zio (eOp dNe (eOp zal (zaa 0) (eC (.int 1))) (eOp zal (zaa 1) (eC (.int 1)))) (eOp dNe (eOp dIs (eOp zal (zaa 0) (eC (.int 0))) (eC .non)) (eOp dIs (eOp zal (zaa 1) (eC (.int 0))) (eC .non))))
noncomputable def zfs:FM:=zb2 2 zse
noncomputable def zsf:SM:=zaj (zam (zaf zbk (zab (zaa 2) (zae))) (zah 4)) (zaj (zam (zaf zbk (zab (zaf zaq (zae)) (zae))) (zah 5)) (zaj (zam (zjd (zaa 2)) (zah 6)) (zaj (zam (eC (.int 0)) (zah 7)) (zaj (whl (tE (eOp dLt (zaa 7) (zaf za5 (zab (zaa 4) (zae))))) (zaj (zam (eOp zal (zaa 4) (zaa 7)) (zco 2 (zbb (zah 8) (zbb (zah 9) (zcg))))) (zaj (zam (eOp zal (zaa 5) (zaa 7)) (zah 10)) (zaj (zam (eOp zkd (zaa 7) (eC (.int 1))) (zah 7)) (zdi (zbx (zab (eOp zal (zaa 0) (eC (.int 0))) (zae))) (zah 11) (zaj (zam (eOp zal (eOp zal (eOp zal (zaa 0) (eC (.int 1))) (zaa 8)) (zaa 11)) (zah 12)) (zaj (zam (eOp zal (eOp zal (eOp zal (zaa 1) (eC (.int 1))) (zaa 9)) (zaa 11)) (zah 13)) (zaj (sIf (tE (zkx [("are_unlike",zfs)] (zaa 3) (zab (zaa 12) (zab (zaa 13) (zae))))) (zba (zaf zaq (zab (eOp za6 (zaa 10) (zaf zaq (zab (zaa 11) (zae)))) (zab (zaa 4) (zae))))) (zay)) (zaj (zam (zaf zaq (zab (eOp zal (zaa 12) (eC (.int 0))) (zab (eOp zal (zaa 13) (eC (.int 0))) (zae)))) (zah 14)) (sIf (zen (tE (eOp (dIn true) (eC .non) (zaa 14))) (tE (eOp (zgk true) (zaa 14) (zaa 6)))) (zaj (zct (zkt zgj (zaa 6) (zab (zaa 14) zae))) (zaj (zct (zb5 zcs (zaa 4) (zab (zaa 14) zae))) (zct (zb5 zcs (zaa 5) (zab (eOp za6 (zaa 10) (zaf zaq (zab (zaa 11) (zae)))) zae))))) (zay)))))))))) zfj) (zba (zaf zaq (zab (eC .non) (zab (zaa 4) (zae)))))))))
noncomputable def zh0:FM:=zb2 15 zsf
noncomputable def zsg:SM:=zaj (zam (zaa 0) (zco 2 (zbb (zah 1) (zbb (zah 2) (zcg))))) (zaj (zam (zaf zbk (zab (zaf zaq (zab (eC (.int 0)) (zab (zaf zaq (zae)) (zae)))) (zae))) (zah 3)) (zaj (zam (zmf 0) (zah 4)) (zaj (zam (eC (.int 0)) (zah 5)) (zaj (whl (tE (eOp dLt (zaa 5) (zaf za5 (zab (zaa 3) (zae))))) (zaj (zam (eOp zal (zaa 3) (zaa 5)) (zco 2 (zbb (zah 6) (zbb (zah 7) (zcg))))) (zaj (zam (eOp zkd (zaa 5) (eC (.int 1))) (zah 5)) (zdi (zbx (zab (zaa 1) (zae))) (zah 8) (zaj (zam (eOp zal (eOp zal (eOp zal (zaa 2) (zaa 6)) (zaa 8)) (eC (.int 0))) (zah 9)) (sIf (zen (tE (eOp zeq (zaa 9) (eC .non))) (tE (eOp (dIn true) (zaa 9) (zaa 4)))) (zaj (zct (zkn zhc (zaa 4) (zab (zaa 9) zae))) (zct (zb5 zcs (zaa 3) (zab (zaf zaq (zab (zaa 9) (zab (eOp za6 (zaa 7) (zaf zaq (zab (zaa 8) (zae)))) (zae)))) zae)))) (zay)))))) zfj) (zba (zaa 3))))))
noncomputable def ze9:FM:=zb2 10 zsg
noncomputable def zm6:SM:=zaj (zcp (zaf zaq (zab (zaa 0) (zab (zaa 1) (zae)))) (zah 2) (sIf (tE (eOp dLt (zaf za5 (zab (zaf ze9 (zab (zaa 2) (zae))) (zae))) (zaf za5 (zab (eOp zal (zaa 2) (eC (.int 1))) (zae))))) (zb6) (zay))) (zaj (zam (zaf za5 (zab (eOp zal (zaa 0) (eC (.int 1))) (zae))) (zah 3)) (zaj (sIf (zeb (tE (eOp dNe (eOp zal (zaa 0) (eC (.int 0))) (eOp zal (zaa 1) (eC (.int 0))))) (tE (eOp dNe (zaf za5 (zab (eOp zal (zaa 1) (eC (.int 1))) (zae))) (zaa 3)))) (zba (eC .non)) (zay)) (zaj (zam (zaf zh0 (zab (zaa 0) (zab (zaa 1) (zab (zaf zaq (zab (eC (.int 0)) (zab (eC (.int 0)) (zae)))) (zab (zmx "are_unlike") (zae)))))) (zco 2 (zbb (zah 4) (zbb (zah 5) (zcg))))) (zaj (sIf (zeb (tE (eOp zeq (zaa 4) (eC .non))) (tE (eOp dNe (zaf za5 (zab (zaa 5) (zae))) (zaa 3)))) (zba (eC .non)) (zay)) (zba (zaf zd2 (zab (zcq (zec (zaf zgl (zab (zaa 5) (zae)))) [none,none] (zco 2 (zbb (zah 0) (zbb (zah 1) (zcg)))) (zd3) (zaa 1)) (zae))))))))
noncomputable def zft:FM:=zb2 6 zm6
noncomputable def yew:ZM:=zjg (zaf zaq (zab (zaa 0) (zab (zaa 1) (zae)))) (zah 2) (sIf (tE (eOp dLt (zaf za5 (zab (zaf ze9 (zab (zaa 2) (zae))) (zae))) (zaf za5 (zab (eOp zal (zaa 2) (eC (.int 1))) (zae))))) (zb6) (zay)) (zIf (tE (eOp dLt (zaf za5 (zab (zaf ze9 (zab (zaa 2) (zae))) (zae))) (zaf za5 (zab (eOp zal (zaa 2) (eC (.int 1))) (zae))))) (λ_ S=>some ("Unreached",S)) (zdx))
noncomputable def zjl:ZF:=zmt 6 yew
noncomputable def zsh:SM:=zaj (zam (eC .non) (zah 2)) (zaj (zam (eC .non) (zah 3)) (zaj (zgi 4 (λc=>c == "Unreached") (zam (zaf zft (zab (zaa 0) (zab (zaa 1) (zae)))) (zah 3)) (zja zjl (zab (zaa 0) (zab (zaa 1) (zae)))) (zam (zaa 4) (zah 2))) (zba (zeo (tE (eOp dIs (zaa 2) (eC .non))) (zaf zaq (zab (eC (.str "told")) (zab (zaa 3) (zae)))) (zaf zjk (zab (zaa 2) (zae)))))))
noncomputable def zh1:FM:=zb2 5 zsh
noncomputable def zsi:SM:=zaj (zam (eC (.int 0)) (zah 2)) (zaj (zcp (zaa 1) (zah 3) (zaj (sIf (tE (eOp dIs (zaa 2) (eC .non))) (zba (eC .non)) (zay)) (zam (eOp zal (eOp zal (eOp zal (zaa 0) (zaa 2)) (zaa 3)) (eC (.int 0))) (zah 2)))) (zba (zaa 2)))
noncomputable def zh2:FM:=zb2 4 zsi
noncomputable def zsj:SM:=zaj (zam (zkz 0 (zaf zaq (zae))) (zah 1)) (zaj (zam (zaf zbk (zab (eC (.int 0)) (zae))) (zah 2)) (zaj (whl (tE (eOp zi4 (zaa 2) (zaf zbk (zae)))) (zaj (zam (zb5 ze1 (zaa 2) (zab (eC (.int 0)) zae)) (zah 3)) (zhg (zi7 (zab (eOp zal (zaa 0) (zaa 3)) (zae))) (zco 2 (zbb (zah 4) (zbb (zah 5) (zcg)))) (sIf (zen (tE (eOp zeq (eOp zal (zaa 5) (eC (.int 0))) (eC .non))) (tE (eOp (zjf true) (eOp zal (zaa 5) (eC (.int 0))) (zaa 1)))) (zaj (zam (eOp za6 (eOp zhk (zaa 1) (zaa 3)) (zaf zaq (zab (zaa 4) (zae)))) (zkw (zaa 1) (eOp zal (zaa 5) (eC (.int 0))))) (zct (zb5 zcs (zaa 2) (zab (eOp zal (zaa 5) (eC (.int 0))) zae)))) (zay)))) zfj) (zba (zaa 1))))
noncomputable def zh3:FM:=zb2 6 zsj
noncomputable def zsk:SM:=zaj (zam (zaf zh3 (zab (eOp zal (zaa 0) (eC (.int 1))) (zae))) (zah 2)) (zaj (sIf (zeb (tE (eOp dLt (zaf zfn (zab (zaa 2) (zae))) (zaf za5 (zab (eOp zal (zaa 0) (eC (.int 1))) (zae))))) (tE (eOp dLt (zaf zfn (zab (zaf zh3 (zab (eOp zal (zaa 1) (eC (.int 1))) (zae))) (zae))) (zaf za5 (zab (eOp zal (zaa 1) (eC (.int 1))) (zae)))))) (zba (eC (.str "unreached"))) (zay)) (zaj (sIf (zeb (tE (eOp dNe (eOp zal (zaa 0) (eC (.int 0))) (eOp zal (zaa 1) (eC (.int 0))))) (tE (eOp dNe (zaf za5 (zab (eOp zal (zaa 0) (eC (.int 1))) (zae))) (zaf za5 (zab (eOp zal (zaa 1) (eC (.int 1))) (zae)))))) (zba (eC .non)) (zay)) (zaj (zam (zcq (zew (zbx (zab (zaf za5 (zab (eOp zal (zaa 0) (eC (.int 1))) (zae))) (zae)))) [none,some 1,some 2] (zah 0) (zd3) (zaf zh2 (zab (eOp zal (zaa 1) (eC (.int 1))) (zab (eOp zhk (zaa 2) (zaa 0)) (zae))))) (zah 3)) (zaj (sIf (zeb (tE (eOp (dIn false) (eC .non) (zaa 3))) (tE (eOp dLt (zaf zgn (zab (zaf zgo (zab (zaa 3) (zae))) zae)) (zaf za5 (zab (zaa 3) (zae)))))) (zba (eC .non)) (zay)) (zaj (zhg (zi7 (zab (eOp zal (zaa 0) (eC (.int 1))) (zae))) (zco 2 (zbb (zah 4) (zbb (zah 5) (zcg)))) (zhg (zky (zab (zaa 5) (zab (eOp zal (eOp zal (zaa 1) (eC (.int 1))) (eOp zal (zaa 3) (zaa 4))) (zae)))) (zco 2 (zbb (zah 6) (zbb (zah 7) (zcg)))) (zaj (zam (eOp zal (zaa 6) (eC (.int 0))) (zah 8)) (zaj (sIf (tE (eOp zeq (zaa 8) (eC .non))) (zam (eOp zal (zaa 3) (zaa 8)) (zah 8)) (zay)) (sIf (tE (eOp zhb (zaa 7) (zaf zaq (zab (zaa 8) (zab (eOp zal (zaa 6) (eC (.int 1))) (zae)))))) (zba (eC .non)) (zay)))))) (zba (zaf zd2 (zab (zaa 3) (zae)))))))))
noncomputable def zh4:FM:=zb2 9 zsk
noncomputable def zsl:SM:=zaj (sIf (tE (eOp dGt (eOp zal (zaa 0) (eC (.int 2))) (eC (.int 0)))) (zaj (zam (eOp zde (eOp zal (zaa 0) (eC (.int 2))) (zaa 1)) (zah 2)) (zaj (zam (eOp ziu (eOp zal (zaa 0) (eC (.int 2))) (zaa 1)) (zfe (zaa 0) (eC (.int 2)))) (zba (zaa 2)))) (zay)) (zaj (zam (zc7 (zaa 0) (zdf) (zc2 (eC (.int 2)))) (zi5 2 (zbb (zah 3) (zbb (zah 4) (zcg))))) (zaj (zam (eOp za6 (zaa 4) (eC (.int 1))) (zfe (zaa 0) (eC (.int 1)))) (zaj (zam (eOp za6 (eOp zez (eC (.int 1217)) (zaa 4)) (eC (.int 23))) (zah 5)) (zaj (sIf (tE (eOp dGt (zaf za5 (zab (zaa 3) (zae))) (eC (.int 0)))) (zaj (zam (eOp zal (zaa 3) (eOp zde (zaa 4) (zaf za5 (zab (zaa 3) (zae))))) (zah 5)) (sIf (zen (tE (eOp dLt (zaa 4) (zaf za5 (zab (zaa 3) (zae))))) (tE (eOp dGe (zaf zf0 (zab (zaa 5) (zae))) (eOp zke (eC (.int 10)) (eC (.int 18)))))) (zaj (zam (eOp ziu (zaf zf0 (zab (zaa 5) (zae))) (zaa 1)) (zfe (zaa 0) (eC (.int 2)))) (zba (eOp zde (zaf zf0 (zab (zaa 5) (zae))) (zaa 1)))) (zay))) (zay)) (zaj (zam (eOp zal (zaf zbk (zab (eC (.int 2147483587)) (zab (eC (.int 2147483647)) (zab (eC (.int 2147483629)) (zab (eC (.int 2147483563)) (zab (eC (.int 2147483549)) (zae))))))) (eOp zde (zaa 4) (eC (.int 5)))) (zah 6)) (zaj (zam (eOp zde (eOp zke (eOp za6 (eOp za6 (eOp zde (zaa 5) (zaa 6)) (eOp zez (eC (.int 42013)) (zaa 4))) (eC (.int 23))) (eC (.int 3))) (zaa 6)) (zah 7)) (zaj (zam (eOp zde (eOp zke (eOp za6 (eOp zez (zaa 7) (eOp za6 (zaa 4) (eC (.int 41)))) (eC (.int 1217))) (eC (.int 3))) (eC (.int 2147483543))) (zah 7)) (zba (eOp zde (eOp ziu (zaa 7) (eC (.int 64))) (zaa 1))))))))))
noncomputable def zb3:FM:=zb2 8 zsl
noncomputable def zsm:SM:=zaj (zam (eOp zal (zaf zbk (zab (eC (.int 1)) (zab (eC (.int 2)) (zab (eC (.int 4)) (zab (eC (.int 9)) (zae)))))) (zaf zb3 (zab (zaa 0) (zab (eC (.int 4)) (zae))))) (zah 2)) (zaj (zam (eOp za6 (eC (.int 1)) (zaf zb3 (zab (zaa 0) (zab (eOp zal (zaf zbk (zab (eC (.int 5)) (zab (zaa 1) (zae)))) (zaf zb3 (zab (zaa 0) (zab (eC (.int 2)) (zae))))) (zae))))) (zah 3)) (zaj (zam (eOp za6 (eC (.int 1)) (zaf zb3 (zab (zaa 0) (zab (eC (.int 4)) (zae))))) (zah 4)) (zaj (zam (eOp zal (zaf zbk (zab (eC (.int 2)) (zab (eC (.int 3)) (zab (eC (.int 8)) (zab (eC (.int 1)) (zae)))))) (zaf zb3 (zab (zaa 0) (zab (eC (.int 4)) (zae))))) (zah 5)) (zaj (zam (zcq (zew (zbx (zab (zaa 3) (zae)))) [none,some 4] (zah 0) (zd3) (zcq (zew (zbx (zab (zaa 1) (zae)))) [none] (zah 0) (zd3) (eC .non))) (zah 6)) (zaj (zam (zcq (zew (zbx (zab (zaa 4) (zae)))) [none] (zah 0) (zd3) (zaf zaq (zab (eC (.int 0)) (zab (zaa 0) (zae))))) (zah 7)) (zaj (zdi (zeu (zab (eC (.int 1)) (zab (zaa 3) (zae)))) (zah 8) (zaj (zam (zb5 ze1 (zaa 7) (zab (zaf zb3 (zab (zaa 0) (zab (zaf za5 (zab (zaa 7) (zae))) (zae)))) zae)) (zah 9)) (zaj (zam (zaa 8) (zfe (eOp zal (zaa 6) (eOp zal (zaa 9) (eC (.int 0)))) (eOp zal (zaa 9) (eC (.int 1))))) (zct (zb5 zgg (zaa 7) (zab (zcq (zew (zbx (zab (zaa 4) (zae)))) [none,some 8] (zah 0) (zd3) (zaf zaq (zab (zaa 1) (zab (zaa 0) (zae))))) zae)))))) (zaj (zcp (zaa 7) (zah 9) (sIf (tE (eOp dGt (zaf zb3 (zab (zaa 0) (zab (zaa 2) (zae)))) (eC (.int 0)))) (zam (zaf zb3 (zab (zaa 0) (zab (zaa 3) (zae)))) (zfe (eOp zal (zaa 6) (eOp zal (zaa 9) (eC (.int 0)))) (eOp zal (zaa 9) (eC (.int 1))))) (zay))) (zaj (zam (zaf zbk (zae)) (zah 10)) (zaj (zdi (zbx (zab (zaa 3) (zae))) (zah 8) (zaj (zam (zaf zbk (zae)) (zah 11)) (zaj (zdi (zbx (zab (zaa 4) (zae))) (zah 12) (zaj (zam (zaf zb3 (zab (zaa 0) (zab (zaa 5) (zae)))) (zah 13)) (zct (zb5 zcs (zaa 11) (zab (zaf zaq (zab (eOp zal (eOp zal (zaa 6) (zaa 8)) (zaa 12)) (zab (zeo (tE (eOp dGt (zaf zb3 (zab (zaa 0) (zab (eOp za6 (zaa 2) (eC (.int 1))) (zae)))) (eC (.int 0)))) (zaa 13) (eC .non)) (zae)))) zae))))) (zct (zb5 zcs (zaa 10) (zab (zaf zd2 (zab (zaa 11) (zae))) zae)))))) (zba (zaf zaq (zab (zaa 4) (zab (zaf zd2 (zab (zaa 10) (zae))) (zae))))))))))))))
noncomputable def zgv:FM:=zb2 14 zsm
noncomputable def zsn:SM:=zaj (zam (zaa 1) (zco 2 (zbb (zah 4) (zbb (zah 5) (zcg))))) (zaj (zam (eOp zde (zaa 3) (zaf za5 (zab (zaa 5) (zae)))) (zah 6)) (zaj (zam (eOp zde (eOp ziu (zaa 3) (zaf za5 (zab (zaa 5) (zae)))) (zaa 4)) (zah 7)) (zaj (zam (eOp zal (eOp zal (zaa 5) (zaa 6)) (zaa 7)) (zco 2 (zbb (zah 8) (zbb (zah 9) (zcg))))) (zaj (sIf (tE (eOp dLt (zaa 2) (eC (.int 4)))) (zaj (zam (zaf zaq (zab (zaa 8) (zab (eOp zal (zaf zbk (zab (eC .non) (zab (eC (.int 0)) (zab (eC (.int 1)) (zab (eC (.int 2)) (zab (eC (.int 7)) (zae))))))) (zaf zb3 (zab (zaa 0) (zab (eC (.int 5)) (zae))))) (zae)))) (zah 10)) (zaj (sIf (tE (eOp dGt (zaa 2) (eC (.int 1)))) (zam (zaf zaq (zab (eOp zal (eOp za6 (zaf zbk (zab (eC .non) (zae))) (zhf (zbx (zab (zaf za5 (zab (zaa 5) (zae))) (zae))))) (zaf zb3 (zab (zaa 0) (zab (eOp za6 (zaf za5 (zab (zaa 5) (zae))) (eC (.int 1))) (zae))))) (zab (zaa 9) (zae)))) (zah 10)) (zay)) (zaj (zam (eOp za6 (eOp za6 (zc7 (eOp zal (zaa 5) (zaa 6)) (zdf) (zc2 (zaa 7))) (zaf zaq (zab (zaa 10) (zae)))) (zc7 (eOp zal (zaa 5) (zaa 6)) (zc2 (eOp za6 (zaa 7) (eC (.int 1)))) (zdf))) (zah 11)) (zba (zaf zaq (zab (zaa 4) (zab (eOp za6 (eOp za6 (zc7 (zaa 5) (zdf) (zc2 (zaa 6))) (zaf zaq (zab (zaa 11) (zae)))) (zc7 (zaa 5) (zc2 (eOp za6 (zaa 6) (eC (.int 1)))) (zdf))) (zae)))))))) (zay)) (zaj (sIf (tE (eOp dEq (zaa 2) (eC (.int 4)))) (zba (zaf zaq (zab (zaa 4) (zab (eOp za6 (zc7 (zaa 5) (zdf) (zc2 (eC (.int 23)))) (zaf zaq (zab (eOp zez (zaf zaq (zab (zaf zaq (zab (eC (.int 0)) (zab (eC (.int 1)) (zae)))) (zae))) (zaa 4)) (zae)))) (zae))))) (zay)) (zaj (sIf (tE (eOp dEq (zaa 2) (eC (.int 5)))) (zba (zaf zaq (zab (eOp za6 (eOp zde (zaa 4) (eC (.int 4))) (eC (.int 1))) (zab (zaf zd2 (zab (zcq (zec (zaa 5)) [none,some 4] (zah 0) (zd3) (zc7 (eOp za6 (zaa 0) (zc7 (zaa 0) (zdf) (zc2 (eC (.int 1))))) (zdf) (zc2 (eOp za6 (eOp zde (zaa 1) (eC (.int 4))) (eC (.int 1)))))) (zae))) (zae))))) (zay)) (zba (zaf zgv (zab (zaa 0) (zab (eOp zal (zaf zbk (zab (eC (.int 24)) (zab (eC (.int 5)) (zae)))) (eOp zpw (zaa 2) (eC (.int 6)))) (zae)))))))))))
noncomputable def zjm:FM:=zb2 12 zsn
noncomputable def zso:SM:=zaj (zam (zaa 1) (zco 2 (zbb (zah 2) (zbb (zah 3) (zcg))))) (zaj (zam (zhf (zeu (zab (eC (.int 1)) (zab (zaf za5 (zab (zaa 3) (zae))) (zae))))) (zah 4)) (zaj (zam (zaf zbk (zab (eC (.int 0)) (zae))) (zah 5)) (zaj (zcp (zc7 (zaa 3) (zc2 (eC (.int 1))) (zdf)) (zah 6) (zct (zb5 zcs (zaa 5) (zab (zb5 ze1 (zaa 4) (zab (zaf zb3 (zab (zaa 0) (zab (zaf za5 (zab (zaa 4) (zae))) (zae)))) zae)) zae)))) (zaj (zam (zaf zbk (zae)) (zah 7)) (zaj (zcp (zaa 5) (zah 6) (zaj (zam (zaf zbk (zae)) (zah 8)) (zaj (zcp (eOp zal (zaa 3) (zaa 6)) (zco 2 (zbb (zah 9) (zbb (zah 10) (zcg)))) (zct (zb5 zcs (zaa 8) (zab (zaf zaq (zab (zeo (tE (eOp zeq (zaa 9) (eC .non))) (zb5 zgm (zaa 5) (zab (zaa 9) zae)) (eC .non)) (zab (zaa 10) (zae)))) zae)))) (zct (zb5 zcs (zaa 7) (zab (zaf zd2 (zab (zaa 8) (zae))) zae)))))) (zba (zaf zaq (zab (zaa 2) (zab (zaf zd2 (zab (zaa 7) (zae))) (zae))))))))))
noncomputable def zjn:FM:=zb2 11 zso
noncomputable def zsp:SM:=zba (zaf zbk (zab (zaa 0) (zab (eC (.int 0)) (zab (eC (.int 0)) (zae)))))
noncomputable def zk3:FM:=zb2 1 zsp
noncomputable def zsq:SM:=zaj (zam (zaf zk3 (zab (zaa 0) (zae))) (zah 1)) (zaj (zdi (zbx (zab (eC (.int 4)) (zae))) (zah 2) (zaj (zam (zaf zb3 (zab (zaa 1) (zab (eC (.int 12)) (zae)))) (zah 3)) (zaj (zam (zaf zb3 (zab (zaa 1) (zab (eC (.int 96)) (zae)))) (zah 4)) (zaj (zam (zaf zgv (zab (zaa 1) (zab (eC (.int 24)) (zae)))) (zah 5)) (zaj (zam (zaf zjn (zab (zaa 1) (zab (zaa 5) (zae)))) (zah 6)) (zaj (sIf (tE (eOp dLt (zaa 3) (eC (.int 8)))) (zam (zaf zjm (zab (zaa 1) (zab (zaa 6) (zab (zaa 3) (zab (zaa 4) (zae)))))) (zah 6)) (zay)) (zaj (zam (zaf zd4 (zab (zaf zaq (zab (zaa 5) (zab (zaa 6) (zae)))) (zae))) (zah 7)) (zaj (zcp (zaf zaq (zab (zaf zaq (zab (zaa 5) (zab (zaa 6) (zae)))) (zab (zaf zaq (zab (zaa 6) (zab (zaa 5) (zae)))) (zab (zaf zaq (zab (zaa 5) (zab (zaa 5) (zae)))) (zab (zaf zaq (zab (zaa 5) (zab (zaa 6) (zae)))) (zae)))))) (zco 2 (zbb (zah 8) (zbb (zah 9) (zcg)))) (zaj (zam (zaf zh4 (zab (zaa 8) (zab (zaa 9) (zae)))) (zah 10)) (zaj (zam (zeo (tE (eOp zge (zaa 10) (eC (.str "unreached")))) (zaf zbk (zab (eC (.str "unreached")) (zae))) (zaf zaq (zab (eC (.str "told")) (zab (zaa 10) (zae))))) (zah 11)) (sIf (tE (eOp dNe (zaf zd4 (zab (zaf zh1 (zab (zaa 8) (zab (zaa 9) (zae)))) (zae))) (zaf zd4 (zab (zaa 11) (zae))))) (zba (eC (.bl false))) (zay))))) (sIf (tE (eOp dNe (zaf zd4 (zab (zaf zaq (zab (zaa 5) (zab (zaa 6) (zae)))) (zae))) (zaa 7))) (zba (eC (.bl false))) (zay)))))))))) (zba (eC (.bl true))))
noncomputable def zfu:FM:=zb2 12 zsq
theorem bl0 {C:List PySem.Value->Prop}(h:C []):∀us:List PySem.Value,us.length=0->C us:=by
 intro us hl
 rw [List.eq_nil_of_length_eq_zero hl];exact h
theorem blS {n:Nat}{C:List PySem.Value->Prop}(h:∀a (us:List PySem.Value),us.length=n->C (a :: us)):∀us:List PySem.Value,us.length=n+1->C us:=by
 intro us hl
 cases us with
 | nil=>cases hl
 | cons a us=>exact h a us (Nat.succ.inj hl)
theorem bl1 {C:List PySem.Value->Prop}(h:∀a0,C [a0]):∀us:List PySem.Value,us.length=1->C us:=blS λa0=>bl0 (C:=λus=>C (a0 :: us)) (h a0)
theorem bl2 {C:List PySem.Value->Prop}(h:∀a0 a1,C [a0,a1]):∀us:List PySem.Value,us.length=2->C us:=blS λa0=>blS λa1=>bl0 (C:=λus=>C (a0 :: a1 :: us)) (h a0 a1)
theorem bl4 {C:List PySem.Value->Prop}(h:∀a0 a1 a2 a3,C [a0,a1,a2,a3]):∀us:List PySem.Value,us.length=4->C us:=blS λa0=>blS λa1=>blS λa2=>blS λa3=>bl0 (C:=λus=>C (a0 :: a1 :: a2 :: a3 :: us)) (h a0 a1 a2 a3)
inductive FI (K:QFg) (x:Str) (st:Stmt):Prop
 | mk {f:Addr} {oc kV dc pm cd ct:Value} {od an:Option Addr} {sl:Array (Option Value)} (a:PySem.W.nsIn K mainGlobals x=some (some (.ref f))) (l:K.lookup f=some ⟨oc,od,.func (PySem.W.fnOf x x (zfw st) (zdr st) (za1 st) .none kV dc pm an cd ct),sl⟩) (c:PySem.W.codeIn K cd x=true) (k:PySem.W.keepIn K (.ref f)=true)
inductive FJ (K:QFg) (mg:Str->Option Value) (x:Str) (st:Stmt):Prop
 | mk {f:Addr} {fd:FuncData} (F:Fun K x x st f fd) (m:mg x=some (.ref f)) (n:Fnc K mg x)
theorem FI.ok {K:QFg}{x:Str}{st:Stmt}{h:Heap}{mg:Str->Option Value}(i:FI K x st) (X:K.In h) (G:h.Ns mainGlobals mg):FJ K mg x st:=by
 obtain ⟨a,l,c,k⟩:=i
 exact ⟨zyf l c k,PySem.W.mg_of X G a,_,_,a,l,PySem.W.mg_of X G a⟩
theorem FJ.n {K:QFg}{x:Str}{st:Stmt}{mg:Str->Option Value}(i:FJ K mg x st):Fnc K mg x:=by
 obtain ⟨_,_,n⟩:=i
 exact n
section
variable {P:Program}{w:World}{K:QFg}{mg:Str->Option Value}{base:Heap}{CA:Str->Addr}
theorem zda {x:Str}{st:Stmt}{N ps:List Str}{n k:Nat}{b:SM}(F:FJ K mg x st) (S:FnScope N ps (za1 st)) (hn:ps.length=n)
  (hb:∀us:List Value,us.length=ps.length->∀(kV doc pm:Value) (an:Option Addr) (cdv ct:Value),bindArgs (PySem.W.fnOf x x (zfw st) (zdr st) (za1 st) .none kV doc pm an cdv ct) ⟨us,[]⟩=pure (ps.zip us))
  (hbody:∀(f:Addr) (cdv:Value),PySem.W.codeIn K cdv x=true->∀(A:Around) (outer:List Env) (s:Shared) (H:Hp) (E:XK),Room k (A.deeper (envOfC x (za1 st) s.heap.objs.size f cdv)) ->
   zcn (zb1 CX0 P w K mg base N x (za1 st) f cdv A outer s H E).nox (zdr st) b):Has P w K mg base x (k+1) n (zb2 N.length b):=by
 obtain ⟨F,m,_⟩:=F
 exact zzw F m S hn (F.binds λ_ _ _ _ _ _ us hl=>hb us hl _ _ _ _ _ _) (hbody _)
theorem yex {x:Str}{st:Stmt}{N ps:List Str}{n k:Nat}{r:ZM}(F:FJ K mg x st) (S:FnScope N ps (za1 st)) (hn:ps.length=n)
  (hb:∀us:List Value,us.length=ps.length->∀(kV doc pm:Value) (an:Option Addr) (cdv ct:Value),bindArgs (PySem.W.fnOf x x (zfw st) (zdr st) (za1 st) .none kV doc pm an cdv ct) ⟨us,[]⟩=pure (ps.zip us))
  (hbody:∀(f:Addr) (cdv:Value),PySem.W.codeIn K cdv x=true->∀(A:Around) (outer:List Env) (s:Shared) (H:Hp) (E:XK),Room k (A.deeper (envOfC x (za1 st) s.heap.objs.size f cdv)) ->
   zgh (zb1 (CX1 P w) P w K mg base N x (za1 st) f cdv A outer s H E) E CA (zdr st) r):ze3 P w K mg base CA x (k+1) n (zmt N.length r):=by
 obtain ⟨F,m,_⟩:=F
 exact yb9 F m S hn (F.binds λ_ _ _ _ _ _ us hl=>hb us hl _ _ _ _ _ _) (hbody _)
theorem yey:FnScope ["_law_caught","_law_flags"] ["_law_caught"] (za1 (top bd 25)):=⟨rfl,rfl,rfl,by decide +kernel,rfl,by decide +kernel,by decide +kernel⟩
theorem zsr:List.Nodup (["_law_word","_law_flag"]:List Str):=by decide +kernel
noncomputable abbrev yez:List Str:=["_law_caught","_law_flags"]
theorem h_m_law_words (F:FJ K mg "_law_words" (top bd 25)) (z_int:mg "int" = none) (z_isinstance:mg "isinstance" = none) (z_ValueError:mg "ValueError" = none) (q_NoLine:mg "NoLine" = some (.ref (CA "NoLine"))) (q_NoName:mg "NoName" = some (.ref (CA "NoName"))) (q_NoText:mg "NoText" = some (.ref (CA "NoText"))) (q_NoBack:mg "NoBack" = some (.ref (CA "NoBack"))) (q_NotOpen:mg "NotOpen" = some (.ref (CA "NotOpen"))) (q_NoWords:mg "NoWords" = some (.ref (CA "NoWords"))) (q_Clash:mg "Clash" = some (.ref (CA "Clash"))) (q_Unreached:mg "Unreached" = some (.ref (CA "Unreached"))) (q_NotFull:mg "NotFull" = some (.ref (CA "NotFull"))) (q_Unlike:mg "Unlike" = some (.ref (CA "Unlike"))) (q_NotClosed:mg "NotClosed" = some (.ref (CA "NotClosed"))) (q_TooMany:mg "TooMany" = some (.ref (CA "TooMany"))) (n_Unreached:PySem.W.nsIn K mainGlobals "Unreached" = some (some (.ref (CA "Unreached")))) (e_Unreached:ExcQ K (CA "Unreached")) (i_0:PySem.W.kitOne K (.ref (CA "Unreached")) (.type "ValueError")=some true) (i_1:PySem.W.kitOne K (.ref (CA "Unreached")) (.ref (CA "NoLine"))=some false) (i_2:PySem.W.kitOne K (.ref (CA "Unreached")) (.ref (CA "NoName"))=some false) (i_3:PySem.W.kitOne K (.ref (CA "Unreached")) (.ref (CA "NoText"))=some false) (i_4:PySem.W.kitOne K (.ref (CA "Unreached")) (.ref (CA "NoBack"))=some false) (i_5:PySem.W.kitOne K (.ref (CA "Unreached")) (.ref (CA "NotOpen"))=some false) (i_6:PySem.W.kitOne K (.ref (CA "Unreached")) (.ref (CA "NoWords"))=some false) (i_7:PySem.W.kitOne K (.ref (CA "Unreached")) (.ref (CA "Clash"))=some false) (i_8:PySem.W.kitOne K (.ref (CA "Unreached")) (.ref (CA "Unreached"))=some true) (i_9:PySem.W.kitOne K (.ref (CA "Unreached")) (.ref (CA "NotFull"))=some false) (i_10:PySem.W.kitOne K (.ref (CA "Unreached")) (.ref (CA "Unlike"))=some false) (i_11:PySem.W.kitOne K (.ref (CA "Unreached")) (.ref (CA "NotClosed"))=some false) (i_12:PySem.W.kitOne K (.ref (CA "Unreached")) (.ref (CA "TooMany"))=some false):Has P w K mg base "_law_words" 1 1 zjk:=by
 have sc:=yey
 refine zda (k:=0) F sc rfl (bl1 λ_=>λ_ _ _ _ _ _=>rfl) λf cdv hcd A outer s H E hr=>?_
 exact zak (zas 1 sc.nd (zbp (zad (zaw (zad (zcf) (zad (zdy rfl z_isinstance (zac 0) rfl q_TooMany (zdn (R:=λC b=>ExcQ _ C/\PySem.W.kitOne _ (.ref C) _=some b) n_Unreached ⟨e_Unreached,i_12⟩)) (zag)))) (zad (zaw (zad (zcf) (zad (zdy rfl z_isinstance (zac 0) rfl q_NotClosed (zdn (R:=λC b=>ExcQ _ C/\PySem.W.kitOne _ (.ref C) _=some b) n_Unreached ⟨e_Unreached,i_11⟩)) (zag)))) (zag))))) (zak (zas 1 sc.nd (zbg (zac 1) (zbp (zad (zaw (zad (zcf) (zad (zdy rfl z_isinstance (zac 0) rfl q_Unlike (zdn (R:=λC b=>ExcQ _ C/\PySem.W.kitOne _ (.ref C) _=some b) n_Unreached ⟨e_Unreached,i_10⟩)) (zag)))) (zad (zaw (zad (zcf) (zad (zdy rfl z_isinstance (zac 0) rfl q_NotFull (zdn (R:=λC b=>ExcQ _ C/\PySem.W.kitOne _ (.ref C) _=some b) n_Unreached ⟨e_Unreached,i_9⟩)) (zag)))) (zag)))))) (zak (zas 1 sc.nd (zbg (zac 1) (zbp (zad (zaw (zad (zcf) (zad (zdy rfl z_isinstance (zac 0) rfl q_Unreached (zdn (R:=λC b=>ExcQ _ C/\PySem.W.kitOne _ (.ref C) _=some b) n_Unreached ⟨e_Unreached,i_8⟩)) (zag)))) (zad (zaw (zad (zcf) (zad (zdy rfl z_isinstance (zac 0) rfl q_Clash (zdn (R:=λC b=>ExcQ _ C/\PySem.W.kitOne _ (.ref C) _=some b) n_Unreached ⟨e_Unreached,i_7⟩)) (zag)))) (zag)))))) (zak (zas 1 sc.nd (zbg (zac 1) (zbp (zad (zaw (zad (zcf) (zad (zdy rfl z_isinstance (zac 0) rfl q_NoWords (zdn (R:=λC b=>ExcQ _ C/\PySem.W.kitOne _ (.ref C) _=some b) n_Unreached ⟨e_Unreached,i_6⟩)) (zag)))) (zad (zaw (zad (zcf) (zad (zdy rfl z_isinstance (zac 0) rfl q_NotOpen (zdn (R:=λC b=>ExcQ _ C/\PySem.W.kitOne _ (.ref C) _=some b) n_Unreached ⟨e_Unreached,i_5⟩)) (zag)))) (zag)))))) (zak (zas 1 sc.nd (zbg (zac 1) (zbp (zad (zaw (zad (zcf) (zad (zdy rfl z_isinstance (zac 0) rfl q_NoBack (zdn (R:=λC b=>ExcQ _ C/\PySem.W.kitOne _ (.ref C) _=some b) n_Unreached ⟨e_Unreached,i_4⟩)) (zag)))) (zad (zaw (zad (zcf) (zad (zdy rfl z_isinstance (zac 0) rfl q_NoText (zdn (R:=λC b=>ExcQ _ C/\PySem.W.kitOne _ (.ref C) _=some b) n_Unreached ⟨e_Unreached,i_3⟩)) (zag)))) (zag)))))) (zak (zas 1 sc.nd (zbg (zac 1) (zbp (zad (zaw (zad (zcf) (zad (zdy rfl z_isinstance (zac 0) rfl q_NoName (zdn (R:=λC b=>ExcQ _ C/\PySem.W.kitOne _ (.ref C) _=some b) n_Unreached ⟨e_Unreached,i_2⟩)) (zag)))) (zad (zaw (zad (zcf) (zad (zdy rfl z_isinstance (zac 0) rfl q_NoLine (zdn (R:=λC b=>ExcQ _ C/\PySem.W.kitOne _ (.ref C) _=some b) n_Unreached ⟨e_Unreached,i_1⟩)) (zag)))) (zag)))))) (zat (zbh (zbg (zi2 (N':=["_law_word","_law_flag"]) (ixs:=[none,none]) rfl (zf4 (scO:=za1 (top bd 25)) (NO:=yez) rfl rfl (by decide +kernel)) (zl8 (zac 1)) (λ_ _ _ _ _=>zc3 rfl (zbi (zax 0 zsr) (zbi (zax 1 zsr) (zcu)))) (λ_ _ _ _ _=>zzr (zpu (zac 1))) (λ_ _ _ _ _=>zac 0)) (yav (zbp (zad (zcf) (zag))) (ybv rfl z_int (zad (zyy (ycm (U:="ValueError") rfl z_isinstance (zac 0) rfl z_ValueError (by decide +kernel) (zdn (R:=λC b=>ExcQ _ C/\PySem.W.kitOne _ (.ref C) _=some b) n_Unreached ⟨e_Unreached,i_0⟩))) (zag))))))))))))
theorem ye0:FnScope ["cell","beside"] ["cell","beside"] (za1 (top bd 20)):=⟨rfl,rfl,rfl,by decide +kernel,rfl,by decide +kernel,by decide +kernel⟩
theorem h_m_are_unlike (F:FJ K mg "are_unlike" (top bd 20)):Has P w K mg base "are_unlike" 1 2 zfs:=by
 have sc:=ye0
 refine zda (k:=0) F sc rfl (bl2 λ_ _=>λ_ _ _ _ _ _=>rfl) λf cdv hcd A outer s H E hr=>?_
 exact zat (zbh (zyx (zp6 (zan (zac 0) (zai)) (zan (zac 1) (zai))) (zyw (zp6 (zp7 (zan (zac 0) (zai)) (zbt)) (zp7 (zan (zac 1) (zai)) (zbt))))))
theorem ye1:FnScope ["machine","other","begin","fails","pairs","rows","seen","at","one","two","row","ask","cell","beside","behind"] ["machine","other","begin","fails"] (za1 (top bd 17)):=⟨rfl,rfl,rfl,by decide +kernel,rfl,by decide +kernel,by decide +kernel⟩
theorem h_m_walk_both (F:FJ K mg "walk_both" (top bd 17)) (z_len:mg "len" = none) (z_range:mg "range" = none) (h_m_are_unlike:Has P w K mg base "are_unlike" 1 2 zfs) (fn_are_unlike:Fnc K mg "are_unlike"):Has P w K mg base "walk_both" 2 4 zh0:=by
 have sc:=ye1
 refine zda (k:=1) F sc rfl (bl4 λ_ _ _ _=>λ_ _ _ _ _ _=>rfl) λf cdv hcd A outer s H E hr=>?_
 exact zak (zas 4 sc.nd (zbp (zad (zac 2) (zag)))) (zak (zas 5 sc.nd (zbp (zad (zaw (zag)) (zag)))) (zak (zas 6 sc.nd (yc0 hr hcd (zac 2))) (zak (zas 7 sc.nd (zai)) (zak (zmd zfj PassesOwn.never (zd1 (zac 7) (zbo rfl z_len (zad (zac 4) (zag)))) (zak (zdh (zan (zac 4) (zac 7)) (zc3 rfl (zbi (zax 8 sc.nd) (zbi (zax 9 sc.nd) (zcu))))) (zak (zas 10 sc.nd (zan (zac 5) (zac 7))) (zak (zqn 7 sc.nd (zai)) (zat (ziz PassesOwn.never rfl rfl z_range (zad (zan (zac 0) (zai)) (zag)) (zax 11 sc.nd) (zak (zas 12 sc.nd (zan (zan (zan (zac 0) (zai)) (zac 8)) (zac 11))) (zak (zas 13 sc.nd (zan (zan (zan (zac 1) (zai)) (zac 9)) (zac 11))) (zak (zbv (zpu (ydc hr (zac 3) (zad (zac 12) (zad (zac 13) (zag))) (zar (zar zbc)) (ydd (R:=λx m=>Fnc _ _ x/\∃k,k<=_/\Has _ _ _ _ _ x k _ m) ⟨fn_are_unlike,_,(by decide),h_m_are_unlike⟩))) (zat (zbh (zaw (zad (zbg (zac 10) (zaw (zad (zac 11) (zag)))) (zad (zac 4) (zag)))))) (zbu)) (zak (zas 14 sc.nd (zaw (zad (zan (zac 12) (zai)) (zad (zan (zac 13) (zai)) (zag))))) (zat (zbv (zep (zka (zqt (zbt) (zac 14)) (zj9 (ycx hr (zac 14) (zac 6))))) (zak (zdt (yct hr (zac 6) (zac 14))) (zak (zdt (zet (zac 4) (zac 14))) (zat (zdt (zet (zac 5) (zbg (zac 10) (zaw (zad (zac 11) (zag))))))))) (zbu))))))))))))) (zat (zbh (zaw (zad (zbt) (zad (zac 4) (zag))))))))))
theorem ye2:FnScope ["machine","asks","rooms","found","seen","at","room","row","ask","goes"] ["machine"] (za1 (top bd 15)):=⟨rfl,rfl,rfl,by decide +kernel,rfl,by decide +kernel,by decide +kernel⟩
theorem h_m_reached (F:FJ K mg "reached" (top bd 15)) (z_len:mg "len" = none) (z_range:mg "range" = none):Has P w K mg base "reached" 1 1 ze9:=by
 have sc:=ye2
 refine zda (k:=0) F sc rfl (bl1 λ_=>λ_ _ _ _ _ _=>rfl) λf cdv hcd A outer s H E hr=>?_
 exact zak (zdh (zac 0) (zc3 rfl (zbi (zax 1 sc.nd) (zbi (zax 2 sc.nd) (zcu))))) (zak (zas 3 sc.nd (zbp (zad (zaw (zad (zai) (zad (zaw (zag)) (zag)))) (zag)))) (zak (zas 4 sc.nd (yaq hcd)) (zak (zas 5 sc.nd (zai)) (zak (zmd zfj PassesOwn.never (zd1 (zac 5) (zbo rfl z_len (zad (zac 3) (zag)))) (zak (zdh (zan (zac 3) (zac 5)) (zc3 rfl (zbi (zax 6 sc.nd) (zbi (zax 7 sc.nd) (zcu))))) (zak (zqn 5 sc.nd (zai)) (zat (ziz PassesOwn.never rfl rfl z_range (zad (zac 1) (zag)) (zax 8 sc.nd) (zak (zas 9 sc.nd (zan (zan (zan (zac 2) (zac 6)) (zac 8)) (zai))) (zat (zbv (zep (zka (ziw (zac 9) (zbt)) (zj9 (zqt (zac 9) (zac 4))))) (zak (zdt (yan (zac 4) (zac 9))) (zat (zdt (zet (zac 3) (zaw (zad (zac 9) (zad (zbg (zac 7) (zaw (zad (zac 8) (zag)))) (zag)))))))) (zbu))))))))) (zat (zbh (zac 3)))))))
theorem zss:FnScope ["one","other","machine","many","row","pairs"] ["one","other"] (za1 (top bd 19)):=⟨rfl,rfl,rfl,by decide +kernel,rfl,by decide +kernel,by decide +kernel⟩
theorem zst:List.Nodup (["room","named"]:List Str):=by decide +kernel
noncomputable abbrev ye3:List Str:=["one","other","machine","many","row","pairs"]
theorem h_m_naming (F:FJ K mg "naming" (top bd 19)) (z_tuple:mg "tuple" = none) (z_sorted:mg "sorted" = none) (z_len:mg "len" = none) (h_m_walk_both:Has P w K mg base "walk_both" 2 4 zh0) (h_m_reached:Has P w K mg base "reached" 1 1 ze9) (fn_are_unlike:Fnc K mg "are_unlike") (q_Unreached:mg "Unreached" = some (.ref (CA "Unreached"))) (x_Unreached:PySem.W.excIn K (CA "Unreached") zc8 "ValueError.__new__" = true):Has P w K mg base "naming" 3 2 zft:=by
 have sc:=zss
 refine zda (k:=2) F sc rfl (bl2 λ_ _=>λ_ _ _ _ _ _=>rfl) λf cdv hcd A outer s H E hr=>?_
 exact zak (zf1 PassesOwn.never rfl (zaw (zad (zac 0) (zad (zac 1) (zag)))) (zax 2 sc.nd) (zat (zbv (zd1 (zbo rfl z_len (zad (zbf h_m_reached hr (by decide) rfl (zad (zac 2) (zag)) (zar zbc)) (zag))) (zbo rfl z_len (zad (zan (zac 2) (zai)) (zag)))) (zat (zqb)) (zbu)))) (zak (zas 3 sc.nd (zbo rfl z_len (zad (zan (zac 0) (zai)) (zag)))) (zak (zbv (zep (zis (zfz (zan (zac 0) (zai)) (zan (zac 1) (zai))) (zir (zfz (zbo rfl z_len (zad (zan (zac 1) (zai)) (zag))) (zac 3))))) (zat (zbh (zbt))) (zbu)) (zak (zdh (zbf h_m_walk_both hr (by decide) rfl (zad (zac 0) (zad (zac 1) (zad (zaw (zad (zai) (zad (zai) (zag)))) (zad (yda fn_are_unlike rfl) (zag))))) (zar (zar (zar (zar zbc))))) (zc3 rfl (zbi (zax 4 sc.nd) (zbi (zax 5 sc.nd) (zcu))))) (zak (zbv (zep (zis (ziw (zac 4) (zbt)) (zir (zfz (zbo rfl z_len (zad (zac 5) (zag))) (zac 3))))) (zat (zbh (zbt))) (zbu)) (zat (zbh (zf3 rfl z_tuple (zad (zi2 (N':=["room","named"]) (ixs:=[none,none]) rfl (zf4 (scO:=za1 (top bd 19)) (NO:=ye3) rfl rfl (by decide +kernel)) (zl8 (ydm rfl z_sorted (zad (zac 5) (zag)))) (λ_ _ _ _ _=>zc3 rfl (zbi (zax 0 zst) (zbi (zax 1 zst) (zcu)))) (λ_ _ _ _ _=>zf2) (λ_ _ _ _ _=>zac 1)) (zag)))))))))
theorem hz_naming (F:FJ K mg "naming" (top bd 19)) (z_tuple:mg "tuple" = none) (z_sorted:mg "sorted" = none) (z_len:mg "len" = none) (h_m_walk_both:Has P w K mg base "walk_both" 2 4 zh0) (h_m_reached:Has P w K mg base "reached" 1 1 ze9) (fn_are_unlike:Fnc K mg "are_unlike") (q_Unreached:mg "Unreached" = some (.ref (CA "Unreached"))) (x_Unreached:PySem.W.excIn K (CA "Unreached") zc8 "ValueError.__new__" = true):ze3 P w K mg base CA "naming" 3 2 zjl:=by
 have sc:=zss
 refine yex (k:=2) F sc rfl (bl2 λ_ _=>λ_ _ _ _ _ _=>rfl) λf cdv hcd A outer s H E hr=>?_
 exact zms (yeb PassesOwn.leaving rfl (zaw (zad (zac 0) (zad (zac 1) (zag)))) (zax 2 sc.nd) (zat (zbv (zd1 (zbo rfl z_len (zad (zbf h_m_reached hr (by decide) rfl (zad (zac 2) (zag)) (zar zbc)) (zag))) (zbo rfl z_len (zad (zan (zac 2) (zai)) (zag)))) (zat (zqb)) (zbu))) (zms (yb3 (zd1 (zbo rfl z_len (zad (zbf h_m_reached hr (by decide) rfl (zad (zac 2) (zag)) (zar zbc)) (zag))) (zbo rfl z_len (zad (zan (zac 2) (zai)) (zag)))) (zms (yb4 rfl q_Unreached x_Unreached)) (yb1))))
theorem ye4:FnScope ["_law_one","_law_other","_law_caught","_law_found","e"] ["_law_one","_law_other"] (za1 (top bd 31)):=⟨rfl,rfl,rfl,by decide +kernel,rfl,by decide +kernel,by decide +kernel⟩
theorem h_m_law_told (F:FJ K mg "_law_told" (top bd 31)) (h_m_law_words:Has P w K mg base "_law_words" 1 1 zjk) (h_m_naming:Has P w K mg base "naming" 3 2 zft) (hz_naming:ze3 P w K mg base CA "naming" 3 2 zjl) (q_CellError:mg "CellError" = some (.ref (CA "CellError"))) (x_CellError:PySem.W.excIn K (CA "CellError") zc8 "ValueError.__new__" = true) (x_Unreached:PySem.W.excIn K (CA "Unreached") zc8 "ValueError.__new__" = true) (n_Unreached:PySem.W.nsIn K mainGlobals "Unreached" = some (some (.ref (CA "Unreached")))) (s_Unreached_CellError:(Value.ref (CA "Unreached") :: ze4 K (CA "Unreached")).contains (.ref (CA "CellError"))=true):Has P w K mg base "_law_told" 4 2 zh1:=by
 have sc:=ye4
 refine zda (k:=3) F sc rfl (bl2 λ_ _=>λ_ _ _ _ _ _=>rfl) λf cdv hcd A outer s H E hr=>?_
 exact zak (zas 2 sc.nd (zbt)) (zak (zas 3 sc.nd (zbt)) (zak (ycc (CA:=CA) 4 sc.nd (λ_ _ h=>h) rfl rfl rfl q_CellError x_CellError (ycn ⟨n_Unreached,x_Unreached,s_Unreached_CellError⟩) (λ_=>zat (zas 2 sc.nd (zac 4))) hz_naming hr (by decide) (zad (zac 0) (zad (zac 1) (zag))) (zar (zar zbc)) (zat (zas 3 sc.nd (zbf h_m_naming hr (by decide) rfl (zad (zac 0) (zad (zac 1) (zag))) (zar (zar zbc)))))) (zat (zbh (zkb (zp9 (zac 2) (zbt)) (zaw (zad (zcf) (zad (zac 3) (zag)))) (zbf h_m_law_words hr (by decide) rfl (zad (zac 2) (zag)) (zar zbc)))))))
theorem ye5:FnScope ["_law_rooms","_law_row","_law_room","_law_ask"] ["_law_rooms","_law_row"] (za1 (top bd 27)):=⟨rfl,rfl,rfl,by decide +kernel,rfl,by decide +kernel,by decide +kernel⟩
theorem h_m_law_end (F:FJ K mg "_law_end" (top bd 27)):Has P w K mg base "_law_end" 1 2 zh2:=by
 have sc:=ye5
 refine zda (k:=0) F sc rfl (bl2 λ_ _=>λ_ _ _ _ _ _=>rfl) λf cdv hcd A outer s H E hr=>?_
 exact zak (zas 2 sc.nd (zai)) (zak (zf1 PassesOwn.never rfl (zac 1) (zax 3 sc.nd) (zak (zbv (zp9 (zac 2) (zbt)) (zat (zbh (zbt))) (zbu)) (zat (zas 2 sc.nd (zan (zan (zan (zac 0) (zac 2)) (zac 3)) (zai)))))) (zat (zbh (zac 2))))
theorem ye6:FnScope ["_law_rooms","_law_found","_law_left","_law_room","_law_ask","_law_cell"] ["_law_rooms"] (za1 (top bd 26)):=⟨rfl,rfl,rfl,by decide +kernel,rfl,by decide +kernel,by decide +kernel⟩
theorem h_m_law_ways (F:FJ K mg "_law_ways" (top bd 26)) (z_enumerate:mg "enumerate" = none):Has P w K mg base "_law_ways" 1 1 zh3:=by
 have sc:=ye6
 refine zda (k:=0) F sc rfl (bl1 λ_=>λ_ _ _ _ _ _=>rfl) λf cdv hcd A outer s H E hr=>?_
 exact zak (zas 1 sc.nd (yea (zaw (zag)))) (zak (zas 2 sc.nd (zbp (zad (zai) (zag)))) (zak (zmd zfj PassesOwn.never (ya3 hr (zac 2) (zbp (zag))) (zak (zas 3 sc.nd (zmg (zac 2) (zai))) (zat (zmq PassesOwn.never rfl (zq6 rfl z_enumerate (zad (zan (zac 0) (zac 3)) (zag))) (zc3 rfl (zbi (zax 4 sc.nd) (zbi (zax 5 sc.nd) (zcu)))) (zat (zbv (zep (zka (ziw (zan (zac 5) (zai)) (zbt)) (zj9 (yc4 hr (zan (zac 5) (zai)) (zac 1))))) (zak (yc7 hr (zac 1) (zan (zac 5) (zai)) (zbg (zrl hr (zac 1) (zac 3)) (zaw (zad (zac 4) (zag))))) (zat (zdt (zet (zac 2) (zan (zac 5) (zai)))))) (zbu))))))) (zat (zbh (zac 1)))))
theorem ye7:FnScope ["_law_one","_law_other","_law_ways_here","_law_found","_law_room","_law_cells","_law_cell","_law_twin","_law_goes"] ["_law_one","_law_other"] (za1 (top bd 28)):=⟨rfl,rfl,rfl,by decide +kernel,rfl,by decide +kernel,by decide +kernel⟩
theorem ye8:List.Nodup (["_law_room","_law_other","_law_ways_here"]:List Str):=by decide +kernel
noncomputable abbrev ye9:List Str:=["_law_one","_law_other","_law_ways_here","_law_found","_law_room","_law_cells","_law_cell","_law_twin","_law_goes"]
theorem h_m_law_due (F:FJ K mg "_law_due" (top bd 28)) (z_tuple:mg "tuple" = none) (z_zip:mg "zip" = none) (z_enumerate:mg "enumerate" = none) (z_len:mg "len" = none) (z_set:mg "set" = none) (z_range:mg "range" = none) (h_m_law_end:Has P w K mg base "_law_end" 1 2 zh2) (h_m_law_ways:Has P w K mg base "_law_ways" 1 1 zh3):Has P w K mg base "_law_due" 2 2 zh4:=by
 have sc:=ye7
 refine zda (k:=1) F sc rfl (bl2 λ_ _=>λ_ _ _ _ _ _=>rfl) λf cdv hcd A outer s H E hr=>?_
 exact zak (zas 2 sc.nd (zbf h_m_law_ways hr (by decide) rfl (zad (zan (zac 0) (zai)) (zag)) (zar zbc))) (zak (zbv (zep (zis (zd1 (zr0 rfl z_len (zad (zac 2) (zag))) (zbo rfl z_len (zad (zan (zac 0) (zai)) (zag)))) (zir (zd1 (zr0 rfl z_len (zad (zbf h_m_law_ways hr (by decide) rfl (zad (zan (zac 1) (zai)) (zag)) (zar zbc)) (zag))) (zbo rfl z_len (zad (zan (zac 1) (zai)) (zag))))))) (zat (zbh (zcf))) (zbu)) (zak (zbv (zep (zis (zfz (zan (zac 0) (zai)) (zan (zac 1) (zai))) (zir (zfz (zbo rfl z_len (zad (zan (zac 0) (zai)) (zag))) (zbo rfl z_len (zad (zan (zac 1) (zai)) (zag))))))) (zat (zbh (zbt))) (zbu)) (zak (zl9 3 sc.nd (N':=["_law_room","_law_other","_law_ways_here"]) (ixs:=[none,some 1,some 2]) rfl (zf4 (scO:=za1 (top bd 28)) (NO:=ye9) rfl rfl (by decide +kernel)) (zi1 rfl z_range (zad (zbo rfl z_len (zad (zan (zac 0) (zai)) (zag))) (zag))) (λ_ _ _ _ _=>zax 0 ye8) (λ_ _ _ _ _=>zf2) (λ_ _ _ _ _=>zbf h_m_law_end hr (by decide) rfl (zad (zan (zac 1) (zai)) (zad (zrl hr (zac 2) (zac 0)) (zag))) (zar (zar zbc)))) (zak (zbv (zep (zis (yak (zbt) (zac 3)) (zir (zd1 (yd7 rfl z_len (zad (yee hr rfl z_set (zad (zac 3) (zag))) zag)) (zbo rfl z_len (zad (zac 3) (zag))))))) (zat (zbh (zbt))) (zbu)) (zak (zmq PassesOwn.never rfl (zq6 rfl z_enumerate (zad (zan (zac 0) (zai)) (zag))) (zc3 rfl (zbi (zax 4 sc.nd) (zbi (zax 5 sc.nd) (zcu)))) (zat (zmq PassesOwn.never rfl (yd3 rfl z_zip (zad (zac 5) (zad (zan (zan (zac 1) (zai)) (zan (zac 3) (zac 4))) (zag)))) (zc3 rfl (zbi (zax 6 sc.nd) (zbi (zax 7 sc.nd) (zcu)))) (zak (zas 8 sc.nd (zan (zac 6) (zai))) (zak (zbv (ziw (zac 8) (zbt)) (zat (zas 8 sc.nd (zan (zac 3) (zac 8)))) (zbu)) (zat (zbv (yai hr (zac 7) (zaw (zad (zac 8) (zad (zan (zac 6) (zai)) (zag))))) (zat (zbh (zbt))) (zbu)))))))) (zat (zbh (zf3 rfl z_tuple (zad (zac 3) (zag))))))))))
theorem yfa:FnScope ["_law_pen_here","_law_many","_law_digit","_law_script","_law_at","_law_cell","_law_prime","_law_number"] ["_law_pen_here","_law_many"] (za1 (top bd 23)):=⟨rfl,rfl,rfl,by decide +kernel,rfl,by decide +kernel,by decide +kernel⟩
theorem h_m_law_draw (F:FJ K mg "_law_draw" (top bd 23)) (z_len:mg "len" = none) (z_abs:mg "abs" = none):Has P w K mg base "_law_draw" 1 2 zb3:=by
 have sc:=yfa
 refine zda (k:=0) F sc rfl (bl2 λ_ _=>λ_ _ _ _ _ _=>rfl) λf cdv hcd A outer s H E hr=>?_
 exact zak (zbv (ziv (zan (zac 0) (zai)) (zai)) (zak (zas 2 sc.nd (zds (zan (zac 0) (zai)) (zac 1))) (zak (zdh (zkf (zan (zac 0) (zai)) (zac 1)) (ziy (zac 0) (zai))) (zat (zbh (zac 2))))) (zbu)) (zak (zdh (ze2 (zac 0) (zer) (zes (zai))) (ybi rfl (zbi (zax 3 sc.nd) (zbi (zax 4 sc.nd) (zcu))))) (zak (zdh (zbg (zac 4) (zai)) (ziy (zac 0) (zai))) (zak (zas 5 sc.nd (zbg (zkk (zai) (zac 4)) (zai))) (zak (zbv (ziv (zbo rfl z_len (zad (zac 3) (zag))) (zai)) (zak (zas 5 sc.nd (zan (zac 3) (zds (zac 4) (zbo rfl z_len (zad (zac 3) (zag)))))) (zat (zbv (zep (zka (zd1 (zac 4) (zbo rfl z_len (zad (zac 3) (zag)))) (zj9 (zy0 (zmb rfl z_abs (zad (zac 5) (zag))) (zlz (zai) (zai)))))) (zak (zdh (zkf (zmb rfl z_abs (zad (zac 5) (zag))) (zac 1)) (ziy (zac 0) (zai))) (zat (zbh (zds (zmb rfl z_abs (zad (zac 5) (zag))) (zac 1))))) (zbu)))) (zbu)) (zak (zas 6 sc.nd (zan (zbp (zad (zai) (zad (zai) (zad (zai) (zad (zai) (zad (zai) (zag))))))) (zds (zac 4) (zai)))) (zak (zas 7 sc.nd (zds (zlz (zbg (zbg (zds (zac 5) (zac 6)) (zkk (zai) (zac 4))) (zai)) (zai)) (zac 6))) (zak (zas 7 sc.nd (zds (zlz (zbg (zkk (zac 7) (zbg (zac 4) (zai))) (zai)) (zai)) (zai))) (zat (zbh (zds (zkf (zac 7) (zai)) (zac 1)))))))))))
theorem yfb:FnScope ["_law_pen_here","_law_most","_law_share","_law_many","_law_asks","_law_answers","_law_goes","_law_free","_law_room","_law_spot","_law_found","_law_cells","_law_ask","_law_answer"] ["_law_pen_here","_law_most"] (za1 (top bd 24)):=⟨rfl,rfl,rfl,by decide +kernel,rfl,by decide +kernel,by decide +kernel⟩
theorem yfc:List.Nodup (["_law_room","_law_asks"]:List Str):=by decide +kernel
theorem zsu:List.Nodup (["_law_ask"]:List Str):=by decide +kernel
theorem yfd:List.Nodup (["_law_ask","_law_room"]:List Str):=by decide +kernel
noncomputable abbrev zm7:List Str:=["_law_pen_here","_law_most","_law_share","_law_many","_law_asks","_law_answers","_law_goes","_law_free","_law_room","_law_spot","_law_found","_law_cells","_law_ask","_law_answer"]
theorem h_m_law_reaching (F:FJ K mg "_law_reaching" (top bd 24)) (z_tuple:mg "tuple" = none) (z_range:mg "range" = none) (z_len:mg "len" = none) (h_m_law_draw:Has P w K mg base "_law_draw" 1 2 zb3):Has P w K mg base "_law_reaching" 2 2 zgv:=by
 have sc:=yfb
 refine zda (k:=1) F sc rfl (bl2 λ_ _=>λ_ _ _ _ _ _=>rfl) λf cdv hcd A outer s H E hr=>?_
 exact zak (zas 2 sc.nd (zan (zbp (zad (zai) (zad (zai) (zad (zai) (zad (zai) (zag)))))) (zbf h_m_law_draw hr (by decide) rfl (zad (zac 0) (zad (zai) (zag))) (zar (zar zbc))))) (zak (zas 3 sc.nd (zbg (zai) (zbf h_m_law_draw hr (by decide) rfl (zad (zac 0) (zad (zan (zbp (zad (zai) (zad (zac 1) (zag)))) (zbf h_m_law_draw hr (by decide) rfl (zad (zac 0) (zad (zai) (zag))) (zar (zar zbc)))) (zag))) (zar (zar zbc))))) (zak (zas 4 sc.nd (zbg (zai) (zbf h_m_law_draw hr (by decide) rfl (zad (zac 0) (zad (zai) (zag))) (zar (zar zbc))))) (zak (zas 5 sc.nd (zan (zbp (zad (zai) (zad (zai) (zad (zai) (zad (zai) (zag)))))) (zbf h_m_law_draw hr (by decide) rfl (zad (zac 0) (zad (zai) (zag))) (zar (zar zbc))))) (zak (zl9 6 sc.nd (N':=["_law_room","_law_asks"]) (ixs:=[none,some 4]) rfl (zf4 (scO:=za1 (top bd 24)) (NO:=zm7) rfl rfl (by decide +kernel)) (zi1 rfl z_range (zad (zac 3) (zag))) (λ_ _ _ _ _=>zax 0 yfc) (λ_ _ _ _ _=>zf2) (λ_ _ _ _ _=>zi2 (N':=["_law_ask"]) (ixs:=[none]) rfl (ybj (by decide +kernel)) (zi1 rfl z_range (zad (zac 1) (zag))) (λ_ _ _ _ _=>zax 0 zsu) (λ_ _ _ _ _=>zf2) (λ_ _ _ _ _=>zbt))) (zak (zl9 7 sc.nd (N':=["_law_ask"]) (ixs:=[none]) rfl (zf4 (scO:=za1 (top bd 24)) (NO:=zm7) rfl rfl (by decide +kernel)) (zi1 rfl z_range (zad (zac 4) (zag))) (λ_ _ _ _ _=>zax 0 zsu) (λ_ _ _ _ _=>zf2) (λ_ _ _ _ _=>zaw (zad (zai) (zad (zac 0) (zag))))) (zak (zzi PassesOwn.never rfl rfl z_range (zad (zai) (zad (zac 3) (zag))) (zax 8 sc.nd) (zak (zas 9 sc.nd (zmg (zac 7) (zbf h_m_law_draw hr (by decide) rfl (zad (zac 0) (zad (zbo rfl z_len (zad (zac 7) (zag))) (zag))) (zar (zar zbc))))) (zak (zdh (zac 8) (ziy (zan (zac 6) (zan (zac 9) (zai))) (zan (zac 9) (zai)))) (zat (zdt (yat (zac 7) (zi2 (N':=["_law_ask","_law_room"]) (ixs:=[none,some 8]) rfl (zf4 (scO:=za1 (top bd 24)) (NO:=zm7) rfl rfl (by decide +kernel)) (zi1 rfl z_range (zad (zac 4) (zag))) (λ_ _ _ _ _=>zax 0 yfd) (λ_ _ _ _ _=>zf2) (λ_ _ _ _ _=>zaw (zad (zac 1) (zad (zac 0) (zag))))))))))) (zak (zf1 PassesOwn.never rfl (zac 7) (zax 9 sc.nd) (zat (zbv (ziv (zbf h_m_law_draw hr (by decide) rfl (zad (zac 0) (zad (zac 2) (zag))) (zar (zar zbc))) (zai)) (zat (zdh (zbf h_m_law_draw hr (by decide) rfl (zad (zac 0) (zad (zac 3) (zag))) (zar (zar zbc))) (ziy (zan (zac 6) (zan (zac 9) (zai))) (zan (zac 9) (zai))))) (zbu)))) (zak (zas 10 sc.nd (zbp (zag))) (zak (ziz PassesOwn.never rfl rfl z_range (zad (zac 3) (zag)) (zax 8 sc.nd) (zak (zas 11 sc.nd (zbp (zag))) (zak (ziz PassesOwn.never rfl rfl z_range (zad (zac 4) (zag)) (zax 12 sc.nd) (zak (zas 13 sc.nd (zbf h_m_law_draw hr (by decide) rfl (zad (zac 0) (zad (zac 5) (zag))) (zar (zar zbc)))) (zat (zdt (zet (zac 11) (zaw (zad (zan (zan (zac 6) (zac 8)) (zac 12)) (zad (zkb (ziv (zbf h_m_law_draw hr (by decide) rfl (zad (zac 0) (zad (zbg (zac 2) (zai)) (zag))) (zar (zar zbc))) (zai)) (zac 13) (zbt)) (zag))))))))) (zat (zdt (zet (zac 10) (zf3 rfl z_tuple (zad (zac 11) (zag))))))))) (zat (zbh (zaw (zad (zac 4) (zad (zf3 rfl z_tuple (zad (zac 10) (zag))) (zag)))))))))))))))
theorem yfe:FnScope ["_law_pen_here","_law_machine","_law_way","_law_spot","_law_asks","_law_rooms","_law_room","_law_ask","_law_goes","_law_answer","_law_cell","_law_cells"] ["_law_pen_here","_law_machine","_law_way","_law_spot"] (za1 (top bd 30)):=⟨rfl,rfl,rfl,by decide +kernel,rfl,by decide +kernel,by decide +kernel⟩
theorem yff:List.Nodup (["_law_cells","_law_asks"]:List Str):=by decide +kernel
noncomputable abbrev yfg:List Str:=["_law_pen_here","_law_machine","_law_way","_law_spot","_law_asks","_law_rooms","_law_room","_law_ask","_law_goes","_law_answer","_law_cell","_law_cells"]
theorem h_m_law_bent (F:FJ K mg "_law_bent" (top bd 30)) (z_tuple:mg "tuple" = none) (z_list:mg "list" = none) (z_range:mg "range" = none) (z_len:mg "len" = none) (h_m_law_reaching:Has P w K mg base "_law_reaching" 2 2 zgv) (h_m_law_draw:Has P w K mg base "_law_draw" 1 2 zb3):Has P w K mg base "_law_bent" 3 4 zjm:=by
 have sc:=yfe
 refine zda (k:=2) F sc rfl (bl4 λ_ _ _ _=>λ_ _ _ _ _ _=>rfl) λf cdv hcd A outer s H E hr=>?_
 exact zak (zdh (zac 1) (zc3 rfl (zbi (zax 4 sc.nd) (zbi (zax 5 sc.nd) (zcu))))) (zak (zas 6 sc.nd (zds (zac 3) (zbo rfl z_len (zad (zac 5) (zag))))) (zak (zas 7 sc.nd (zds (zkf (zac 3) (zbo rfl z_len (zad (zac 5) (zag)))) (zac 4))) (zak (zdh (zan (zan (zac 5) (zac 6)) (zac 7)) (zc3 rfl (zbi (zax 8 sc.nd) (zbi (zax 9 sc.nd) (zcu))))) (zak (zbv (zd1 (zac 2) (zai)) (zak (zas 10 sc.nd (zaw (zad (zac 8) (zad (zan (zbp (zad (zbt) (zad (zai) (zad (zai) (zad (zai) (zad (zai) (zag))))))) (zbf h_m_law_draw hr (by decide) rfl (zad (zac 0) (zad (zai) (zag))) (zar (zar zbc)))) (zag))))) (zak (zbv (ziv (zac 2) (zai)) (zat (zas 10 sc.nd (zaw (zad (zan (zbg (zbp (zad (zbt) (zag))) (yaz rfl rfl z_list rfl z_range (zad (zbo rfl z_len (zad (zac 5) (zag))) (zag)))) (zbf h_m_law_draw hr (by decide) rfl (zad (zac 0) (zad (zbg (zbo rfl z_len (zad (zac 5) (zag))) (zai)) (zag))) (zar (zar zbc)))) (zad (zac 9) (zag)))))) (zbu)) (zak (zas 11 sc.nd (zbg (zbg (ze2 (zan (zac 5) (zac 6)) (zer) (zes (zac 7))) (zaw (zad (zac 10) (zag)))) (ze2 (zan (zac 5) (zac 6)) (zes (zbg (zac 7) (zai))) (zer)))) (zat (zbh (zaw (zad (zac 4) (zad (zbg (zbg (ze2 (zac 5) (zer) (zes (zac 6))) (zaw (zad (zac 11) (zag)))) (ze2 (zac 5) (zes (zbg (zac 6) (zai))) (zer))) (zag))))))))) (zbu)) (zak (zbv (zp8 (zac 2) (zai)) (zat (zbh (zaw (zad (zac 4) (zad (zbg (ze2 (zac 5) (zer) (zes (zai))) (zaw (zad (zkk (zaw (zad (zaw (zad (zai) (zad (zai) (zag)))) (zag))) (zac 4)) (zag)))) (zag)))))) (zbu)) (zak (zbv (zp8 (zac 2) (zai)) (zat (zbh (zaw (zad (zbg (zds (zac 4) (zai)) (zai)) (zad (zf3 rfl z_tuple (zad (zi2 (N':=["_law_cells","_law_asks"]) (ixs:=[none,some 4]) rfl (zf4 (scO:=za1 (top bd 30)) (NO:=yfg) rfl rfl (by decide +kernel)) (zl8 (zac 5)) (λ_ _ _ _ _=>zax 0 yff) (λ_ _ _ _ _=>zf2) (λ_ _ _ _ _=>ze2 (zbg (zac 0) (ze2 (zac 0) (zer) (zes (zai)))) (zer) (zes (zbg (zds (zac 1) (zai)) (zai))))) (zag))) (zag)))))) (zbu)) (zat (zbh (zbf h_m_law_reaching hr (by decide) rfl (zad (zac 0) (zad (zan (zbp (zad (zai) (zad (zai) (zag)))) (zyz (zac 2) (zai))) (zag))) (zar (zar zbc)))))))))))
theorem yfh:FnScope ["_law_pen_here","_law_machine","_law_asks","_law_rooms","_law_left","_law_order","_law_room","_law_found","_law_cells","_law_goes","_law_answer"] ["_law_pen_here","_law_machine"] (za1 (top bd 29)):=⟨rfl,rfl,rfl,by decide +kernel,rfl,by decide +kernel,by decide +kernel⟩
theorem h_m_law_turned (F:FJ K mg "_law_turned" (top bd 29)) (z_tuple:mg "tuple" = none) (z_len:mg "len" = none) (z_list:mg "list" = none) (z_range:mg "range" = none) (h_m_law_draw:Has P w K mg base "_law_draw" 1 2 zb3):Has P w K mg base "_law_turned" 2 2 zjn:=by
 have sc:=yfh
 refine zda (k:=1) F sc rfl (bl2 λ_ _=>λ_ _ _ _ _ _=>rfl) λf cdv hcd A outer s H E hr=>?_
 exact zak (zdh (zac 1) (zc3 rfl (zbi (zax 2 sc.nd) (zbi (zax 3 sc.nd) (zcu))))) (zak (zas 4 sc.nd (yay rfl rfl z_list rfl z_range (zad (zai) (zad (zbo rfl z_len (zad (zac 3) (zag))) (zag))))) (zak (zas 5 sc.nd (zbp (zad (zai) (zag)))) (zak (zf1 PassesOwn.never rfl (ze2 (zac 3) (zes (zai)) (zer)) (zax 6 sc.nd) (zat (zdt (zet (zac 5) (zmg (zac 4) (zbf h_m_law_draw hr (by decide) rfl (zad (zac 0) (zad (zbo rfl z_len (zad (zac 4) (zag))) (zag))) (zar (zar zbc)))))))) (zak (zas 7 sc.nd (zbp (zag))) (zak (zf1 PassesOwn.never rfl (zac 5) (zax 6 sc.nd) (zak (zas 8 sc.nd (zbp (zag))) (zak (zf1 PassesOwn.never rfl (zan (zac 3) (zac 6)) (zc3 rfl (zbi (zax 9 sc.nd) (zbi (zax 10 sc.nd) (zcu)))) (zat (zdt (zet (zac 8) (zaw (zad (zkb (ziw (zac 9) (zbt)) (ydr hr (zac 5) (zac 9)) (zbt)) (zad (zac 10) (zag)))))))) (zat (zdt (zet (zac 7) (zf3 rfl z_tuple (zad (zac 8) (zag))))))))) (zat (zbh (zaw (zad (zac 2) (zad (zf3 rfl z_tuple (zad (zac 7) (zag))) (zag)))))))))))
theorem yfi:FnScope ["_law_script"] ["_law_script"] (za1 (top bd 22)):=⟨rfl,rfl,rfl,by decide +kernel,rfl,by decide +kernel,by decide +kernel⟩
theorem h_m_law_pen (F:FJ K mg "_law_pen" (top bd 22)):Has P w K mg base "_law_pen" 1 1 zk3:=by
 have sc:=yfi
 refine zda (k:=0) F sc rfl (bl1 λ_=>λ_ _ _ _ _ _=>rfl) λf cdv hcd A outer s H E hr=>?_
 exact zat (zbh (zbp (zad (zac 0) (zad (zai) (zad (zai) (zag))))))
theorem yfj:FnScope ["_law_script","_law_pen_here","_law_turn","_law_way","_law_spot","_law_one","_law_other","_law_kept","_law_first","_law_second","_law_due_here","_law_word"] ["_law_script"] (za1 (top bd 32)):=⟨rfl,rfl,rfl,by decide +kernel,rfl,by decide +kernel,by decide +kernel⟩
theorem yfk {f:Addr}{fd:FuncData}(F:Fun K "law" "law" (top bd 32) f fd) (z_repr:mg "repr" = none) (z_range:mg "range" = none) (h_m_law_told:Has P w K mg base "_law_told" 4 2 zh1) (h_m_law_due:Has P w K mg base "_law_due" 2 2 zh4) (h_m_law_bent:Has P w K mg base "_law_bent" 3 4 zjm) (h_m_law_turned:Has P w K mg base "_law_turned" 2 2 zjn) (h_m_law_reaching:Has P w K mg base "_law_reaching" 2 2 zgv) (h_m_law_draw:Has P w K mg base "_law_draw" 1 2 zb3) (h_m_law_pen:Has P w K mg base "_law_pen" 1 1 zk3):FnOk P w K mg base CX0 5 f fd ["_law_script"] (sp3 K 1 zfu):=by
 have sc:=yfj
 refine zqd (k:=4) F sc rfl λcdv hcd A outer s H E hr=>?_
 exact zak (zas 1 sc.nd (zbf h_m_law_pen hr (by decide) rfl (zad (zac 0) (zag)) (zar zbc))) (zak (ziz PassesOwn.never rfl rfl z_range (zad (zai) (zag)) (zax 2 sc.nd) (zak (zas 3 sc.nd (zbf h_m_law_draw hr (by decide) rfl (zad (zac 1) (zad (zai) (zag))) (zar (zar zbc)))) (zak (zas 4 sc.nd (zbf h_m_law_draw hr (by decide) rfl (zad (zac 1) (zad (zai) (zag))) (zar (zar zbc)))) (zak (zas 5 sc.nd (zbf h_m_law_reaching hr (by decide) rfl (zad (zac 1) (zad (zai) (zag))) (zar (zar zbc)))) (zak (zas 6 sc.nd (zbf h_m_law_turned hr (by decide) rfl (zad (zac 1) (zad (zac 5) (zag))) (zar (zar zbc)))) (zak (zbv (zd1 (zac 3) (zai)) (zat (zas 6 sc.nd (zbf h_m_law_bent hr (by decide) rfl (zad (zac 1) (zad (zac 6) (zad (zac 3) (zad (zac 4) (zag))))) (zar (zar (zar (zar zbc))))))) (zbu)) (zak (zas 7 sc.nd (zkj hr rfl z_repr (zad (zaw (zad (zac 5) (zad (zac 6) (zag)))) (zag)))) (zak (zf1 PassesOwn.never rfl (zaw (zad (zaw (zad (zac 5) (zad (zac 6) (zag)))) (zad (zaw (zad (zac 6) (zad (zac 5) (zag)))) (zad (zaw (zad (zac 5) (zad (zac 5) (zag)))) (zad (zaw (zad (zac 5) (zad (zac 6) (zag)))) (zag)))))) (zc3 rfl (zbi (zax 8 sc.nd) (zbi (zax 9 sc.nd) (zcu)))) (zak (zas 10 sc.nd (zbf h_m_law_due hr (by decide) rfl (zad (zac 8) (zad (zac 9) (zag))) (zar (zar zbc)))) (zak (zas 11 sc.nd (zkb (yah hr (zac 10) (zcf)) (zbp (zad (zcf) (zag))) (zaw (zad (zcf) (zad (zac 10) (zag)))))) (zat (zbv (zfz (zkj hr rfl z_repr (zad (zbf h_m_law_told hr (by decide) rfl (zad (zac 8) (zad (zac 9) (zag))) (zar (zar zbc))) (zag))) (zkj hr rfl z_repr (zad (zac 11) (zag)))) (zat (zbh (zlw))) (zbu)))))) (zat (zbv (zfz (zkj hr rfl z_repr (zad (zaw (zad (zac 5) (zad (zac 6) (zag)))) (zag))) (zac 7)) (zat (zbh (zlw))) (zbu))))))))))) (zat (zbh (zlw))))
end
theorem all_mk {l:PySem.W.OpenLaw}{w:World}{K:QFg}{h:Heap}{mg:Str->Option Value}{fa:Addr}(X:K.In h) (G:h.Ns mainGlobals mg) (hfa:mg "law" = some (.ref fa)) {g_NoLine g_NoName g_NoText g_NoBack g_NotOpen g_NoWords g_Clash g_Unreached g_NotFull g_Unlike g_NotClosed g_TooMany g_CellError:Addr}
  (a0:FI K "_law_words" (top bd 25))
  (a1:FI K "are_unlike" (top bd 20))
  (a2:FI K "walk_both" (top bd 17))
  (a3:FI K "reached" (top bd 15))
  (a4:FI K "naming" (top bd 19))
  (a5:FI K "_law_told" (top bd 31))
  (a6:FI K "_law_end" (top bd 27))
  (a7:FI K "_law_ways" (top bd 26))
  (a8:FI K "_law_due" (top bd 28))
  (a9:FI K "_law_draw" (top bd 23))
  (a10:FI K "_law_reaching" (top bd 24))
  (a11:FI K "_law_bent" (top bd 30))
  (a12:FI K "_law_turned" (top bd 29))
  (a13:FI K "_law_pen" (top bd 22))
  (a14:FI K "law" (top bd 32))
  (z_int:PySem.W.nsIn K mainGlobals "int" = some none)
  (z_isinstance:PySem.W.nsIn K mainGlobals "isinstance" = some none)
  (z_ValueError:PySem.W.nsIn K mainGlobals "ValueError" = some none)
  (z_len:PySem.W.nsIn K mainGlobals "len" = some none)
  (z_range:PySem.W.nsIn K mainGlobals "range" = some none)
  (z_tuple:PySem.W.nsIn K mainGlobals "tuple" = some none)
  (z_sorted:PySem.W.nsIn K mainGlobals "sorted" = some none)
  (z_enumerate:PySem.W.nsIn K mainGlobals "enumerate" = some none)
  (z_zip:PySem.W.nsIn K mainGlobals "zip" = some none)
  (z_set:PySem.W.nsIn K mainGlobals "set" = some none)
  (z_abs:PySem.W.nsIn K mainGlobals "abs" = some none)
  (z_list:PySem.W.nsIn K mainGlobals "list" = some none)
  (z_repr:PySem.W.nsIn K mainGlobals "repr" = some none)
  (a_NoLine:PySem.W.nsIn K mainGlobals "NoLine" = some (some (.ref g_NoLine)))
  (a_NoName:PySem.W.nsIn K mainGlobals "NoName" = some (some (.ref g_NoName)))
  (a_NoText:PySem.W.nsIn K mainGlobals "NoText" = some (some (.ref g_NoText)))
  (a_NoBack:PySem.W.nsIn K mainGlobals "NoBack" = some (some (.ref g_NoBack)))
  (a_NotOpen:PySem.W.nsIn K mainGlobals "NotOpen" = some (some (.ref g_NotOpen)))
  (a_NoWords:PySem.W.nsIn K mainGlobals "NoWords" = some (some (.ref g_NoWords)))
  (a_Clash:PySem.W.nsIn K mainGlobals "Clash" = some (some (.ref g_Clash)))
  (a_Unreached:PySem.W.nsIn K mainGlobals "Unreached" = some (some (.ref g_Unreached)))
  (a_NotFull:PySem.W.nsIn K mainGlobals "NotFull" = some (some (.ref g_NotFull)))
  (a_Unlike:PySem.W.nsIn K mainGlobals "Unlike" = some (some (.ref g_Unlike)))
  (a_NotClosed:PySem.W.nsIn K mainGlobals "NotClosed" = some (some (.ref g_NotClosed)))
  (a_TooMany:PySem.W.nsIn K mainGlobals "TooMany" = some (some (.ref g_TooMany)))
  (a_CellError:PySem.W.nsIn K mainGlobals "CellError" = some (some (.ref g_CellError)))
  (x_Unreached:PySem.W.excIn K g_Unreached zc8 "ValueError.__new__" = true)
  (x_CellError:PySem.W.excIn K g_CellError zc8 "ValueError.__new__" = true)
  (s_Unreached_CellError:(Value.ref g_Unreached :: ze4 K g_Unreached).contains (.ref g_CellError)=true)
  (o_Unreached:PySem.W.mroIn K g_Unreached (.type "object")=some true) (d_Unreached:PySem.W.findIn K (.ref g_Unreached) "__class__" = some (some (.builtin "object.__class__"))) (ga_Unreached:PySem.W.findIn K (.ref g_Unreached) "__getattribute__" = some (some (.builtin "BaseException.__getattribute__"))) (gr_Unreached:PySem.W.findIn K (.ref g_Unreached) "__getattr__" = some none) (is_Unreached:(PySem.W.clsIn K g_Unreached).isSome=true)
  (i_0:PySem.W.kitOne K (.ref g_Unreached) (.type "ValueError")=some true)
  (i_1:PySem.W.kitOne K (.ref g_Unreached) (.ref g_NoLine)=some false)
  (i_2:PySem.W.kitOne K (.ref g_Unreached) (.ref g_NoName)=some false)
  (i_3:PySem.W.kitOne K (.ref g_Unreached) (.ref g_NoText)=some false)
  (i_4:PySem.W.kitOne K (.ref g_Unreached) (.ref g_NoBack)=some false)
  (i_5:PySem.W.kitOne K (.ref g_Unreached) (.ref g_NotOpen)=some false)
  (i_6:PySem.W.kitOne K (.ref g_Unreached) (.ref g_NoWords)=some false)
  (i_7:PySem.W.kitOne K (.ref g_Unreached) (.ref g_Clash)=some false)
  (i_8:PySem.W.kitOne K (.ref g_Unreached) (.ref g_Unreached)=some true)
  (i_9:PySem.W.kitOne K (.ref g_Unreached) (.ref g_NotFull)=some false)
  (i_10:PySem.W.kitOne K (.ref g_Unreached) (.ref g_Unlike)=some false)
  (i_11:PySem.W.kitOne K (.ref g_Unreached) (.ref g_NotClosed)=some false)
  (i_12:PySem.W.kitOne K (.ref g_Unreached) (.ref g_TooMany)=some false) :
  ∃fd:FuncData,(∀(s:Shared) (v:Value),BindsTo s fd ⟨[v],[]⟩ [("_law_script",v)])/\∀base:Heap,K.In base->base.Ns mainGlobals mg->FnOk l.prog w K mg base CX0 5 fa fd ["_law_script"] (sp3 K 1 zfu):=by
 have y_int:=PySem.W.mg_none_of X G z_int
 have y_isinstance:=PySem.W.mg_none_of X G z_isinstance
 have y_ValueError:=PySem.W.mg_none_of X G z_ValueError
 have y_len:=PySem.W.mg_none_of X G z_len
 have y_range:=PySem.W.mg_none_of X G z_range
 have y_tuple:=PySem.W.mg_none_of X G z_tuple
 have y_sorted:=PySem.W.mg_none_of X G z_sorted
 have y_enumerate:=PySem.W.mg_none_of X G z_enumerate
 have y_zip:=PySem.W.mg_none_of X G z_zip
 have y_set:=PySem.W.mg_none_of X G z_set
 have y_abs:=PySem.W.mg_none_of X G z_abs
 have y_list:=PySem.W.mg_none_of X G z_list
 have y_repr:=PySem.W.mg_none_of X G z_repr
 obtain ⟨CA,ca_NoLine,ca_NoName,ca_NoText,ca_NoBack,ca_NotOpen,ca_NoWords,ca_Clash,ca_Unreached,ca_NotFull,ca_Unlike,ca_NotClosed,ca_TooMany,ca_CellError⟩:∃CA:Str->Addr,CA "NoLine" = g_NoLine/\CA "NoName" = g_NoName/\CA "NoText" = g_NoText/\CA "NoBack" = g_NoBack/\CA "NotOpen" = g_NotOpen/\CA "NoWords" = g_NoWords/\CA "Clash" = g_Clash/\CA "Unreached" = g_Unreached/\CA "NotFull" = g_NotFull/\CA "Unlike" = g_Unlike/\CA "NotClosed" = g_NotClosed/\CA "TooMany" = g_TooMany/\CA "CellError" = g_CellError:=⟨λy=>if y = "NoLine" then g_NoLine else if y = "NoName" then g_NoName else if y = "NoText" then g_NoText else if y = "NoBack" then g_NoBack else if y = "NotOpen" then g_NotOpen else if y = "NoWords" then g_NoWords else if y = "Clash" then g_Clash else if y = "Unreached" then g_Unreached else if y = "NotFull" then g_NotFull else if y = "Unlike" then g_Unlike else if y = "NotClosed" then g_NotClosed else if y = "TooMany" then g_TooMany else if y = "CellError" then g_CellError else 0,by dsimp only;rw [if_pos rfl],by dsimp only;rw [if_neg (by decide +kernel),if_pos rfl],by dsimp only;rw [if_neg (by decide +kernel),if_neg (by decide +kernel),if_pos rfl],by dsimp only;(repeat rw [if_neg (by decide +kernel)]);rw [if_pos rfl],by dsimp only;(repeat rw [if_neg (by decide +kernel)]);rw [if_pos rfl],by dsimp only;(repeat rw [if_neg (by decide +kernel)]);rw [if_pos rfl],by dsimp only;(repeat rw [if_neg (by decide +kernel)]);rw [if_pos rfl],by dsimp only;(repeat rw [if_neg (by decide +kernel)]);rw [if_pos rfl],by dsimp only;(repeat rw [if_neg (by decide +kernel)]);rw [if_pos rfl],by dsimp only;(repeat rw [if_neg (by decide +kernel)]);rw [if_pos rfl],by dsimp only;(repeat rw [if_neg (by decide +kernel)]);rw [if_pos rfl],by dsimp only;(repeat rw [if_neg (by decide +kernel)]);rw [if_pos rfl],by dsimp only;(repeat rw [if_neg (by decide +kernel)]);rw [if_pos rfl]⟩
 subst ca_NoLine
 subst ca_NoName
 subst ca_NoText
 subst ca_NoBack
 subst ca_NotOpen
 subst ca_NoWords
 subst ca_Clash
 subst ca_Unreached
 subst ca_NotFull
 subst ca_Unlike
 subst ca_NotClosed
 subst ca_TooMany
 subst ca_CellError
 have q_NoLine:=PySem.W.mg_of X G a_NoLine
 have q_NoName:=PySem.W.mg_of X G a_NoName
 have q_NoText:=PySem.W.mg_of X G a_NoText
 have q_NoBack:=PySem.W.mg_of X G a_NoBack
 have q_NotOpen:=PySem.W.mg_of X G a_NotOpen
 have q_NoWords:=PySem.W.mg_of X G a_NoWords
 have q_Clash:=PySem.W.mg_of X G a_Clash
 have q_Unreached:=PySem.W.mg_of X G a_Unreached
 have q_NotFull:=PySem.W.mg_of X G a_NotFull
 have q_Unlike:=PySem.W.mg_of X G a_Unlike
 have q_NotClosed:=PySem.W.mg_of X G a_NotClosed
 have q_TooMany:=PySem.W.mg_of X G a_TooMany
 have q_CellError:=PySem.W.mg_of X G a_CellError
 have n_NoLine:=a_NoLine
 have n_NoName:=a_NoName
 have n_NoText:=a_NoText
 have n_NoBack:=a_NoBack
 have n_NotOpen:=a_NotOpen
 have n_NoWords:=a_NoWords
 have n_Clash:=a_Clash
 have n_Unreached:=a_Unreached
 have n_NotFull:=a_NotFull
 have n_Unlike:=a_Unlike
 have n_NotClosed:=a_NotClosed
 have n_TooMany:=a_TooMany
 have n_CellError:=a_CellError
 have e_Unreached:ExcQ K (CA "Unreached"):=⟨x_Unreached,o_Unreached,d_Unreached,ga_Unreached,gr_Unreached,is_Unreached⟩
 have F0:=a0.ok X G
 have F1:=a1.ok X G
 have F2:=a2.ok X G
 have F3:=a3.ok X G
 have F4:=a4.ok X G
 have F5:=a5.ok X G
 have F6:=a6.ok X G
 have F7:=a7.ok X G
 have F8:=a8.ok X G
 have F9:=a9.ok X G
 have F10:=a10.ok X G
 have F11:=a11.ok X G
 have F12:=a12.ok X G
 have F13:=a13.ok X G
 have F14:=a14.ok X G
 have yf_are_unlike:=F1.n
 obtain @⟨fL,fdL,FL,mL,_⟩:=F14
 have e:=hfa.symm.trans mL
 cases e
 refine ⟨fdL,λs v=>by obtain ⟨_,_,_,_,_,_,_,_,_,rfl,_⟩:=FL.ex;exact .of_eq rfl,λbase _ _=>?_⟩
 have t:∀{x k n m},Has l.prog w K mg base x k n m->Has l.prog w K mg base x k n m:=id
 have tz:∀{x k n m},ze3 l.prog w K mg base CA x k n m->ze3 l.prog w K mg base CA x k n m:=id
 have g0:=t (h_m_law_words F0 y_int y_isinstance y_ValueError q_NoLine q_NoName q_NoText q_NoBack q_NotOpen q_NoWords q_Clash q_Unreached q_NotFull q_Unlike q_NotClosed q_TooMany n_Unreached e_Unreached i_0 i_1 i_2 i_3 i_4 i_5 i_6 i_7 i_8 i_9 i_10 i_11 i_12)
 have g1:=t (h_m_are_unlike F1 )
 have g2:=t (h_m_walk_both F2 y_len y_range g1 yf_are_unlike)
 have g3:=t (h_m_reached F3 y_len y_range)
 have g4:=t (h_m_naming F4 y_tuple y_sorted y_len g2 g3 yf_are_unlike q_Unreached x_Unreached)
 have gz4:=tz (hz_naming F4 y_tuple y_sorted y_len g2 g3 yf_are_unlike q_Unreached x_Unreached)
 have g5:=t (h_m_law_told F5 g0 g4 gz4 q_CellError x_CellError x_Unreached n_Unreached s_Unreached_CellError)
 have g6:=t (h_m_law_end F6 )
 have g7:=t (h_m_law_ways F7 y_enumerate)
 have g8:=t (h_m_law_due F8 y_tuple y_zip y_enumerate y_len y_set y_range g6 g7)
 have g9:=t (h_m_law_draw F9 y_len y_abs)
 have g10:=t (h_m_law_reaching F10 y_tuple y_range y_len g9)
 have g11:=t (h_m_law_bent F11 y_tuple y_list y_range y_len g10 g9)
 have g12:=t (h_m_law_turned F12 y_tuple y_len y_list y_range g9)
 have g13:=t (h_m_law_pen F13 )
 exact yfk FL y_repr y_range g5 g8 g11 g12 g10 g9 g13
theorem walk {l:PySem.W.OpenLaw}{q:Program}{loose:List Str}{XP:(Str->Option Value)->Heap->Prop}{YP:World->Heap->Prop}{d:DefRec}{K:Params->QFg}(hn:l.most=some 63) (hdf:d.params.defaults=[])
  (hY:∀(w:World) (h:Heap),YP w h->(K w.params).In h)
  (F:∀(w:World) (mg:Str->Option Value) (fa:Addr) (h:Heap),(K w.params).In h->h.Ns mainGlobals mg->mg d.name=some (.ref fa) ->
   ∃fd:FuncData,(∀(s:Shared) (u:Value),BindsTo s fd ⟨[u],[]⟩ [("_law_script",u)])/\∀base:Heap,(K w.params).In base->base.Ns mainGlobals mg->FnOk l.prog w (K w.params) mg base CX0 5 fa fd ["_law_script"] (sp3 (K w.params) 1 zfu))
  (hlaw:∀ns:List Int,ns.length<=63->∃S',zfu [.ref 0] [.flst (ns.map D.int)]=some (.bl true,S')) :
  PySem.W.WalkO q loose XP YP l.row.toRowW d [] (λf vs=>PySem.call f vs) :=
 L2.walk_of (n:=63) (k:=5) (x:="_law_script") (CX:=λ_=>CX0) (sp:=λw=>sp3 (K w.params) 1 zfu) hn (by decide) hdf ⟨rfl,by decide,by decide,rfl⟩ hY F (λ_ _ a ns hl hO hS=>zzx hO hS (hlaw ns hl)) λ_ _ _ _ _ z=>z
end G
end
theorem qg0 {α:Type}{a:α}{l:List α}:(a :: l)[0]? = some a:=rfl
theorem qg1 {α:Type}{a:α}{i:Nat}{l:List α}:(a :: l)[i+1]? = l[i]?:=rfl
theorem qs0 {α:Type}{a b:α}{l:List α}:(a :: l).set 0 b=b :: l:=rfl
theorem qs1 {α:Type}{a b:α}{n:Nat}{l:List α}:(a :: l).set (n+1) b=a :: l.set n b:=rfl
theorem qlt {α:Type}{l:List α}{i:Nat}{a:α}(h:l[i]? = some a):i<l.length:=(List.getElem?_eq_some_iff.mp h).1
namespace M
open PySem L3 G
local macro_rules
 | `(term| nofun)=>`(by first|rfl|trivial)
local macro_rules
 | `(term| ‹$x›)=>`(some (.int ($x : Int)))
local macro_rules
 | `(term| ~~~$x)=>`(some (.ref $x))
local macro_rules
 | `(tactic| dsimp! only [$xs,*])=>`(tactic| simp only [$xs,*,List.map_cons,List.map_nil,List.length_cons,List.length_nil,Nat.reduceAdd,Nat.reduceSub,List.replicate,List.cons_append,List.nil_append])
theorem zbl {S:Sto}{n:Nat}{xs:List D}(h:S[n]? = some (.lst xs)):lstOf S n=some xs:=by unfold lstOf;rw [h]
def PQ (ns:List Int) (c:Nat) (S:Sto):Prop:=∃at' r:Int,S[1]? = some (.lst [.ref 0,.int at',.int r])/\lstOf S 0=some (ns.map D.int)/\0<=at'/\at'<=c/\0<=r
def Fn (S S':Sto):Prop:=∀(j:Nat) (o:Ob),j≠1->S[j]? = some o->S'[j]? = some o
theorem Fn.refl (S:Sto):Fn S S:=λ_ _ _ h=>h
theorem Fn.trans {A B C:Sto}(h:Fn A B) (g:Fn B C):Fn A C:=λj o hj e=>g j o hj (h j o hj e)
theorem Fn.gr {A B:Sto}(h:Gr A B):Fn A B:=λ_ _ _ e=>h.get e
theorem Fn.set {A:Sto}{o:Ob}:Fn A (A.set 1 o):=λj o' hj e=>by rw [List.getElem?_set_ne (Ne.symm hj)];exact e
theorem Fn.lst {m:Nat}{A B:Sto}{xs:List D}(h:Fn A B) (hm:m≠1) (e:lstOf A m=some xs):lstOf B m=some xs:=by
 unfold lstOf at e ⊢
 cases q:A[m]? with
 | none=>rw [q] at e;cases e
 | some o=>rw [h m o hm q];rw [q] at e;exact e
theorem PQ.gr {ns:List Int}{c:Nat}{A B:Sto}(h:PQ ns c A) (g:Gr A B):PQ ns c B:=let ⟨x,y,e,f,r⟩:=h;⟨x,y,g.get e,g.lst f,r⟩
theorem PQ.mono {ns:List Int}{c d:Nat}{A:Sto}(h:PQ ns c A) (g:c<=d):PQ ns d A:=let ⟨x,y,e,f,r1,r2,r3⟩:=h;⟨x,y,e,f,r1,by omega,r3⟩
theorem yfl {S:Sto}{a b c v:D}(h:S[1]? = some (.lst [a,b,c])):zdg (.ref 1) (.int 1) v S=some (S.set 1 (.lst [a,v,c])):=by
 unfold zdg;simp only [h];rfl
theorem zsv {S:Sto}{a b c v:D}(h:S[1]? = some (.lst [a,b,c])):zdg (.ref 1) (.int 2) v S=some (S.set 1 (.lst [a,b,v])):=by
 unfold zdg;simp only [h];rfl
theorem zm8 {S:Sto}{n:Nat}{o o':Ob}(h:S[n]? = some o'):(S.set n o)[n]? = some o:=List.getElem?_set_self (qme h).1
theorem yfm (i:Int) (h0:0<=i) (h1:i<5):∃p,L2.atI [D.int 2147483587,.int 2147483647,.int 2147483629,.int 2147483563,.int 2147483549] i=some (.int p)/\0<p/\p<2147483648:=by
 have:i=0\/i=1\/i=2\/i=3\/i=4:=by omega
 rcases this with rfl|rfl|rfl|rfl|rfl <;> exact ⟨_,rfl,by decide,by decide⟩
theorem yfn {k j:Nat}{gs:GsM}{xs:List D}{l:Lo}{S:Sto}{Q:Lo->Sto->Prop}(h:lstOf S j=some xs) (hl:xs.length=k) (q:Wg (gs xs l S) Q):Wg (zi5 k gs (.ref j) l S) Q:=by
 have:zi5 k gs (.ref j) l S=gs xs l S:=by unfold zi5;dsimp only;rw [h];show (if _ then _ else _)=_;rw [if_pos hl]
 rw [this];exact q
local macro_rules
 | `(tactic| simp! only [$xs,*])=>`(tactic| simp only [zcj,zg6,zdw,zci,zb7,zf5,zao,zcb,zbq,zey,zcv,zdk,za4,zg7,zc4,zc5,zc6,zb8,zch,zb0,zbz,zg3,zex,zg4,zf6,zg5,zdl,zf7,zeg,zgq,zfr,zfo,zfp,zfq,zgt,zgs,zhr,zf8,zf9,ze6,zd6,zga,zgb,zhs,ze7,zg8,zdm,zff,zfg,zgc,zfh,zht,zhu,zg9,zha,List.map_cons,List.map_nil,List.length_cons,List.length_nil,Nat.reduceAdd,Nat.reduceSub,List.replicate,List.cons_append,List.nil_append,qg0,qg1,qs0,qs1,zbr,zck,zcl,zho,zhp,zhq,zhn,zgp,zc9,decide_eq_true_eq,zhx,zhw,zhy,$xs,*])
theorem zcz {ns:List Int}{c:Nat}{m:Int}{S:Sto}(h:PQ ns c S) (hc:c<100000000) (h1:0<m) (h2:m<1073741824):Wo (zb3 [.ref 1,.int m] S) λv S'=>(∃d:Nat,v=.int d/\(d:Int)<m)/\PQ ns (c+1) S'/\Fn S S':=by
 obtain ⟨a,r,hS,hs,a0,a1,r0⟩:=h
 have sz5:5<=sizeLine:=by decide
 unfold zb3 zsl
 by_cases hr:0<r
 ·dsimp! only [zcj]
  refine zcm (λ_ _=>False) (λv S'=>(∃d:Nat,v=.int d/\(d:Int)<m)/\PQ ns (c+1) S'/\Fn S S') ?_ (λ_ _ z=>z.elim) (λd _ _ o=>o)
  simp! only [zbl hS,zsv hS,decide_eq_true_eq,hr,h1,h2,if_true,true_and,and_self]
  have d0:=Int.emod_nonneg r (show m≠0 by omega)
  have d1:=Int.emod_lt_of_pos r h1
  refine .inr ⟨_,rfl,⟨(r % m).toNat,by rw [Int.toNat_of_nonneg d0],by rw [Int.toNat_of_nonneg d0];exact d1⟩,⟨a,r / m,zm8 hS,Fn.set.lst (by decide) hs,a0,by omega,Int.ediv_nonneg r0 (by omega)⟩,Fn.set⟩
 dsimp! only [zcj]
 refine zav (l':=[~~~1,some (.int m),none,none,none,none,none,none]) (S':=S) (by simp! only [zbl hS,decide_eq_true_eq,hr,if_false,and_self]) ?_
 refine zaz (λl S'=>l=[~~~1,some (.int m),none,~~~0,some (.int a),none,none,none]/\Gr S S') ?_ ?_
 ·simp only [zbq,zfr,zfo,zfp,zao,zcb,qg0,zbr,zfq,yel (zbl hS)]
  refine yfn (xs:=[.ref 0,.int a]) zc9 rfl ?_
  simp! only [zao]
  first|exact ⟨nofun,nofun,⟨_,rfl⟩⟩|exact ⟨nofun,⟨_,rfl⟩⟩|exact ⟨_,rfl⟩
 rintro l S1 ⟨rfl,g1⟩
 have hS1:=g1.get hS
 have hs1:=g1.lst hs
 have f01:Fn S S1:=Fn.gr g1
 clear g1 hS hs
 refine zav (l':=[~~~1,some (.int m),none,~~~0,some (.int a),none,none,none]) (S':=S1.set 1 (.lst [.ref 0,.int (a+1),.int r])) (by simp! only [yfl hS1,and_self]) ?_
 have hS2:(S1.set 1 (.lst [.ref 0,.int (a+1),.int r]))[1]? = some (.lst [.ref 0,.int (a+1),.int r]):=zm8 hS1
 have hs2:lstOf (S1.set 1 (.lst [.ref 0,.int (a+1),.int r])) 0=some (ns.map D.int):=Fn.set.lst (by decide) hs1
 have f02:Fn S (S1.set 1 (.lst [.ref 0,.int (a+1),.int r])):=f01.trans Fn.set
 generalize S1.set 1 (.lst [.ref 0,.int (a+1),.int r])=S2 at hS2 hs2 f02
 have f1:(-(2 ^ 64):Int)<1217/\(1217:Int)<2 ^ 64:=by decide
 have f2:(-(2 ^ 64):Int)<42013/\(42013:Int)<2 ^ 64:=by decide
 have f5:(0:Int)<=18/\(18:Int)<=1000000/\Int.natAbs 10<2 ^ 64:=by decide
 have f7:(0:Int)<5:=by decide
 refine zav (l':=[~~~1,some (.int m),none,~~~0,some (.int a),some (.int (1217*a+23)),none,none]) (S':=S2) (by simp! only [f1,true_or,and_self,true_and]) ?_
 refine zcm (λl S'=>∃k:Int,l=[~~~1,some (.int m),none,~~~0,some (.int a),some (.int k),none,none]/\S' = S2) (λv S'=>(∃d:Nat,v=.int d/\(d:Int)<m)/\PQ ns (c+1) S'/\Fn S S') ?_ ?_ (λd _ _ o=>o)
 ·by_cases hl:0<(ns.length:Int)
  ·obtain ⟨x,e1,e2⟩:=yeh (ns.map D.int) (a % (ns.length:Int)) (Int.emod_nonneg _ (by omega)) (by rw [qlm];exact Int.emod_lt_of_pos _ hl)
   obtain ⟨k,_,rfl⟩:=List.mem_map.mp e2
   rw [zdw]
   simp only [zci,zb7,zb8,zb0,zbz,zao,zcb,qg0,qg1,zbr,ze7,hs2,zck,qlm,zdl,zcl,hl,decide_true,if_true]
   refine zav (l':=[~~~1,some (.int m),none,~~~0,some (.int a),some (.int k),none,none]) (S':=S2) (by simp! only [hs2,e1,hl,qlm,decide_true,true_and,and_self]) ?_
   by_cases hb1:a<(ns.length:Int)
   ·by_cases hb2:10 ^ Int.toNat 18<=(if k<0 then -k else k)
    ·simp! only [hs2,hb1,hb2,qlm,zsv hS2,h1,h2,f5,if_true,true_and,and_self,decide_true]
     have d0:=Int.emod_nonneg (if k<0 then -k else k) (show m≠0 by omega)
     have d1:=Int.emod_lt_of_pos (if k<0 then -k else k) h1
     refine .inr ⟨_,rfl,⟨((if k<0 then -k else k) % m).toNat,by rw [Int.toNat_of_nonneg d0],by rw [Int.toNat_of_nonneg d0];exact d1⟩,⟨a+1,(if k<0 then -k else k) / m,zm8 hS2,Fn.set.lst (by decide) hs2,by omega,by omega,Int.ediv_nonneg (by split <;> omega) (by omega)⟩,f02.trans Fn.set⟩
    ·simp! only [hs2,hb1,hb2,qlm,f5,if_true,if_false,true_and,and_self,decide_true,decide_false,qbf]
     first|exact .inl ⟨nofun,k,rfl,nofun⟩|exact .inl ⟨k,rfl⟩|exact .inl ⟨k,rfl,nofun⟩|exact .inl ⟨nofun,k,rfl⟩
   ·simp! only [hs2,hb1,qlm,f5,if_true,if_false,true_and,and_self,decide_true,decide_false,qbf]
    first|exact .inl ⟨nofun,k,rfl,nofun⟩|exact .inl ⟨k,rfl⟩|exact .inl ⟨k,rfl,nofun⟩|exact .inl ⟨nofun,k,rfl⟩
  ·simp! only [hs2,hl,qlm,if_false,decide_false,qbf]
   first|exact .inl ⟨nofun,_,rfl,nofun⟩|exact .inl ⟨_,rfl⟩|exact .inl ⟨_,rfl,nofun⟩|exact .inl ⟨nofun,_,rfl⟩
 rintro l S4 ⟨k,rfl,rfl⟩
 obtain ⟨p1,hp1,p1a,p1b⟩:=yfm (a % 5) (by omega) (by omega)
 refine zaz (λl S'=>l=[~~~1,some (.int m),none,~~~0,some (.int a),some (.int k),some (.int p1),none]/\Gr S4 S') ?_ ?_
 ·simp! only [hp1,f7,sz5,decide_true,true_and,and_self]
  first|exact ⟨nofun,nofun,⟨_,rfl⟩⟩|exact ⟨nofun,⟨_,rfl⟩⟩|exact ⟨_,rfl⟩
 rintro l S5 ⟨rfl,g5⟩
 have q1:0<=k % p1:=Int.emod_nonneg _ (by omega)
 have q2:k % p1<p1:=Int.emod_lt_of_pos _ p1a
 refine zaz (λl S'=>∃n1:Int,0<=n1/\n1<p1/\l=[~~~1,some (.int m),none,~~~0,some (.int a),some (.int k),some (.int p1),some (.int n1)]/\S' = S5) ?_ ?_
 ·obtain ⟨n0,e0⟩:∃n0,k % p1+42013*a+23=n0:=⟨_,rfl⟩
  have q3:(0:Int)<=3/\(3:Int)<=1000000/\n0.natAbs<2 ^ 64:=⟨by decide,by decide,by omega⟩
  simp! only [f2,p1a,e0,q3,decide_true,true_or,true_and,and_true]
  exact ⟨_,Int.emod_nonneg _ (by omega),Int.emod_lt_of_pos _ p1a,rfl⟩
 rintro l S6 ⟨n1,n0,n2,rfl,rfl⟩
 refine zaz (λl S'=>∃n1:Int,l=[~~~1,some (.int m),none,~~~0,some (.int a),some (.int k),some (.int p1),some (.int n1)]/\S' = S6) ?_ ?_
 ·have f3:(-(2 ^ 64):Int)<n1/\n1<2 ^ 64:=by omega
  have q6:n1*(a+41)<=2147483648*1000000061:=Int.mul_le_mul (by omega) (by omega) (by omega) (by omega)
  have q7:0<=n1*(a+41):=Int.mul_nonneg (by omega) (by omega)
  have q8:(0:Int)<=3/\(3:Int)<=1000000/\(n1*(a+41)+1217).natAbs<2 ^ 64:=⟨by decide,by decide,by omega⟩
  have f8:(0:Int)<2147483543:=by decide
  simp! only [f3,f8,q8,decide_true,true_or,true_and,and_true]
  exact ⟨_,rfl⟩
 rintro l S7 ⟨n3,rfl,rfl⟩
 have f6:(0:Int)<64/\(64:Int)<1073741824:=by decide
 simp! only [f6,h1,h2,decide_true,true_and,and_self]
 have d0:=Int.emod_nonneg (n3 / 64) (show m≠0 by omega)
 have d1:=Int.emod_lt_of_pos (n3 / 64) h1
 exact ⟨⟨(n3 / 64 % m).toNat,by rw [Int.toNat_of_nonneg d0],by rw [Int.toNat_of_nonneg d0];exact d1⟩,⟨a+1,r,g5.get hS2,g5.lst hs2,by omega,by omega,r0⟩,f02.trans (Fn.gr g5)⟩
theorem zdb {α:Type}{x:α}:(∃y,some x=some y)=True:=by simp
theorem zdc:1000000<=sizeLine:=by decide
theorem Fn.setN {A B:Sto}{n:Nat}{o:Ob}(h:Fn A B) (hn:A.length<=n):Fn A (B.set n o):=λj o' hj e=>by
 have:j<A.length:=(qme e).1
 rw [List.getElem?_set_ne (by omega)];exact h j o' hj e
theorem PQ.lt {ns:List Int}{c:Nat}{A:Sto}(h:PQ ns c A):2<=A.length:=by
 obtain ⟨x,y,e,_⟩:=h
 have:=(qme e).1
 omega
theorem PQ.setN {ns:List Int}{c:Nat}{A:Sto}{n:Nat}{o:Ob}(h:PQ ns c A) (hn:2<=n):PQ ns c (A.set n o):=by
 obtain ⟨x,y,e,f,r⟩:=h
 refine ⟨x,y,by rw [List.getElem?_set_ne (by omega)];exact e,?_,r⟩
 unfold lstOf at f ⊢
 rw [List.getElem?_set_ne (by omega)];exact f
theorem Fn.len {A B:Sto}(h:Fn A B) (hA:2<=B.length):A.length<=B.length:=by
 rcases Nat.lt_or_ge B.length A.length with z|z
 ·have:=h B.length _ (by omega) (qge z)
  rw [List.getElem?_eq_none (qlr _)] at this;cases this
 ·exact z
theorem zeh {t:TM}{m n:SM}{l:Lo}{S:Sto}{Q:Fl->Lo->Sto->Prop}(R:Bool->Sto->Prop) (h:Wt t l S R) (h1:∀S1,R true S1->Ws m l S1 Q) (h2:∀S1,R false S1->Ws n l S1 Q):Ws (sIf t m n) l S Q:=by
 rw [zdw]
 obtain ⟨k,S1,e,r⟩:=h
 refine ⟨k,S1,e,?_⟩
 cases k with
 | true=>exact h1 S1 r
 | false=>exact h2 S1 r
noncomputable def oD:Option Nat->D
 | none=>.non
 | some k=>.int (k:Int)
abbrev Cl:=Option Nat × Option Nat
noncomputable def kD (c:Cl):D:=.tup [oD c.1,oD c.2]
noncomputable def roD (cs:List Cl):D:=.tup (cs.map kD)
noncomputable def gD (g:List (List Cl)):D:=.tup (g.map roD)
noncomputable def mD (A:Nat) (g:List (List Cl)):D:=.tup [.int (A:Int),.tup (g.map roD)]
structure OkM (A:Nat) (g:List (List Cl)):Prop where
 a1:1<=A
 a4:A<=4
 r1:1<=g.length
 r24:g.length<=24
 len:∀cs∈g,cs.length=A
 go:∀cs∈g,∀c∈cs,∀x,c.1=some x->x<g.length
 an:∀cs∈g,∀c∈cs,∀x,c.2=some x->x<8
noncomputable def cell (g:List (List Cl)) (r a:Nat):Cl:=((g[r]?).bind λcs=>cs[a]?).getD (none,none)
section
variable {A:Nat}{g:List (List Cl)}{r a:Nat}{S:Sto}{Q:D->Sto->Prop}
theorem zh5 (h:OkM A g) (hr:r<g.length) (ha:a<A):∃cs,g[r]? = some cs/\cs[a]? = some (cell g r a)/\cs∈g/\cell g r a∈cs:=by
 have h1:g[r]? = some g[r]:=qge hr
 have h2:g[r]∈g:=qem hr
 have h3:a<g[r].length:=by rw [h.len _ h2];exact ha
 have h4:g[r][a]? = some g[r][a]:=qge h3
 have h5:cell g r a=g[r][a]:=by unfold cell;rw [h1];show (g[r][a]?).getD _=_;rw [h4];rfl
 exact ⟨_,h1,by rw [h5];exact h4,h2,by rw [h5];exact qem h3⟩
theorem zh6 (h:OkM A g) (hr:r<g.length) (ha:a<A) {x:Nat}(hg:(cell g r a).1=some x):x<g.length:=by
 obtain ⟨cs,_,_,h1,h2⟩:=zh5 h hr ha
 exact h.go cs h1 _ h2 x hg
theorem zjo (h:OkM A g) (hr:r<g.length) (ha:a<A):∃cs:List Cl,L2.atI (g.map roD) (r:Int)=some (.tup (cs.map kD))/\L2.atI (cs.map kD) (a:Int)=some (.tup [oD (cell g r a).1,oD (cell g r a).2]):=by
 obtain ⟨cs,h1,h2,_⟩:=zh5 h hr ha
 exact ⟨cs,atI_get (by rw [qgm,h1];rfl),atI_get (by rw [qgm,h2];rfl)⟩
end
theorem yfo (xs:List D) (c:Nat) (h:c<=xs.length):zby xs none (some (c:Int))=xs.take c:=by
 unfold zby
 rw [HT.sIx_none,HT.sIx_nat]
 simp
 try omega
theorem zsw (xs:List D) (c:Nat) (h:c<=xs.length):zby xs (some (c:Int)) none=xs.drop c:=by
 unfold zby
 rw [HT.sIx_none,HT.sIx_nat]
 have:min c xs.length=c:=by omega
 simp only [this]
 rw [List.take_of_length_le (by rw [List.length_drop];omega)]
theorem zsx {ea ek:EM}{n i:Nat}{xs:List D}{y:D}{l:Lo}{S:Sto}{Q:D->Sto->Prop}(ha:∀Q',We ea l S Q' = Q' (.tup xs) S) (hk:∀Q',We ek l S Q' = Q' (.int (i:Int)) S) (hn:l[n]? = some (some y)) (hi:i<xs.length) (hx:xs.length<=100) (q:Q (.tup (xs.set i y)) S) :
  We (eOp za6 (eOp za6 (zc7 ea (zdf) (zc2 ek)) (zaf zaq (zab (zaa n) (zae)))) (zc7 ea (zc2 (eOp za6 ek (eC (.int 1)))) (zdf))) l S Q:=by
 have big:=zdc
 have e:(i:Int)+1=((i+1:Nat):Int):=by push_cast;rfl
 simp only [zb7,zfr,zao,ha,hk,hn,zbr,zfo,zfp,zfq,zgt,zb8,zb0,zbz,zdm,zgq,zcb,zeg,e,yfo xs i (by omega),zsw xs (i+1) (by omega),List.length_cons,List.length_nil,qla,List.length_take,List.length_drop]
 have e2:xs.take i++[y]++xs.drop (i+1)=xs.set i y:=by
  rw [List.set_eq_take_append_cons_drop,if_pos hi,List.append_assoc];rfl
 rw [e2]
 exact ⟨by omega,by omega,by omega,q⟩
noncomputable def put (g:List (List Cl)) (r:Nat) (cs:List Cl) (a:Nat) (c:Cl):List (List Cl):=g.set r (cs.set a c)
def Ck (many:Nat) (c:Cl):Prop:=(∀x,c.1=some x->x<many)/\∀x,c.2=some x->x<8
theorem OkM.ck {A:Nat}{g:List (List Cl)}(h:OkM A g):∀cs∈g,∀c∈cs,Ck g.length c:=λcs hcs c hc=>⟨h.go cs hcs c hc,h.an cs hcs c hc⟩
theorem zjp {A many:Nat}{g:List (List Cl)}(a1:1<=A) (a4:A<=4) (h:∀cs∈g,cs.length=A/\∀c∈cs,Ck many c) (hl:g.length=many) (m1:1<=many) (m24:many<=24):OkM A g :=
 ⟨a1,a4,by omega,by omega,λcs hcs=>(h cs hcs).1,λcs hcs c hc x hx=>by rw [hl];exact ((h cs hcs).2 c hc).1 x hx,λcs hcs c hc x hx=>((h cs hcs).2 c hc).2 x hx⟩
theorem yfp {A:Nat}{g:List (List Cl)}{r a:Nat}{cs:List Cl}{c:Cl}(h:OkM A g) (hr:g[r]? = some cs) (hc:Ck g.length c):OkM A (put g r cs a c):=by
 have hl:(put g r cs a c).length=g.length:=by simp [put]
 have hm:=qmg hr
 refine zjp h.a1 h.a4 (λds hd=>?_) hl h.r1 h.r24
 rcases List.mem_or_eq_of_mem_set hd with z|rfl
 ·exact ⟨h.len ds z,h.ck ds z⟩
 ·refine ⟨by rw [List.length_set];exact h.len cs hm,λd hd2=>?_⟩
  rcases List.mem_or_eq_of_mem_set hd2 with z|rfl
  ·exact h.ck cs hm d z
  ·exact hc
theorem yfq {S:Sto}{n i:Nat}{xs:List D}{v:D}(h:S[n]? = some (.lst xs)) (hi:i<xs.length):zdg (.ref n) (.int (i:Int)) v S=some (S.set n (.lst (xs.set i v))):=by
 unfold zdg
 simp only [h]
 unfold L2.ixN
 rw [if_pos (by omega),if_pos (by omega)]
 rfl
theorem zsy {a b c d:Int}(i:Nat) (h1:(i:Int)<4):∃x,L2.atI [D.int a,D.int b,D.int c,D.int d] (i:Int)=some (.int x)/\(x=a\/x=b\/x=c\/x=d):=by
 have:i=0\/i=1\/i=2\/i=3:=by omega
 rcases this with rfl|rfl|rfl|rfl
 ·exact ⟨a,rfl,by simp⟩
 ·exact ⟨b,rfl,by simp⟩
 ·exact ⟨c,rfl,by simp⟩
 ·exact ⟨d,rfl,by simp⟩
theorem zm9 {n:Nat}{i:Int}{S:Sto}{xs:List D}(h:S[n]? = some (.lst xs)) (h0:0<=i) (h1:i<xs.length) (h2:xs.length<1000000):∃y,xs[i.toNat]? = some y/\∀Q:D->Sto->Prop,Wo (ze1 (.ref n) [.int i] S) Q=Q y (S.set n (.lst (xs.eraseIdx i.toNat))):=by
 have hl:i.toNat<xs.length:=by omega
 refine ⟨xs[i.toNat],qge hl,λQ=>?_⟩
 have e:PySem.seqIndex? i xs.length=some i.toNat:=by
  unfold PySem.seqIndex?
  first
   | (simp;omega)
   | (rw [if_pos (by omega)];try rw [if_pos (by omega)])
 have:ze1 (.ref n) [.int i] S=some (xs[i.toNat],S.set n (.lst (xs.eraseIdx i.toNat))):=by
  unfold ze1
  dsimp only
  rw [h]
  dsimp only
  rw [e]
  show ((xs[i.toNat]?).bind _)=_
  rw [qge hl]
  show (if _ then _ else _)=_
  rw [if_pos (by omega)]
 rw [this];exact za9
noncomputable def nD (a:Nat):D:=.int (a:Int)
theorem zjq (n:Nat):za3 0 n=(List.range n).map nD:=by
 unfold za3 nD
 apply List.map_congr_left
 intro i _
 show D.int (0+(i:Int))=D.int (i:Int)
 rw [Int.zero_add]
theorem zsz:∀(l:List Nat) (i:Nat) (h:i<l.length),(l[i] :: l.eraseIdx i).Perm l
 | [],i,h=>absurd h (Nat.not_lt_zero _)
 | x :: l,0,_=>.refl _
 | x :: l,i+1,h=>by
  have ih:=zsz l i (by simpa using h)
  show (l[i]'(by simpa using h) :: x :: l.eraseIdx i).Perm (x :: l)
  exact (List.Perm.swap ..).trans (ih.cons x)
theorem zna {α β:Type}(f:α->β):∀(l:List α) (i:Nat),(l.map f).eraseIdx i=(l.eraseIdx i).map f
 | [],_=>rfl
 | x :: l,0=>rfl
 | x :: l,i+1=>by
  show f x :: (l.map f).eraseIdx i=f x :: (l.eraseIdx i).map f
  rw [zna f l i]
theorem yfr {g:GM}{b:SM}(P:Nat->Lo->Sto->Prop) {as:AM}{l:Lo}{S S1:Sto}{n:Nat}{QS:Fl->Lo->Sto->Prop}(h:as l S=some ([.int 1,.int (n:Int)],S1)) (hn:n<1000) (h0:P 0 l S1)
  (step:∀(i:Nat) l S,i<n-1->P i l S->Wg (g (.int ((i+1:Nat):Int)) l S) λl1 S1=>Ws b l1 S1 λf l2 S2=>(f=.nx\/f=.ct)/\P (i+1) l2 S2)
  (fin:∀l' S',P (n-1) l' S'->QS .nx l' S'):Ws (zdi (zeu as) g b) l S QS:=by
 have hb:∀z:Int,z=(n:Int)->0<=z/\z<1000:=λz hz=>by omega
 have hr:∀z:Int,z=(n:Int)->zeu as l S=some ((1,(z-1).toNat),S1):=λz hz=>by
  have:=hb z hz
  rw [<-hz] at h
  clear hz hb
  unfold zeu;rw [h];show (if _ then _ else _)=_;rw [if_pos (by omega)]
 have hr:=hr _ rfl
 have e1:((n:Int)-1).toNat=n-1:=by omega
 rw [e1] at hr
 have:=zk1 (g:=g) (b:=b) P (λ_ _=>False) (za3 1 (n-1)) 0 l S1 h0 (λi x l S hx hp=>by
  obtain ⟨hi,rfl⟩:=zql hx
  rw [Nat.zero_add] at hp ⊢
  have:=step i l S hi hp
  rw [show ((i+1:Nat):Int)=1+(i:Int) by omega] at this
  obtain ⟨l1,S1,e1,f,l2,S2,e2,q⟩:=this
  exact ⟨l1,S1,e1,f,l2,S2,e2,.inl q⟩)
 rw [Nat.zero_add,zfi] at this
 obtain ⟨f,l',S',e,q⟩:=this
 refine ⟨f,l',S',by unfold zdi;rw [hr];exact e,?_⟩
 rcases q with ⟨rfl,h⟩|⟨d,_,h⟩
 ·exact fin l' S' h
 ·exact h.elim
theorem yfs {a b:Int}(i:Nat) (h1:(i:Int)<2):∃x,L2.atI [D.int a,D.int b] (i:Int)=some (.int x)/\(x=a\/x=b):=by
 have:i=0\/i=1:=by omega
 rcases this with rfl|rfl
 ·exact ⟨a,rfl,by simp⟩
 ·exact ⟨b,rfl,by simp⟩
inductive MaP (ns:List Int) (c:Nat) (S:Sto) (v:D) (S':Sto):Prop
 | mk (A:Nat) (g:List (List Cl)) (e:v=mD A g) (ok:OkM A g) (p:PQ ns (c+1000) S') (f:Fn S S')
def OkO (many:Nat) (os:List (Option Nat)):Prop:=∀o∈os,∀x,o=some x->x<many
inductive Mx (A many lo n:Nat) (S:Sto):Prop
 | mk (rf:List Nat) (e:S[n]? = some (.lst (rf.map D.ref))) (hl:rf.length=many) (h:∀x∈rf,lo<=x/\x<n/\∃os:List (Option Nat),S[x]? = some (.lst (os.map oD))/\os.length=A/\OkO many os)
theorem Mx.fn {A many lo n:Nat}{S S':Sto}(h:Mx A many lo n S) (f:Fn S S') (hlo:2<=lo) (hn:n≠1):Mx A many lo n S':=by
 obtain ⟨rf,e,hl,h⟩:=h
 refine ⟨rf,f n _ hn e,hl,λx hx=>?_⟩
 obtain ⟨h1,h2,os,h3,h4,h5⟩:=h x hx
 exact ⟨h1,h2,os,f x _ (by omega) h3,h4,h5⟩
theorem Mx.gr {A many lo n:Nat}{S S':Sto}(h:Mx A many lo n S) (f:Gr S S'):Mx A many lo n S':=by
 obtain ⟨rf,e,hl,h⟩:=h
 refine ⟨rf,f.get e,hl,λx hx=>?_⟩
 obtain ⟨h1,h2,os,h3,h4,h5⟩:=h x hx
 exact ⟨h1,h2,os,f.get h3,h4,h5⟩
theorem Mx.setN {A many lo n m:Nat}{S:Sto}{o:Ob}(h:Mx A many lo n S) (hm:n<m):Mx A many lo n (S.set m o):=by
 obtain ⟨rf,e,hl,h⟩:=h
 refine ⟨rf,zbs e (by omega),hl,λx hx=>?_⟩
 obtain ⟨h1,h2,os,h3,h4,h5⟩:=h x hx
 exact ⟨h1,h2,os,zbs h3 (by omega),h4,h5⟩
theorem Mx.put {A many lo n r a k:Nat}{S:Sto}(h:Mx A many lo n S) (hr:r<many) (ha:a<A) (hk:k<many):∃(x:Nat) (xs:List Nat) (S':Sto),S[n]? = some (.lst (xs.map D.ref))/\L2.atI (xs.map D.ref) (r:Int)=some (.ref x)/\zdg (.ref x) (.int (a:Int)) (.int (k:Int)) S=some S'/\Mx A many lo n S'/\(∃o,S' = S.set x o)/\lo<=x/\x<n:=by
 obtain ⟨rf,e,hl,h⟩:=h
 have hx:rf[r]? = some rf[r]:=qge (by omega)
 obtain ⟨h1,h2,os,h3,h4,h5⟩:=h rf[r] (qem (by omega))
 have hs:zdg (.ref rf[r]) (.int (a:Int)) (.int (k:Int)) S=some (S.set rf[r] (.lst ((os.set a (some k)).map oD))):=by
  rw [yfq h3 (by rw [qlm];omega),List.map_set];rfl
 refine ⟨rf[r],rf,_,e,atI_get (by rw [qgm,hx];rfl),hs,⟨rf,zbs e (by omega),hl,λy hy=>?_⟩,⟨_,rfl⟩,h1,h2⟩
 obtain ⟨g1,g2,os',g3,g4,g5⟩:=h y hy
 by_cases hxy:rf[r]=y
 ·refine ⟨g1,g2,os.set a (some k),by rw [<-hxy];exact zcr h3,by rw [List.length_set];exact h4,λo ho x hx=>?_⟩
  rcases List.mem_or_eq_of_mem_set ho with z|z
  ·exact h5 o z x hx
  ·rw [z] at hx;cases hx;exact hk
 ·exact ⟨g1,g2,os',zbs g3 hxy,g4,g5⟩
theorem Mx.at' {A many lo n r a:Nat}{S:Sto}(h:Mx A many lo n S) (hr:r<many) (ha:a<A):∃(x:Nat) (xs:List Nat) (os:List (Option Nat)) (o:Option Nat),lstOf S n=some (xs.map D.ref)/\L2.atI (xs.map D.ref) (r:Int)=some (.ref x)/\lstOf S x=some (os.map oD)/\L2.atI (os.map oD) (a:Int)=some (oD o)/\∀k,o=some k->k<many:=by
 obtain ⟨rf,e,hl,h⟩:=h
 have hx:rf[r]? = some rf[r]:=qge (by omega)
 obtain ⟨h1,h2,os,h3,h4,h5⟩:=h rf[r] (qem (by omega))
 have hy:os[a]? = some os[a]:=qge (by omega)
 exact ⟨rf[r],rf,os,os[a],zbl e,atI_get (by rw [qgm,hx];rfl),zbl h3,atI_get (by rw [qgm,hy];rfl),h5 _ (qem (by omega))⟩
theorem yft {n m:Nat}{S:Sto}{xs ys:List D}{Q:D->Sto->Prop}(h1:S[n]? = some (.lst xs)) (h2:S[m]? = some (.lst ys)) (hz:xs.length+ys.length<=sizeLine):Wo (zgg (.ref n) [.ref m] S) Q=Q .non (S.set n (.lst (xs++ys))):=by
 have:zgg (.ref n) [.ref m] S=some (.non,S.set n (.lst (xs++ys))):=by unfold zgg;dsimp only;rw [h1,h2];dsimp only;rw [if_pos hz]
 rw [this];exact za9
noncomputable def spD (p:Nat × Nat):D:=.tup [.int (p.1:Int),.int (p.2:Int)]
def OkF (A many:Nat) (fr:List (Nat × Nat)):Prop:=∀p∈fr,p.1<many/\p.2<A
theorem yfu (A:Nat):(List.range A).map (λ_=>D.non)=(List.replicate A (none:Option Nat)).map oD:=by
 rw [List.map_replicate]
 have:(List.range A).map (λ_=>D.non)=List.replicate (List.range A).length D.non:=List.map_const'
 rw [List.length_range] at this
 exact this
theorem yfv (r A:Nat):(za3 0 A).map (λd=>D.tup [.int (r:Int),d])=((List.range A).map λa=>(r,a)).map spD:=by
 rw [zjq,List.map_map,List.map_map];rfl
theorem zs0 {A j r:Nat}{ix:List (Option Nat)}{e:EM}{l:Lo}{S:Sto}{Q:D->Sto->Prop}(hA:A<=4) (h:∀(x:D) (x0:Option D) (S':Sto),(∀Q',We e (((zbn ix l).set 0 x0).set 0 (some x)) S' Q' = Q' (.tup [.int (r:Int),x]) S')) (hj:l[j]? = some (some (.int (A:Int)))) (h0:zbn ix l=(zbn ix l).set 0 none)
  (q:Q (.ref S.length) (S++[.lst (((List.range A).map λa=>(r,a)).map spD)])) :
  We (zcq (zew (zbx (zab (zaa j) zae))) ix (zah 0) zd3 e) l S Q:=by
 have sz:=zdc
 have ha:zab (zaa j) zae l S=some ([.int (A:Int)],S):=by unfold zab zaa;rw [hj];rfl
 refine zjh (za3 0 A) (λd=>D.tup [.int (r:Int),d]) (λS'=>S' = S) (λl'=>∃x0,l' = (zbn ix l).set 0 x0) (zk0 ha (by omega)) rfl ⟨_,h0⟩ (λ_ _ _=>rfl) (by rw [zfi];omega) ?_ ?_
 ·rintro x l' S' hx ⟨x0,rfl⟩ rfl
  rw [za4]
  refine ⟨rfl,⟨_,List.set_set ..⟩,?_⟩
  rw [h]
  exact ⟨rfl,rfl⟩
 ·rintro S' rfl
  rw [yfv]
  exact q
local macro_rules
 | `(tactic| simp_all! only [$xs,*])=>`(tactic| simp only [zci,zb7,zf5,zao,zcb,za4,zg7,zc4,zc5,zc6,zb8,zch,zb0,zbz,zg3,zex,zg4,zf6,zg5,zdl,zf7,zeg,zgq,zfr,zfo,zfp,zfq,zgt,zgs,zhr,zf8,zf9,ze6,zd6,zga,zgb,zhs,ze7,zg8,zdm,zff,zfg,zgc,zfh,zht,zhu,zg9,zha,List.map_cons,List.map_nil,List.length_cons,List.length_nil,Nat.reduceAdd,Nat.reduceSub,List.replicate,List.cons_append,List.nil_append,qg0,qg1,qs0,qs1,zbr,zck,zcl,zho,zhp,zhq,zhn,zgp,zc9,decide_eq_true_eq,zhx,zhw,zhy,$xs,*])
theorem znb {ns:List Int}{c most:Nat}{S:Sto}(h:PQ ns c S) (hc:c<90000000) (m1:1<=most) (hm:most<=24):Wo (zgv [.ref 1,.int (most:Int)] S) (MaP ns c S):=by
 have sz:=zdc
 have l0:=h.lt
 unfold zgv zsm
 dsimp! only [zcj]
 refine zaz (λl S'=>PQ ns (c+1) S'/\Fn S S'/\∃sh:Nat,1<=sh/\sh<=9/\l=[~~~1,‹most›,‹sh›,none,none,none,none,none,none,none,none,none,none,none]) ?_ ?_
 ·simp_all! only [zbq]
  refine ⟨by omega,(zcz (h.gr ⟨_,rfl⟩) (by omega) (by decide) (by decide)).mono ?_⟩
  rintro x S2 ⟨⟨d,rfl,hd⟩,p,f⟩
  obtain ⟨x,hx,hx2⟩:=zsy (a:=1) (b:=2) (c:=4) (d:=9) d hd
  have e:lstOf S2 S.length=some [.int 1,.int 2,.int 4,.int 9]:=f.lst (by omega) zc9
  simp only [zd6,e,zck,hx,za4,qs0,qs1]
  exact ⟨nofun,p,(Fn.gr ⟨_,rfl⟩).trans f,x.toNat,by omega,by omega,by rw [Int.toNat_of_nonneg (by omega)]⟩
 rintro l S1 ⟨p1,f1,sh,sh1,sh9,rfl⟩
 have l1:=p1.lt
 refine zaz (λl S'=>PQ ns (c+3) S'/\Fn S S'/\∃mn:Nat,1<=mn/\mn<=24/\l=[~~~1,‹most›,‹sh›,‹mn›,none,none,none,none,none,none,none,none,none,none]) ?_ ?_
 ·simp_all! only [zbq]
  refine ⟨by omega,(zcz (p1.gr ⟨_,rfl⟩) (by omega) (by decide) (by decide)).mono ?_⟩
  rintro x S2 ⟨⟨d,rfl,hd⟩,p,f⟩
  obtain ⟨x,hx,hx2⟩:=yfs (a:=5) (b:=(most:Int)) d hd
  have e:lstOf S2 S1.length=some [.int 5,.int (most:Int)]:=f.lst (by omega) zc9
  simp only [zd6,e,zck,hx,zb0,zbz]
  refine (zcz p (by omega) (by omega) (by omega)).mono ?_
  rintro y S3 ⟨⟨d2,rfl,hd2⟩,p3,f3⟩
  simp only [zeg,za4,qs0,qs1]
  exact ⟨nofun,p3,f1.trans ((Fn.gr ⟨_,rfl⟩).trans (f.trans f3)),1+d2,by omega,by omega,by simp⟩
 rintro l S2 ⟨p2,f2,mn,mn1,mn24,rfl⟩
 refine zaz (λl S'=>PQ ns (c+4) S'/\Fn S S'/\∃A:Nat,1<=A/\A<=4/\l=[~~~1,‹most›,‹sh›,‹mn›,‹A›,none,none,none,none,none,none,none,none,none]) ?_ ?_
 ·simp_all! only [zbq]
  refine (zcz p2 (by omega) (by decide) (by decide)).mono ?_
  rintro x S3 ⟨⟨d,rfl,hd⟩,p,f⟩
  simp only [zeg,za4,qs0,qs1]
  exact ⟨nofun,p,f2.trans f,1+d,by omega,by omega,by simp⟩
 rintro l S3 ⟨p3,f3,A,A1,A4,rfl⟩
 have l3:=p3.lt
 refine zaz (λl S'=>PQ ns (c+5) S'/\Fn S S'/\∃an:Nat,1<=an/\an<=8/\l=[~~~1,‹most›,‹sh›,‹mn›,‹A›,‹an›,none,none,none,none,none,none,none,none]) ?_ ?_
 ·simp_all! only [zbq]
  refine ⟨by omega,(zcz (p3.gr ⟨_,rfl⟩) (by omega) (by decide) (by decide)).mono ?_⟩
  rintro x S4 ⟨⟨d,rfl,hd⟩,p,f⟩
  obtain ⟨x,hx,hx2⟩:=zsy (a:=2) (b:=3) (c:=8) (d:=1) d hd
  have e:lstOf S4 S3.length=some [.int 2,.int 3,.int 8,.int 1]:=f.lst (by omega) zc9
  simp only [zd6,e,zck,hx,za4,qs0,qs1]
  exact ⟨nofun,p,f3.trans ((Fn.gr ⟨_,rfl⟩).trans f),x.toNat,by omega,by omega,by rw [Int.toNat_of_nonneg (by omega)]⟩
 rintro l S4 ⟨p4,f4,an,an1,an8,rfl⟩
 have l4:=p4.lt
 refine zaz (λl S'=>PQ ns (c+5) S'/\Fn S S'/\∃n6:Nat,S4.length<=n6/\n6<S'.length/\Mx A mn S4.length n6 S'/\l=[~~~1,‹most›,‹sh›,‹mn›,‹A›,‹an›,~~~n6,none,none,none,none,none,none,none]) ?_ ?_
 ·rw [zbq]
  refine zmz (za3 0 mn) (λi acc l S'=>∃(rf:List Nat) (x0:Option D),acc=rf.map D.ref/\rf.length=i/\Gr S4 S'/\(∀x∈rf,S4.length<=x/\x<S'.length/\S'[x]? = some (.lst ((List.replicate A (none:Option Nat)).map oD)))/\l=[x0,‹A›]) (zk0 (n:=mn) rfl (by omega)) ⟨[],none,rfl,rfl,.refl _,λx hx=>(by cases hx),rfl⟩ (λ_ _ _ _ _=>rfl) ?_ ?_
  ·rintro i x acc l S5 hx ⟨rf,x0,rfl,hl,g5,hr,rfl⟩
   simp only [za4,qs0,zqj,if_true]
   refine zjh (za3 0 A) (λ_=>D.non) (λS'=>S' = S5) (λl=>∃x0,l=[x0]) (zk0 (n:=A) rfl (by omega)) rfl ⟨_,rfl⟩ (λ_ _ _=>rfl) (by rw [zfi];omega) ?_ ?_
   ·rintro y l S6 hy ⟨y0,rfl⟩ rfl
    simp only [za4,qs0,zcb]
    exact ⟨nofun,⟨_,rfl⟩,nofun,nofun⟩
   ·rintro S6 rfl
    have er:(za3 0 A).map (λ_=>D.non)=(List.replicate A (none:Option Nat)).map oD:=by rw [zjq,List.map_map];exact yfu A
    rw [er]
    refine ⟨rf++[S6.length],_,by simp,by simp [hl],g5.push _,λy hy=>?_,rfl⟩
    rcases List.mem_append.mp hy with z|z
    ·obtain ⟨q1,q2,q3⟩:=hr y z
     exact ⟨q1,by rw [qla];omega,zbj q3⟩
    ·have:y=S6.length:=by simpa using z
     subst this
     exact ⟨g5.len,by simp,za0⟩
  ·rintro acc l S5 ⟨rf,x0,rfl,hl,g5,hr,rfl⟩
   rw [zfi] at hl
   refine ⟨by rw [qlm];omega,?_⟩
   simp only [za4,qs0,qs1]
   refine ⟨nofun,(p4.gr g5).gr ⟨_,rfl⟩,f4.trans (Fn.gr (g5.push _)),S5.length,g5.len,by simp,⟨rf,za0,hl,λx hx=>?_⟩,rfl⟩
   obtain ⟨q1,q2,q3⟩:=hr x hx
   refine ⟨q1,q2,_,zbj q3,by simp,λo ho y hy=>?_⟩
   rw [List.eq_of_mem_replicate ho] at hy;cases hy
 rintro l S5 ⟨p5,f5,n6,n6a,n6b,mx5,rfl⟩
 refine zaz (λl S'=>PQ ns (c+5) S'/\Fn S S'/\∃(n7:Nat) (fr:List (Nat × Nat)),n6<n7/\S'[n7]? = some (.lst (fr.map spD))/\OkF A mn fr/\1<=fr.length/\fr.length<=4/\Mx A mn S4.length n6 S'/\l=[~~~1,‹most›,‹sh›,‹mn›,‹A›,‹an›,~~~n6,~~~n7,none,none,none,none,none,none]) ?_ ?_
 ·rw [zbq]
  refine zs0 (A:=A) (r:=0) A4 (λx x0 S' Q'=>?_) rfl rfl ?_
  ·simp_all! only [zbn]
   simp
   intro z;omega
  ·simp only [za4,qs0,qs1]
   refine ⟨nofun,p5.gr ⟨_,rfl⟩,f5.trans (Fn.gr ⟨_,rfl⟩),S5.length,_,n6b,za0,λp hp=>?_,by simp;omega,by simp;omega,mx5.gr ⟨_,rfl⟩,rfl⟩
   obtain ⟨a,ha,rfl⟩:=List.mem_map.mp hp
   exact ⟨by omega,List.mem_range.mp ha⟩
 rintro l S6 ⟨p6,f6,n7,fr,n67,h7,okf,fr1,fr4,mx6,rfl⟩
 refine zaz (λl S'=>PQ ns (c+5+24) S'/\Fn S S'/\∃(fr:List (Nat × Nat)) (x8 x9:Option D),S'[n7]? = some (.lst (fr.map spD))/\OkF A mn fr/\fr.length<=100/\Mx A mn S4.length n6 S'/\l=[~~~1,‹most›,‹sh›,‹mn›,‹A›,‹an›,~~~n6,~~~n7,x8,x9,none,none,none,none]) ?_ ?_
 ·refine yfr (n:=mn) (λi l S'=>∃(fr:List (Nat × Nat)) (x8 x9:Option D),S'[n7]? = some (.lst (fr.map spD))/\OkF A mn fr/\1<=fr.length/\fr.length<=4+4*i/\Mx A mn S4.length n6 S'/\PQ ns (c+5+i) S'/\Fn S S'/\l=[~~~1,‹most›,‹sh›,‹mn›,‹A›,‹an›,~~~n6,~~~n7,x8,x9,none,none,none,none]) rfl (by omega) ⟨fr,none,none,h7,okf,fr1,by omega,mx6,p6,f6,rfl⟩ ?_ ?_
  ·rintro i l S7 hi ⟨fr,x8,x9,h7,okf,fr1,fr4,mx7,p7,f7,rfl⟩
   have l7:=p7.lt
   simp only [za4,qs0,qs1]
   refine zaz (λl S'=>∃(fr':List (Nat × Nat)) (sp:Nat × Nat),sp.1<mn/\sp.2<A/\S'[n7]? = some (.lst (fr'.map spD))/\OkF A mn fr'/\fr'.length+1=fr.length/\Mx A mn S4.length n6 S'/\PQ ns (c+5+(i+1)) S'/\Fn S S'/\l=[~~~1,‹most›,‹sh›,‹mn›,‹A›,‹an›,~~~n6,~~~n7,some (.int ((i+1:Nat):Int)),some (spD sp),none,none,none,none]) ?_ ?_
   ·rw [zbq,zch]
    simp_all! only [zcy h7,zdb,true_and,zbl h7,qlm]
    refine (zcz p7 (by omega) (by omega) (by omega)).mono ?_
    rintro x S8 ⟨⟨d,rfl,hd⟩,p8,f8⟩
    have h8:=f8 n7 _ (by omega) h7
    obtain ⟨y,hy,hq⟩:=zm9 (i:=(d:Int)) h8 (by omega) (by rw [qlm];omega) (by rw [qlm];omega)
    rw [Int.toNat_natCast] at hy hq
    rw [qgm] at hy
    obtain ⟨sp,hsp,rfl⟩:=Option.map_eq_some_iff.mp hy
    rw [hq,zna]
    obtain ⟨s1,s2⟩:=okf sp (qmg hsp)
    refine ⟨fr.eraseIdx d,sp,s1,s2,zcr h8,λp hp=>okf p (List.mem_of_mem_eraseIdx hp),?_,(mx7.fn f8 (by omega) (by omega)).setN n67,(p8.mono (by omega)).setN (by omega),(f7.trans f8).setN ?_,rfl⟩
    ·rw [List.length_eraseIdx_of_lt (by omega)];omega
    ·have:=f4.len (by omega);omega
   rintro l S8 ⟨fr',sp,s1,s2,h8,okf8,hl8,mx8,p8,f8,rfl⟩
   refine zaz (λl S'=>S'[n7]? = some (.lst (fr'.map spD))/\Mx A mn S4.length n6 S'/\PQ ns (c+5+(i+1)) S'/\Fn S S'/\l=[~~~1,‹most›,‹sh›,‹mn›,‹A›,‹an›,~~~n6,~~~n7,some (.int ((i+1:Nat):Int)),some (spD sp),none,none,none,none]) ?_ ?_
   ·obtain ⟨x,xs,S9,e1,e2,e3,mx9,⟨o,rfl⟩,x1,x2⟩:=mx8.put (r:=sp.1) (a:=sp.2) (k:=i+1) s1 s2 (by omega)
    simp_all! only [zbq,spD,zbl e1,e2,e3]
    refine ⟨nofun,zbs h8 (by omega),mx9,p8.setN (by omega),f8.setN ?_,nofun⟩
    have:=f4.len (by omega);omega
   rintro l S9 ⟨h9,mx9,p9,f9,rfl⟩
   rw [zcv,zch]
   simp only [zao,qg0,qg1,zbr,zcy h9,zdb,true_and,zb0,zbz]
   refine zs0 (A:=A) (r:=i+1) A4 (λx x0 S' Q'=>?_) rfl rfl ?_
   ·simp_all! only [zbn]
    simp
    intro z;omega
   ·rw [yft (zbj h9) za0 (by rw [qlm,qlm,qlm,List.length_range];omega)]
    refine ⟨(by first|exact .inl rfl|exact .inl trivial|trivial),fr'++(List.range A).map (λa=>(i+1,a)),_,_,by rw [List.map_append];exact zcr (zbj h9),λp hp=>?_,by simp;omega,by simp;omega,(mx9.gr ⟨_,rfl⟩).setN n67,(p9.gr ⟨_,rfl⟩).setN (by omega),(f9.trans (Fn.gr ⟨_,rfl⟩)).setN ?_,rfl⟩
    ·rcases List.mem_append.mp hp with z|z
     ·exact okf8 p z
     ·obtain ⟨a,ha,rfl⟩:=List.mem_map.mp z
      exact ⟨by show i+1<mn;omega,List.mem_range.mp ha⟩
    ·have:=f4.len (by omega);omega
  ·rintro l S7 ⟨fr,x8,x9,h7,okf,fr1,fr4,mx7,p7,f7,rfl⟩
   exact ⟨nofun,p7.mono (by omega),f7,fr,x8,x9,h7,okf,by omega,mx7,rfl⟩
 rintro l S7 ⟨p7,f7,fr,x8,x9,h7,okf,frl,mx7,rfl⟩
 have l7:=p7.lt
 have n6S:=f4.len (by omega)
 refine zaz (λl S'=>PQ ns (c+29+200) S'/\Fn S S'/\∃(x8 x9:Option D),Mx A mn S4.length n6 S'/\l=[~~~1,‹most›,‹sh›,‹mn›,‹A›,‹an›,~~~n6,~~~n7,x8,x9,none,none,none,none]) ?_ ?_
 ·refine zr8 (n:=n7) (fr.map spD) (λi l S'=>∃(x8 x9:Option D),S'[n7]? = some (.lst (fr.map spD))/\Mx A mn S4.length n6 S'/\PQ ns (c+29+2*i) S'/\Fn S S'/\l=[~~~1,‹most›,‹sh›,‹mn›,‹A›,‹an›,~~~n6,~~~n7,x8,x9,none,none,none,none]) (λ_ _=>False) rfl ⟨x8,x9,h7,mx7,p7.mono (by omega),f7,rfl⟩ (λi l S' ⟨_,_,q,_⟩=>zbl q) ?_ ?_ (λd l' S' z=>z.elim)
  ·rintro i x l S8 hx ⟨x8,x9,h8,mx8,p8,f8,rfl⟩
   have hi:i<100:=by have:=(qme hx).1;rw [qlm] at this;omega
   rw [qgm] at hx
   obtain ⟨sp,hsp,rfl⟩:=Option.map_eq_some_iff.mp hx
   obtain ⟨s1,s2⟩:=okf sp (qmg hsp)
   simp only [za4,qs0,qs1]
   refine zeh (λb S'=>S'[n7]? = some (.lst (fr.map spD))/\Mx A mn S4.length n6 S'/\PQ ns (c+29+2*i+1) S'/\Fn S S') ?_ ?_ ?_
   ·simp_all! only [zao]
    refine (zcz p8 (by omega) (by omega) (by omega)).mono ?_
    rintro y S9 ⟨⟨d,rfl,hd⟩,p9,f9⟩
    simp only [zdl]
    exact ⟨_,rfl,f9 n7 _ (by omega) h8,mx8.fn f9 (by omega) (by omega),p9,f8.trans f9⟩
   ·rintro S9 ⟨h9,mx9,p9,f9⟩
    rw [zbq]
    simp_all! only [zao]
    refine (zcz p9 (by omega) (by omega) (by omega)).mono ?_
    rintro y Sa ⟨⟨d,rfl,hd⟩,pa,fa⟩
    obtain ⟨x,xs,Sb,e1,e2,e3,mxb,⟨o,rfl⟩,x1,x2⟩:=(mx9.fn fa (by omega) (by omega)).put (r:=sp.1) (a:=sp.2) (k:=d) s1 s2 (by omega)
    simp_all! only [spD,zbl e1,e2,e3]
    exact .inl ⟨(by first|exact .inl rfl|exact .inl trivial|trivial),x8,_,zbs (fa n7 _ (by omega) h9) (by omega),mxb,(pa.mono (by omega)).setN (by omega),(f9.trans fa).setN (by omega),rfl⟩
   ·rintro S9 ⟨h9,mx9,p9,f9⟩
    rw [zdk]
    exact .inl ⟨(by first|exact .inl rfl|exact .inl trivial|trivial),x8,_,h9,mx9,p9.mono (by omega),f9,rfl⟩
  ·rintro l S8 ⟨x8,x9,h8,mx8,p8,f8,rfl⟩
   rw [qlm] at p8
   exact ⟨nofun,p8.mono (by omega),f8,x8,x9,mx8,rfl⟩
 rintro l S8 ⟨p8,f8,x8,x9,mx8,rfl⟩
 have l8:=p8.lt
 have n8:=f8.len (by omega)
 have n68:n6<S8.length:=by obtain ⟨rf,e,_⟩:=mx8;exact (qme e).1
 refine zav (l':=[~~~1,‹most›,‹sh›,‹mn›,‹A›,‹an›,~~~n6,~~~n7,x8,x9,some (.ref S8.length),none,none,none]) (S':=S8++[.lst []]) (by simp! only [zao];exact ⟨by omega,nofun,nofun,nofun⟩) ?_
 refine zaz (λl S'=>∃(g:List (List Cl)) (x8 x11 x12 x13:Option D),OkM A g/\S'[S8.length]? = some (.lst (g.map roD))/\PQ ns (c+229+200) S'/\Fn S S'/\l=[~~~1,‹most›,‹sh›,‹mn›,‹A›,‹an›,~~~n6,~~~n7,x8,x9,some (.ref S8.length),x11,x12,x13]) ?_ ?_
 ·refine zjj (n:=mn) (λi l S'=>∃(g:List (List Cl)) (x8 x11 x12 x13:Option D),g.length=i/\(∀cs∈g,cs.length=A/\∀c∈cs,Ck mn c)/\S'[S8.length]? = some (.lst (g.map roD))/\Mx A mn S4.length n6 S'/\PQ ns (c+229+8*i) S'/\Fn S S'/\l=[~~~1,‹most›,‹sh›,‹mn›,‹A›,‹an›,~~~n6,~~~n7,x8,x9,some (.ref S8.length),x11,x12,x13]) (λ_ _=>False) rfl (by omega) ⟨[],_,none,none,none,rfl,(λcs hcs=>by cases hcs),za0,mx8.gr ⟨_,rfl⟩,p8.gr ⟨_,rfl⟩,f8.trans (Fn.gr ⟨_,rfl⟩),rfl⟩ ?_ ?_ (λd l' S' z=>z.elim)
  ·rintro i l S9 hi ⟨g,y8,x11,x12,x13,hl,hg,h9,mx9,p9,f9,rfl⟩
   have l9:S8.length<S9.length:=(qme h9).1
   simp only [za4,qs0,qs1]
   refine zav (l':=[~~~1,‹most›,‹sh›,‹mn›,‹A›,‹an›,~~~n6,~~~n7,‹i›,x9,some (.ref S8.length),some (.ref S9.length),x12,x13]) (S':=S9++[.lst []]) (by simp! only [zao];exact ⟨by omega,nofun,nofun,nofun⟩) ?_
   refine zaz (λl S'=>∃(cs:List Cl) (x12 x13:Option D),cs.length=A/\(∀c∈cs,Ck mn c)/\S'[S9.length]? = some (.lst (cs.map kD))/\S'[S8.length]? = some (.lst (g.map roD))/\Mx A mn S4.length n6 S'/\PQ ns (c+229+8*(i+1)) S'/\Fn S S'/\l=[~~~1,‹most›,‹sh›,‹mn›,‹A›,‹an›,~~~n6,~~~n7,‹i›,x9,some (.ref S8.length),some (.ref S9.length),x12,x13]) ?_ ?_
   ·refine zjj (n:=A) (λj l S'=>∃(cs:List Cl) (x12 x13:Option D),cs.length=j/\(∀c∈cs,Ck mn c)/\S'[S9.length]? = some (.lst (cs.map kD))/\S'[S8.length]? = some (.lst (g.map roD))/\Mx A mn S4.length n6 S'/\PQ ns (c+229+8*i+2*j) S'/\Fn S S'/\l=[~~~1,‹most›,‹sh›,‹mn›,‹A›,‹an›,~~~n6,~~~n7,‹i›,x9,some (.ref S8.length),some (.ref S9.length),x12,x13]) (λ_ _=>False) rfl (by omega) ⟨[],_,_,rfl,(λc hc=>by cases hc),za0,zbj h9,mx9.gr ⟨_,rfl⟩,p9.gr ⟨_,rfl⟩,f9.trans (Fn.gr ⟨_,rfl⟩),rfl⟩ ?_ ?_ (λd l' S' z=>z.elim)
    ·rintro j l Sa hj ⟨cs,y12,y13,hcl,hck,ha,hga,mxa,pa,fa,rfl⟩
     simp only [za4,qs0,qs1]
     refine zaz (λl S'=>∃k:Nat,k<8/\S'[S9.length]? = some (.lst (cs.map kD))/\S'[S8.length]? = some (.lst (g.map roD))/\Mx A mn S4.length n6 S'/\PQ ns (c+229+8*i+2*j+1) S'/\Fn S S'/\l=[~~~1,‹most›,‹sh›,‹mn›,‹A›,‹an›,~~~n6,~~~n7,‹i›,x9,some (.ref S8.length),some (.ref S9.length),‹j›,‹k›]) ?_ ?_
     ·rw [zbq]
      simp_all! only [zao]
      refine (zcz pa (by omega) (by omega) (by omega)).mono ?_
      rintro y Sb ⟨⟨d,rfl,hd⟩,pb,fb⟩
      exact ⟨nofun,d,by omega,fb _ _ (by omega) ha,fb _ _ (by omega) hga,mxa.fn fb (by omega) (by omega),pb,fa.trans fb,rfl⟩
     rintro l Sb ⟨k,k8,hb,hgb,mxb,pb,fb,rfl⟩
     obtain ⟨x,xs,os,o,e1,e2,e3,e4,ho⟩:=mxb.at' (r:=i) (a:=j) hi hj
     rw [zcv,zch]
     simp_all! only [zcy hb,zdb,true_and,e1,e2,e3,e4]
     refine (zcz pb (by omega) (by omega) (by omega)).mono ?_
     rintro y Sc ⟨⟨d,rfl,hd⟩,pc,fc⟩
     have hc:=fc _ _ (by omega) hb
     have fin:∀w:Option Nat,(∀z,w=some z->z<8)->2<=sizeLine/\Wo (zcs (.ref S9.length) [D.tup [oD o,oD w]] Sc) (λv S'=>((True\/Fl.nx=Fl.ct)/\∃(cs:List Cl) (x12 x13:Option D),cs.length=j+1/\(∀c∈cs,Ck mn c)/\S'[S9.length]? = some (.lst (cs.map kD))/\S'[S8.length]? = some (.lst (g.map roD))/\Mx A mn S4.length n6 S'/\PQ ns (c+229+8*i+2*(j+1)) S'/\Fn S S'/\[~~~1,‹most›,‹sh›,‹mn›,‹A›,‹an›,~~~n6,~~~n7,‹i›,x9,some (.ref S8.length),some (.ref S9.length),‹j›,‹k›]=[~~~1,‹most›,‹sh›,‹mn›,‹A›,‹an›,~~~n6,~~~n7,‹i›,x9,some (.ref S8.length),some (.ref S9.length),x12,x13])\/∃d,Fl.nx=Fl.rt d/\False):=by
      intro w hw
      refine ⟨by omega,?_⟩
      rw [ze8 hc (by rw [qlm];omega)]
      refine .inl ⟨.inl trivial,cs++[(o,w)],_,_,by simp [hcl],λq hq=>?_,by rw [List.map_append];exact zcr hc,zbs (fc _ _ (by omega) hgb) (by omega),(mxb.fn fc (by omega) (by omega)).setN (by omega),(pc.mono (by omega)).setN (by omega),(fb.trans fc).setN (by omega),rfl⟩
      rcases List.mem_append.mp hq with z|z
      ·exact hck q z
      ·have:q=(o,w):=by simpa using z
       subst this
       exact ⟨ho,hw⟩
     by_cases hd0:0<d
     ·have hd1:(0:Int)<(d:Int):=by omega
      simp_all! only [hd1,decide_true,if_true]
      exact fin (some k) (λz hz=>by cases hz;exact k8)
     ·have hd1:¬(0:Int)<(d:Int):=by omega
      simp_all! only [hd1,decide_false,qbf,if_false]
      exact fin none (λz hz=>by cases hz)
    ·rintro l Sa ⟨cs,y12,y13,hcl,hck,ha,hga,mxa,pa,fa,rfl⟩
     exact ⟨nofun,cs,y12,y13,hcl,hck,ha,hga,mxa,pa.mono (by omega),fa,rfl⟩
   rintro l Sa ⟨cs,y12,y13,hcl,hck,ha,hga,mxa,pa,fa,rfl⟩
   rw [zcv,zch]
   simp_all! only [zcy hga,zdb,true_and,zbl ha]
   rw [ze8 hga (by rw [qlm];omega)]
   refine .inl ⟨(by first|exact .inl rfl|exact .inl trivial|trivial),g++[cs],_,_,_,_,by simp [hl],λq hq=>?_,by rw [List.map_append];exact zcr hga,mxa.setN (by omega),pa.setN (by omega),fa.setN (by omega),rfl⟩
   rcases List.mem_append.mp hq with z|z
   ·exact hg q z
   ·have:q=cs:=by simpa using z
    subst this
    exact ⟨hcl,hck⟩
  ·rintro l S9 ⟨g,y8,x11,x12,x13,hl,hg,h9,mx9,p9,f9,rfl⟩
   exact ⟨nofun,g,y8,x11,x12,x13,zjp A1 A4 hg hl mn1 mn24,h9,p9.mono (by omega),f9,rfl⟩
 rintro l S9 ⟨g,y8,x11,x12,x13,ok,h9,p9,f9,rfl⟩
 simp! only [zbl h9]
 exact ⟨by omega,⟨A,g,rfl,ok,p9.mono (by omega),f9⟩⟩
abbrev Rw:=List Nat
noncomputable def zs1 (r:Rw):D:=.tup (r.map nD)
noncomputable def pyN (a:Nat):PyData:=.int (a:Int)
noncomputable def pyR (r:Rw):PyData:=.tuple (r.map pyN)
def SmR (r:Rw):Prop:=∀a∈r,a<1000
theorem znc {S:Sto}{k:Nat}:∀{r:Rw},SmR r->zbm S (k+1) (r.map nD)=some (r.map pyN)
 | [],_=>by unfold zbm;rfl
 | a :: r,h=>by
  rw [List.map_cons]
  unfold zbm
  have e:zau S (k+1) (nD a)=some (pyN a):=by
   unfold nD zau
   rw [if_pos (zm3 (by have:=h a List.mem_cons_self;omega))];rfl
  show (zau S (k+1) (nD a)).bind _=_
  rw [e]
  show (zbm S (k+1) (r.map nD)).bind _=_
  rw [znc (λb hb=>h b (List.mem_cons_of_mem _ hb))];rfl
theorem yfw {S:Sto}{k:Nat}{r:Rw}(h:SmR r):zau S (k+2) (zs1 r)=some (pyR r):=by
 unfold zs1 zau
 rw [znc h];rfl
theorem znd:∀r:Rw,PyData.canLayAll0 (r.map pyN)=true
 | []=>by simp [PyData.canLayAll0]
 | a :: r=>by
  rw [List.map_cons];simp only [PyData.canLayAll0,pyN,PyData.canLay0,Bool.true_and];exact znd r
theorem yfx (r:Rw):(pyR r).canLay0=true:=by
 unfold pyR;rw [PyData.canLay0];exact znd r
theorem yfy {os:List Nat}{j k:Nat}(nd:os.Nodup) (hj:os[j]? = some k):((os.map pyN).map λq=>q.eqv (pyN k)).idxOf? true=some j:=by
 obtain ⟨hl,e⟩:=qme hj
 unfold List.idxOf?
 rw [List.findIdx?_eq_some_iff_getElem]
 refine ⟨by simpa using hl,?_,λm hm=>?_⟩
 ·simp [pyN,PyData.eqv,e]
 ·have hm':m<os.length:=by omega
  simp only [List.getElem_map,pyN,PyData.eqv,beq_iff_eq,Bool.not_eq_true,beq_eq_false_iff_ne,ne_eq,Bool.beq_eq_decide_eq,decide_eq_true_eq]
  intro z
  have:os[m]=os[j]:=by rw [e];omega
  have:=(List.getElem_inj nd).mp this
  omega
theorem zs2 {S:Sto}{k a:Nat}(h:a<1000):zau S (k+1) (.int (a:Int))=some (pyN a):=by
 unfold zau
 rw [if_pos (zm3 (by omega))];rfl
theorem yfz {S:Sto}{n j k:Nat}{os:List Nat}{Q:D->Sto->Prop}(h:S[n]? = some (.lst (os.map nD))) (hr:SmR os) (nd:os.Nodup) (hj:os[j]? = some k):Wo (zgm (.ref n) [.int (k:Int)] S) Q=Q (.int (j:Int)) S:=by
 have hk:=hr k (qmg hj)
 have:zgm (.ref n) [.int (k:Int)] S=some (.int (j:Int),S):=by
  unfold zgm
  dsimp only
  rw [h]
  show (zau S 60 (.int (k:Int))).bind _=_
  rw [zs2 hk]
  show (zbm S 60 (os.map nD)).bind _=_
  rw [znc hr]
  show (if _ then _ else _)=_
  rw [if_pos ⟨by unfold pyN;rw [PyData.canLay0],znd os⟩,yfy nd hj];rfl
 rw [this,za9]
theorem yf0 {ns:List Int}{c A:Nat}{g:List (List Cl)}{S:Sto}(h:PQ ns c S) (hc:c<90000000) (ok:OkM A g):Wo (zjn [.ref 1,mD A g] S) (MaP ns c S):=by
 have sz:=zdc
 have l0:=h.lt
 have r24:=ok.r24
 have r1:=ok.r1
 have a4:=ok.a4
 unfold zjn zso
 dsimp! only [zcj]
 refine zav (l':=[~~~1,some (mD A g),‹A›,some (.tup (g.map roD)),none,none,none,none,none,none,none]) (S':=S) (by unfold mD;simp! only [zao];first|exact ⟨nofun,nofun,nofun⟩|trivial) ?_
 refine zav (l':=[~~~1,some (mD A g),‹A›,some (.tup (g.map roD)),some (.ref S.length),none,none,none,none,none,none]) (S':=S++[.lst (((List.range (g.length-1)).map (· + 1)).map nD)]) ?_ ?_
 ·rw [zbq]
  have hn:∀z:Int,z=((g.map roD).length:Int)->0<=z/\z<1000:=λz hz=>by rw [qlm] at hz;omega
  have ha:zab (eC (.int 1)) (zab (zaf za5 (zab (zaa 3) zae)) zae) [~~~1,some (mD A g),‹A›,some (.tup (g.map roD)),none,none,none,none,none,none,none] S=some ([.int 1,.int ((g.map roD).length:Int)],S):=rfl
  have hr:∀z:Int,z=((g.map roD).length:Int)->zeu (zab (eC (.int 1)) (zab (zaf za5 (zab (zaa 3) zae)) zae)) [~~~1,some (mD A g),‹A›,some (.tup (g.map roD)),none,none,none,none,none,none,none] S=some ((1,(z-1).toNat),S):=λz hz=>by
   have:=hn z hz
   rw [<-hz] at ha
   clear hz hn
   unfold zeu;rw [ha];show (if _ then _ else _)=_;rw [if_pos (by omega)]
  have hr:=hr _ rfl
  have e1:(((g.map roD).length:Int)-1).toNat=g.length-1:=by rw [qlm];omega
  rw [e1] at hr
  refine ⟨.ref S.length,S++[.lst (za3 1 (g.length-1))],?_,?_⟩
  ·unfold zhf;rw [hr];show (if g.length-1<=sizeLine then _ else _)=_;rw [if_pos (by omega)]
  ·have e2:za3 1 (g.length-1)=((List.range (g.length-1)).map (· + 1)).map nD:=by
    unfold za3;rw [List.map_map];apply List.map_congr_left;intro i _;show D.int (1+(i:Int))=D.int ((i+1:Nat):Int);have:(1:Int)+(i:Int)=((i+1:Nat):Int):=by omega
    rw [this]
   rw [e2]
   simp only [za4,qs0,qs1]
   exact ⟨nofun,nofun,nofun⟩
 refine zav (l':=[~~~1,some (mD A g),‹A›,some (.tup (g.map roD)),some (.ref S.length),~~~(S.length+1),none,none,none,none,none]) (S':=S++[.lst (((List.range (g.length-1)).map (· + 1)).map nD)]++[.lst [.int 0]]) (by simp! only [qla];exact ⟨by omega,nofun,nofun,nofun⟩) ?_
 refine zaz (λl S'=>∃(os:List Nat) (x6:Option D),os.Perm (List.range g.length)/\S'[S.length+1]? = some (.lst (os.map nD))/\PQ ns (c+24) S'/\Fn S S'/\l=[~~~1,some (mD A g),‹A›,some (.tup (g.map roD)),some (.ref S.length),~~~(S.length+1),x6,none,none,none,none]) ?_ ?_
 ·refine zk2 ((g.drop 1).map roD) (λi l S'=>∃(os left:List Nat) (x6:Option D),os.length=i+1/\(os++left).Perm (List.range g.length)/\S'[S.length]? = some (.lst (left.map nD))/\S'[S.length+1]? = some (.lst (os.map nD))/\PQ ns (c+i) S'/\Fn S S'/\l=[~~~1,some (mD A g),‹A›,some (.tup (g.map roD)),some (.ref S.length),~~~(S.length+1),x6,none,none,none,none]) (λ_ _=>False) (S1:=S++[.lst (((List.range (g.length-1)).map (· + 1)).map nD)]++[.lst [.int 0]]) ?_ ⟨[0],(List.range (g.length-1)).map (· + 1),none,rfl,?_,zbj za0,?_,(h.gr ⟨_,rfl⟩).gr ⟨_,rfl⟩,Fn.gr ((Gr.refl S).push _ |>.push _),rfl⟩ ?_ ?_ (λd l' S' z=>z.elim)
  ·show some (D.tup (zby (g.map roD) (some 1) none),_)=_
   rw [show (1:Int)=((1:Nat):Int) from rfl,zsw _ 1 (by rw [qlm];omega),List.map_drop]
  ·have:[0]++(List.range (g.length-1)).map (· + 1)=List.range g.length:=by
    obtain ⟨m,hm⟩:∃m,g.length=m+1:=⟨g.length-1,by omega⟩
    rw [hm,Nat.add_sub_cancel,List.range_succ_eq_map];rfl
   rw [this]
  ·have:=@za0 (S++[.lst (((List.range (g.length-1)).map (· + 1)).map nD)]) (.lst [.int 0])
   rw [qla] at this;exact this
  ·rintro i x l S1 hx ⟨os,left,x6,hl,pm,h4,h5,p1,f1,rfl⟩
   have hi:i<g.length-1:=by have:=(qme hx).1;rw [qlm,List.length_drop] at this;exact this
   have hll:os.length+left.length=g.length:=by have:=pm.length_eq;rw [qla,List.length_range] at this;exact this
   simp only [za4,qs0,qs1]
   rw [zcv,zch]
   simp_all! only [zcy h5,zcy h4,zdb,true_and,zbl h4,qlm]
   refine (zcz p1 (by omega) (by omega) (by omega)).mono ?_
   rintro y S2 ⟨⟨d,rfl,hd⟩,p2,f2⟩
   have h4':=f2 _ _ (by omega) h4
   have h5':=f2 _ _ (by omega) h5
   obtain ⟨y,hy,hq⟩:=zm9 (i:=(d:Int)) h4' (by omega) (by rw [qlm];omega) (by rw [qlm];omega)
   rw [Int.toNat_natCast] at hy hq
   rw [qgm] at hy
   obtain ⟨k,hk,rfl⟩:=Option.map_eq_some_iff.mp hy
   rw [hq,zna]
   have h5'':(S2.set S.length (.lst ((left.eraseIdx d).map nD)))[S.length+1]? = some (.lst (os.map nD)):=zbs h5' (by omega)
   rw [ze8 h5'' (by rw [qlm];omega)]
   have hdl:d<left.length:=by omega
   have hkd:left[d]=k:=(qme hk).2
   refine .inl ⟨(by first|exact .inl rfl|exact .inl trivial|trivial),os++[k],left.eraseIdx d,_,by simp [hl],?_,zbs (zcr h4') (by omega),by rw [List.map_append];exact zcr h5'',((p2.mono (by omega)).setN (by omega)).setN (by omega),((f1.trans f2).setN (by omega)).setN (by omega),rfl⟩
   have:=zsz left d hdl
   rw [hkd] at this
   rw [List.append_assoc]
   exact (List.Perm.append_left os this).trans pm
  ·rintro l S1 ⟨os,left,x6,hl,pm,h4,h5,p1,f1,rfl⟩
   rw [qlm,List.length_drop] at hl p1
   have hll:os.length+left.length=g.length:=by have:=pm.length_eq;rw [qla,List.length_range] at this;exact this
   have:left=[]:=List.eq_nil_of_length_eq_zero (by omega)
   subst this
   rw [List.append_nil] at pm
   exact ⟨nofun,os,x6,pm,h5,p1.mono (by omega),f1,rfl⟩
 rintro l S1 ⟨os,x6,pm,h5,p1,f1,rfl⟩
 have hol:os.length=g.length:=by have:=pm.length_eq;rw [List.length_range] at this;exact this
 have hos:∀k∈os,k<g.length:=λk hk=>List.mem_range.mp (pm.mem_iff.mp hk)
 have hsm:SmR os:=λk hk=>by have:=hos k hk;omega
 have hnd:os.Nodup:=pm.nodup_iff.mpr List.nodup_range
 have l1:S.length+1<S1.length:=(qme h5).1
 refine zav (l':=[~~~1,some (mD A g),‹A›,some (.tup (g.map roD)),some (.ref S.length),~~~(S.length+1),x6,some (.ref S1.length),none,none,none]) (S':=S1++[.lst []]) (by simp! only [zao];exact ⟨by omega,nofun,nofun,nofun⟩) ?_
 refine zaz (λl S'=>∃(g':List (List Cl)) (x6 x8 x9 x10:Option D),OkM A g'/\S'[S1.length]? = some (.lst (g'.map roD))/\PQ ns (c+24) S'/\Fn S S'/\l=[~~~1,some (mD A g),‹A›,some (.tup (g.map roD)),some (.ref S.length),~~~(S.length+1),x6,some (.ref S1.length),x8,x9,x10]) ?_ ?_
 ·refine zr8 (n:=S.length+1) (os.map nD) (λi l S'=>∃(g':List (List Cl)) (x6 x8 x9 x10:Option D),g'.length=i/\(∀cs∈g',cs.length=A/\∀c∈cs,Ck g.length c)/\S'[S.length+1]? = some (.lst (os.map nD))/\S'[S1.length]? = some (.lst (g'.map roD))/\PQ ns (c+24) S'/\Fn S S'/\l=[~~~1,some (mD A g),‹A›,some (.tup (g.map roD)),some (.ref S.length),~~~(S.length+1),x6,some (.ref S1.length),x8,x9,x10]) (λ_ _=>False) rfl ⟨[],_,none,none,none,rfl,(λcs hcs=>by cases hcs),zbj h5,za0,p1.gr ⟨_,rfl⟩,f1.trans (Fn.gr ⟨_,rfl⟩),rfl⟩ (λi l S' ⟨_,_,_,_,_,_,_,q,_⟩=>zbl q) ?_ ?_ (λd l' S' z=>z.elim)
  ·rintro i x l S2 hx ⟨g',y6,x8,x9,x10,hl,hg,h5,h7,p2,f2,rfl⟩
   have hi:i<os.length:=by have:=(qme hx).1;rw [qlm] at this;exact this
   rw [qgm] at hx
   obtain ⟨r,hr,rfl⟩:=Option.map_eq_some_iff.mp hx
   have hrg:=hos r (qmg hr)
   obtain ⟨cs,hcs⟩:∃cs,g[r]? = some cs:=⟨_,qge hrg⟩
   have hcm:=qmg hcs
   have hcl:=ok.len cs hcm
   have l2:S1.length<S2.length:=(qme h7).1
   simp only [za4,qs0,qs1]
   refine zav (l':=[~~~1,some (mD A g),‹A›,some (.tup (g.map roD)),some (.ref S.length),~~~(S.length+1),some (nD r),some (.ref S1.length),some (.ref S2.length),x9,x10]) (S':=S2++[.lst []]) (by simp! only [zao];exact ⟨by omega,nofun,nofun,nofun⟩) ?_
   refine zaz (λl S'=>∃(ds:List Cl) (x9 x10:Option D),ds.length=A/\(∀c∈ds,Ck g.length c)/\S'[S2.length]? = some (.lst (ds.map kD))/\S'[S.length+1]? = some (.lst (os.map nD))/\S'[S1.length]? = some (.lst (g'.map roD))/\PQ ns (c+24) S'/\Fn S S'/\l=[~~~1,some (mD A g),‹A›,some (.tup (g.map roD)),some (.ref S.length),~~~(S.length+1),some (nD r),some (.ref S1.length),some (.ref S2.length),x9,x10]) ?_ ?_
   ·refine zk2 (cs.map kD) (λj l S'=>∃(ds:List Cl) (x9 x10:Option D),ds.length=j/\(∀c∈ds,Ck g.length c)/\S'[S2.length]? = some (.lst (ds.map kD))/\S'[S.length+1]? = some (.lst (os.map nD))/\S'[S1.length]? = some (.lst (g'.map roD))/\PQ ns (c+24) S'/\Fn S S'/\l=[~~~1,some (mD A g),‹A›,some (.tup (g.map roD)),some (.ref S.length),~~~(S.length+1),some (nD r),some (.ref S1.length),some (.ref S2.length),x9,x10]) (λ_ _=>False) (S1:=S2++[.lst []]) ?_ ⟨[],_,_,rfl,(λc hc=>by cases hc),za0,zbj h5,zbj h7,p2.gr ⟨_,rfl⟩,f2.trans (Fn.gr ⟨_,rfl⟩),rfl⟩ ?_ ?_ (λd l' S' z=>z.elim)
    ·have e:L2.atI (g.map roD) (r:Int)=some (.tup (cs.map kD)):=atI_get (by rw [qgm,hcs];rfl)
     show zal (.tup (g.map roD)) (.int (r:Int)) (S2++[.lst []])=_
     obtain ⟨v,S',e1,rfl,rfl⟩:Wo (zal (.tup (g.map roD)) (.int (r:Int)) (S2++[.lst []])) (λv S'=>v=.tup (cs.map kD)/\S' = S2++[.lst []]):=by
      rw [ze6];exact ⟨_,e,rfl,rfl⟩
     exact e1
    ·rintro j x l S3 hx ⟨ds,y9,y10,hdl,hdk,h8,h5,h7,p3,f3,rfl⟩
     have hj:j<A:=by have:=(qme hx).1;rw [qlm] at this;omega
     rw [qgm] at hx
     obtain ⟨q,hq,rfl⟩:=Option.map_eq_some_iff.mp hx
     obtain ⟨k1,k2⟩:=ok.ck cs hcm q (qmg hq)
     obtain ⟨q1,q2⟩:=q
     simp only [kD,zc4,zc6,zc5,za4,List.length_cons,List.length_nil,qs0,qs1]
     refine ⟨nofun,?_⟩
     rw [zcv,zch]
     have fin:∀w:Option Nat,(∀z,w=some z->z<g.length)->2<=sizeLine/\Wo (zcs (.ref S2.length) [D.tup [oD w,oD q2]] S3) (λv S'=>((True\/Fl.nx=Fl.ct)/\∃(ds:List Cl) (x9 x10:Option D),ds.length=j+1/\(∀c∈ds,Ck g.length c)/\S'[S2.length]? = some (.lst (ds.map kD))/\S'[S.length+1]? = some (.lst (os.map nD))/\S'[S1.length]? = some (.lst (g'.map roD))/\PQ ns (c+24) S'/\Fn S S'/\[~~~1,some (mD A g),‹A›,some (.tup (g.map roD)),some (.ref S.length),~~~(S.length+1),some (nD r),some (.ref S1.length),some (.ref S2.length),some (oD q1),some (oD q2)]=[~~~1,some (mD A g),‹A›,some (.tup (g.map roD)),some (.ref S.length),~~~(S.length+1),some (nD r),some (.ref S1.length),some (.ref S2.length),x9,x10])\/∃d,Fl.nx=Fl.rt d/\False):=by
      intro w hw
      refine ⟨by omega,?_⟩
      rw [ze8 h8 (by rw [qlm];omega)]
      refine .inl ⟨.inl trivial,ds++[(w,q2)],_,_,by simp [hdl],λq hq=>?_,by rw [List.map_append];exact zcr h8,zbs h5 (by omega),zbs h7 (by omega),p3.setN (by omega),f3.setN (by omega),rfl⟩
      rcases List.mem_append.mp hq with z|z
      ·exact hdk q z
      ·have:q=(w,q2):=by simpa using z
       subst this
       exact ⟨hw,k2⟩
     cases q1 with
     | none =>
      simp_all! only [zcy h8,zdb,true_and,oD,zb4,Bool.not_true,qbf,if_false]
      exact fin none (λz hz=>by cases hz)
     | some k =>
      obtain ⟨m,hm⟩:∃m:Nat,os[m]? = some k:=by
       have:k∈os:=pm.mem_iff.mpr (List.mem_range.mpr (k1 k rfl))
       obtain ⟨m,hm,e⟩:=List.mem_iff_getElem.mp this
       exact ⟨m,by rw [qge hm,e]⟩
      simp_all! only [zcy h8,zcy h5,zdb,true_and,oD,zb4,Bool.not_false,if_true,yfz h5 hsm hnd hm]
      exact fin (some m) (λz hz=>by cases hz;have:=(qme hm).1;omega)
    ·rintro l S3 ⟨ds,y9,y10,hdl,hdk,h8,h5,h7,p3,f3,rfl⟩
     rw [qlm] at hdl
     exact ⟨nofun,ds,y9,y10,by omega,hdk,h8,h5,h7,p3,f3,rfl⟩
   rintro l S3 ⟨ds,y9,y10,hdl,hdk,h8,h5,h7,p3,f3,rfl⟩
   rw [zcv,zch]
   simp_all! only [zcy h7,zdb,true_and,zbl h8]
   rw [ze8 h7 (by rw [qlm];omega)]
   refine .inl ⟨(by first|exact .inl rfl|exact .inl trivial|trivial),g'++[ds],_,_,_,_,by simp [hl],λq hq=>?_,zbs h5 (by omega),by rw [List.map_append];exact zcr h7,p3.setN (by omega),f3.setN (by omega),rfl⟩
   rcases List.mem_append.mp hq with z|z
   ·exact hg q z
   ·have:q=ds:=by simpa using z
    subst this
    exact ⟨hdl,hdk⟩
  ·rintro l S2 ⟨g',y6,x8,x9,x10,hl,hg,h5,h7,p2,f2,rfl⟩
   rw [qlm] at hl
   exact ⟨nofun,g',y6,x8,x9,x10,zjp ok.a1 ok.a4 hg (by omega) ok.r1 ok.r24,h7,p2,f2,rfl⟩
 rintro l S2 ⟨g',y6,x8,x9,x10,ok',h7,p2,f2,rfl⟩
 simp! only [zbl h7]
 exact ⟨by omega,⟨A,g',rfl,ok',p2.mono (by omega),f2⟩⟩
theorem yf1 (i:Nat) (h1:(i:Int)<5):∃w:Option Nat,L2.atI [D.non,D.int 0,D.int 1,D.int 2,D.int 7] (i:Int)=some (oD w)/\∀z,w=some z->z<8:=by
 have:i=0\/i=1\/i=2\/i=3\/i=4:=by omega
 rcases this with rfl|rfl|rfl|rfl|rfl
 ·exact ⟨none,rfl,λz hz=>by cases hz⟩
 ·exact ⟨some 0,rfl,λz hz=>by cases hz;decide⟩
 ·exact ⟨some 1,rfl,λz hz=>by cases hz;decide⟩
 ·exact ⟨some 2,rfl,λz hz=>by cases hz;decide⟩
 ·exact ⟨some 7,rfl,λz hz=>by cases hz;decide⟩
theorem yf2 {n d:Nat}(h:d<n+1):∃w:Option Nat,L2.atI (D.non :: za3 0 n) (d:Int)=some (oD w)/\∀z,w=some z->z<n:=by
 cases d with
 | zero=>exact ⟨none,atI_get rfl,λz hz=>by cases hz⟩
 | succ d =>
  refine ⟨some d,atI_get ?_,λz hz=>by cases hz;omega⟩
  rw [qg1,zjq,qgm,List.getElem?_range (by omega)];rfl
theorem yf3 {x:D}{xs:List D}{k:Int}{S:Sto}{Q:D->Sto->Prop}:Wo (zez (.tup (x :: xs)) (.int k) S) Q=((0<=k/\k<2 ^ 31/\(xs.length+1)*k.toNat<=sizeLine)/\Q (.tup (List.replicate k.toNat (x :: xs)).flatten) S):=zee
noncomputable def zk4 (k:Nat) (cs:List Cl):List Cl:=(cs++cs.take 1).take k
noncomputable def zne (k:Nat):D->D
 | .tup xs=>.tup ((xs++xs.take 1).take k)
 | d=>d
theorem yf4 (k:Nat) (cs:List Cl):zne k (roD cs)=roD (zk4 k cs):=by
 show D.tup ((cs.map kD++(cs.map kD).take 1).take k)=D.tup (((cs++cs.take 1).take k).map kD)
 rw [List.map_take,List.map_append,List.map_take]
theorem yf5 {ns:List Int}{c A way spot:Nat}{g:List (List Cl)}{S:Sto}(h:PQ ns c S) (hc:c<80000000) (ok:OkM A g) (hw:way<8) (hsp:spot<1000):Wo (zjm [.ref 1,mD A g,.int (way:Int),.int (spot:Int)] S) (MaP ns c S):=by
 have sz:=zdc
 have l0:=h.lt
 have r24:=ok.r24
 have r1:=ok.r1
 have a1:=ok.a1
 have a4:=ok.a4
 unfold zjm zsn
 dsimp! only [zcj]
 refine zav (l':=[~~~1,some (mD A g),‹way›,‹spot›,‹A›,some (.tup (g.map roD)),none,none,none,none,none,none]) (S':=S) (by unfold mD;simp! only [zao];first|exact ⟨nofun,nofun,nofun⟩|trivial) ?_
 have hr:spot % g.length<g.length:=Nat.mod_lt _ (by omega)
 have ha:spot / g.length % A<A:=Nat.mod_lt _ (by omega)
 obtain ⟨r,er⟩:∃r,spot % g.length=r:=⟨_,rfl⟩
 obtain ⟨a,ea⟩:∃a,spot / g.length % A=a:=⟨_,rfl⟩
 rw [er] at hr
 rw [ea] at ha
 refine zav (l':=[~~~1,some (mD A g),‹way›,‹spot›,‹A›,some (.tup (g.map roD)),‹r›,none,none,none,none,none]) (S':=S) ?_ ?_
 ·have q1:(0:Int)<((g.map roD).length:Int):=by rw [qlm];omega
  have q2:(spot:Int) % ((g.map roD).length:Int)=(r:Int):=by rw [qlm,<-er];rfl
  simp! only [q1,q2,decide_true,true_and]
  all_goals first|trivial|exact ⟨nofun,nofun⟩
 refine zav (l':=[~~~1,some (mD A g),‹way›,‹spot›,‹A›,some (.tup (g.map roD)),‹r›,‹a›,none,none,none,none]) (S':=S) ?_ ?_
 ·have q1:(0:Int)<((g.map roD).length:Int)/\((g.map roD).length:Int)<1073741824:=by rw [qlm];omega
  have q3:(0:Int)<(A:Int):=by omega
  have q2:(spot:Int) / ((g.map roD).length:Int) % (A:Int)=(a:Int):=by rw [qlm,<-ea];rfl
  simp! only [q1,q2,q3,decide_true,true_and,and_self]
  all_goals first|trivial|exact ⟨nofun,nofun⟩
 obtain ⟨cs,hcs,hca,hcm,_⟩:=zh5 ok hr ha
 obtain ⟨x1,e1,e2⟩:=zjo ok hr ha
 obtain ⟨o1,o2⟩:∃o:Cl,cell g r a=o:=⟨_,rfl⟩
 obtain ⟨q1,q2⟩:=o1
 rw [o2] at e2 hca
 obtain ⟨k1,k2⟩:=ok.ck cs hcm _ (qmg hca)
 refine zav (l':=[~~~1,some (mD A g),‹way›,‹spot›,‹A›,some (.tup (g.map roD)),‹r›,‹a›,some (oD q1),some (oD q2),none,none]) (S':=S) ?_ ?_
 ·simp! only [e1,e2,true_and]
  all_goals first|trivial|exact ⟨nofun,nofun⟩|exact ⟨nofun,nofun,nofun⟩
 by_cases hw4:way<4
 ·have hw4':(way:Int)<4:=by omega
  refine zcm (λ_ _=>False) (MaP ns c S) ?_ (λ_ _ z=>z.elim) (λd _ _ o=>o)
  rw [zdw]
  simp only [zci,zb7,zao,zcb,qg0,qg1,zbr,zdl,zcl,hw4',decide_true,if_true]
  refine zaz (λl S'=>∃w:Option Nat,(∀z,w=some z->z<8)/\PQ ns (c+1) S'/\Fn S S'/\l=[~~~1,some (mD A g),‹way›,‹spot›,‹A›,some (.tup (g.map roD)),‹r›,‹a›,some (oD q1),some (oD q2),some (kD (q1,w)),none]) ?_ ?_
  ·rw [zbq]
   simp_all! only [zao]
   refine ⟨by omega,(zcz (h.gr ⟨_,rfl⟩) (by omega) (by decide) (by decide)).mono ?_⟩
   rintro x S2 ⟨⟨d,rfl,hd⟩,p,f⟩
   obtain ⟨w,hx,hx2⟩:=yf1 d hd
   have e:lstOf S2 S.length=some [D.non,.int 0,.int 1,.int 2,.int 7]:=f.lst (by omega) zc9
   simp only [zd6,e,zck,hx,zdm,List.length_cons,List.length_nil,za4,qs0,qs1]
   exact ⟨by omega,nofun,w,hx2,p,(Fn.gr ⟨_,rfl⟩).trans f,rfl⟩
  rintro l S1 ⟨w,hw8,p1,f1,rfl⟩
  refine zaz (λl S'=>∃q:Cl,Ck g.length q/\PQ ns (c+2) S'/\Fn S S'/\l=[~~~1,some (mD A g),‹way›,‹spot›,‹A›,some (.tup (g.map roD)),‹r›,‹a›,some (oD q1),some (oD q2),some (kD q),none]) ?_ ?_
  ·by_cases hw1:1<way
   ·have hw1':(1:Int)<(way:Int):=by omega
    have l1:=p1.lt
    rw [zdw]
    simp only [zci,zb7,zao,zcb,qg0,qg1,zbr,zdl,zcl,hw1',decide_true,if_true]
    rw [zbq,zb8]
    simp only [zb0,zbz,zb7,zb8,zcb,zff,List.length_cons,List.length_nil]
    refine ⟨by omega,?_⟩
    have hl:∀S':Sto,zab (zaf za5 (zab (zaa 5) zae)) zae [~~~1,some (mD A g),‹way›,‹spot›,‹A›,some (.tup (g.map roD)),‹r›,‹a›,some (oD q1),some (oD q2),some (kD (q1,w)),none] S' = some ([.int ((g.map roD).length:Int)],S'):=λ_=>rfl
    have hrg:∀S':Sto,∀z:Nat,z=(g.map roD).length->z<1000->zbx (zab (zaf za5 (zab (zaa 5) zae)) zae) [~~~1,some (mD A g),‹way›,‹spot›,‹A›,some (.tup (g.map roD)),‹r›,‹a›,some (oD q1),some (oD q2),some (kD (q1,w)),none] S' = some ((0,z),S'):=λS' z hz hz2=>by
     have:=hl S'
     rw [<-hz] at this
     rw [zr1 this (by omega),Int.toNat_natCast]
    refine ⟨.ref (S1.length+1),S1++[.lst [D.non]]++[.lst (za3 0 g.length)],?_,?_⟩
    ·unfold zhf
     rw [hrg _ g.length (by rw [qlm]) (by omega)]
     show (if g.length<=sizeLine then _ else _)=_
     rw [if_pos (by omega)]
     simp
    have hA:(S1++[Ob.lst [D.non]]++[.lst (za3 0 g.length)])[S1.length]? = some (.lst [D.non]):=zbj za0
    have hB:(S1++[Ob.lst [D.non]]++[.lst (za3 0 g.length)])[S1.length+1]? = some (.lst (za3 0 g.length)):=by
     have:=@za0 (S1++[Ob.lst [D.non]]) (.lst (za3 0 g.length))
     rw [qla] at this;exact this
    dsimp only
    rw [zgr hA hB]
    refine ⟨by rw [zfi];show 1+g.length<=sizeLine;omega,?_⟩
    simp_all! only [qlm]
    refine (zcz ((p1.gr ((Gr.refl _).push _ |>.push _)).gr ⟨_,rfl⟩) (by omega) (by omega) (by omega)).mono ?_
    rintro x S2 ⟨⟨d,rfl,hd⟩,p,f⟩
    obtain ⟨v,hx,hx2⟩:=yf2 (n:=g.length) (d:=d) (by omega)
    have e:lstOf S2 (S1++[Ob.lst [D.non]]++[Ob.lst (za3 0 g.length)]).length=some (D.non :: za3 0 g.length):=f.lst (by simp) zc9
    simp only [qla,List.length_cons,List.length_nil] at e
    simp only [zd6,qla,List.length_cons,List.length_nil,e,zck,hx,zdm,zb0,zbz,zao,qg0,qg1,zbr,za4,qs0,qs1]
    exact ⟨by omega,nofun,(v,q2),⟨hx2,k2⟩,p,f1.trans ((Fn.gr (((Gr.refl _).push _).push _ |>.push _)).trans f),rfl⟩
   ·have hw1':¬(1:Int)<(way:Int):=by omega
    rw [zdw]
    simp only [zci,zb7,zao,zcb,qg0,qg1,zbr,zdl,zcl,hw1',decide_false,qbf,if_false,zdk]
    exact ⟨nofun,(q1,w),⟨k1,hw8⟩,p1.mono (by omega),f1,rfl⟩
  rintro l S2 ⟨q,hq,p2,f2,rfl⟩
  refine zav (l':=[~~~1,some (mD A g),‹way›,‹spot›,‹A›,some (.tup (g.map roD)),‹r›,‹a›,some (oD q1),some (oD q2),some (kD q),some (roD (cs.set a q))]) (S':=S2) ?_ ?_
  ·rw [zbq]
   refine zsx (xs:=cs.map kD) (y:=kD q) (i:=a) (λQ'=>?_) (λQ'=>?_) rfl (by rw [qlm,ok.len cs hcm];exact ha) (by rw [qlm,ok.len cs hcm];omega) ?_
   ·have e:L2.atI (g.map roD) (r:Int)=some (.tup (cs.map kD)):=atI_get (by rw [qgm,hcs];rfl)
    simp_all! only [e]
   ·simp_all! only [zao]
   ·rw [za4,<-List.map_set]
    exact ⟨nofun,nofun,nofun⟩
  rw [zey,zb8]
  simp only [zb0,zbz,zao,qg0,qg1,zbr]
  refine zsx (xs:=g.map roD) (y:=roD (cs.set a q)) (i:=r) (λQ'=>?_) (λQ'=>?_) rfl (by rw [qlm];exact hr) (by rw [qlm];omega) ?_
  ·simp_all! only [zao]
  ·simp_all! only [zao]
  ·simp only [zdm,List.length_cons,List.length_nil]
   refine ⟨by omega,.inr ⟨_,rfl,⟨A,put g r cs a q,by unfold mD put;rw [List.map_set],yfp ok hcs hq,p2.mono (by omega),f2⟩⟩⟩
 have hw4':¬(way:Int)<4:=by omega
 refine zav (l':=[~~~1,some (mD A g),‹way›,‹spot›,‹A›,some (.tup (g.map roD)),‹r›,‹a›,some (oD q1),some (oD q2),none,none]) (S':=S) (by simp! only [hw4',decide_false,qbf,if_false];first|trivial|exact ⟨nofun,nofun,nofun⟩) ?_
 by_cases hw5:way=4
 ·subst hw5
  refine zcm (λ_ _=>False) (MaP ns c S) ?_ (λ_ _ z=>z.elim) (λd _ _ o=>o)
  rw [zdw]
  have e23:zby (g.map roD) none (some 23)=(g.take 23).map roD:=by rw [show (23:Int)=((23:Nat):Int) from rfl,zm1,List.map_take]
  have t31:(0:Int)<=(A:Int)/\(A:Int)<2 ^ 31/\(0+1)*A<=sizeLine:=by omega
  have t2:2<=sizeLine/\1<=sizeLine:=by omega
  simp_all! only [Int.reduceLT,Int.cast_ofNat_Int,decide_true,if_true,zey,yf3,Int.toNat_natCast,List.length_nil,t31,t2,e23,true_and,and_self,qlm,List.length_take,List.flatten_replicate_singleton]
  refine ⟨by omega,.inr ⟨_,rfl,⟨A,g.take 23++[List.replicate A (some 0,some 1)],?_,zjp (many:=min 23 g.length+1) a1 a4 (λds hd=>?_) (by simp) (by omega) (by omega),h.mono (by omega),Fn.refl S⟩⟩⟩
  ·unfold mD
   rw [List.map_append,List.map_cons,List.map_nil]
   unfold roD
   rw [List.map_replicate];rfl
  ·rcases List.mem_append.mp hd with z|z
   ·have hm:=List.mem_of_mem_take z
    exact ⟨ok.len ds hm,λq hq=>⟨λx hx=>by have:=(ok.ck ds hm q hq).1 x hx;omega,(ok.ck ds hm q hq).2⟩⟩
   ·have:ds=List.replicate A (some 0,some 1):=by simpa using z
    subst this
    refine ⟨by simp,λq hq=>?_⟩
    rw [List.eq_of_mem_replicate hq]
    exact ⟨λx hx=>by cases hx;omega,λx hx=>by cases hx;decide⟩
 have hw5':¬(way:Int)=4:=by omega
 refine zav (l':=[~~~1,some (mD A g),‹way›,‹spot›,‹A›,some (.tup (g.map roD)),‹r›,‹a›,some (oD q1),some (oD q2),none,none]) (S':=S) (by simp! only [hw5',decide_false,qbf,if_false];first|trivial|exact ⟨nofun,nofun,nofun⟩) ?_
 by_cases hw6:way=5
 ·subst hw6
  refine zcm (λ_ _=>False) (MaP ns c S) ?_ (λ_ _ z=>z.elim) (λd _ _ o=>o)
  rw [zdw]
  have m4:(A:Int) % 4+1=((A % 4+1:Nat):Int):=by omega
  have p4:(0:Int)<4:=by decide
  simp only [zci,zb7,zao,zcb,qg0,qg1,zbr,zgc,zcl,Int.cast_ofNat_Int,decide_true,if_true,zey,zb8,zb0,zbz,zf7,p4,true_and,zeg,m4]
  refine zjh (g.map roD) (zne (A % 4+1)) (λS'=>S' = S) (λl=>∃x0,l=[x0,‹A›]) (yek rfl) rfl ⟨_,rfl⟩ (λ_ _ _=>rfl) (by rw [qlm];omega) ?_ ?_
  ·rintro x l S' hx ⟨x0,rfl⟩ rfl
   obtain ⟨cs,hcs,rfl⟩:=List.mem_map.mp hx
   have hl:=ok.len cs hcs
   rw [za4]
   refine ⟨rfl,⟨_,rfl⟩,?_⟩
   have e1:∀xs:List D,zby xs none (some 1)=xs.take 1:=λxs=>by rw [show (1:Int)=((1:Nat):Int) from rfl,zm1]
   have t1:cs.length+min 1 cs.length<=sizeLine:=by omega
   simp_all! only [roD,e1,p4,m4,zm1,qlm,List.length_take,t1,decide_true,true_and,and_self]
   first|exact ⟨rfl,rfl⟩|exact ⟨rfl,trivial⟩|rfl
  ·rintro S' rfl
   have e:(g.map roD).map (zne (A % 4+1))=(g.map (zk4 (A % 4+1))).map roD:=by
    rw [List.map_map,List.map_map];exact List.map_congr_left λcs _=>yf4 _ cs
   rw [e]
   simp only [zfg,zc9,zck,zdm,List.length_cons,List.length_nil]
   refine ⟨by omega,.inr ⟨_,rfl,⟨A % 4+1,g.map (zk4 (A % 4+1)),rfl,zjp (many:=g.length) (by omega) (by omega) (λds hd=>?_) (by simp) (by omega) (by omega),(h.gr ⟨_,rfl⟩).mono (by omega),Fn.gr ⟨_,rfl⟩⟩⟩⟩
   obtain ⟨cs,hcs,rfl⟩:=List.mem_map.mp hd
   have hl:=ok.len cs hcs
   refine ⟨by unfold zk4;rw [List.length_take,qla,List.length_take];omega,λq hq=>?_⟩
   have:=List.mem_of_mem_take hq
   rcases List.mem_append.mp this with z|z
   ·exact ok.ck cs hcs q z
   ·exact ok.ck cs hcs q (List.mem_of_mem_take z)
 have hw6':¬(way:Int)=5:=by omega
 refine zav (l':=[~~~1,some (mD A g),‹way›,‹spot›,‹A›,some (.tup (g.map roD)),‹r›,‹a›,some (oD q1),some (oD q2),none,none]) (S':=S) (by simp! only [hw6',decide_false,qbf,if_false];first|trivial|exact ⟨nofun,nofun,nofun⟩) ?_
 have hw7:way=6\/way=7:=by omega
 rcases hw7 with rfl|rfl
 ·simp! only [zao]
  refine ⟨by omega,.int 24,rfl,?_⟩
  refine (znb (most:=24) (h.gr ⟨_,rfl⟩) (by omega) (by decide) (by decide)).mono ?_
  rintro v S' ⟨A,g,e,ok,p,f⟩
  exact ⟨A,g,e,ok,p,(Fn.gr ⟨_,rfl⟩).trans f⟩
 ·simp! only [zao]
  refine ⟨by omega,.int 5,rfl,?_⟩
  refine (znb (most:=5) (h.gr ⟨_,rfl⟩) (by omega) (by decide) (by decide)).mono ?_
  rintro v S' ⟨A,g,e,ok,p,f⟩
  exact ⟨A,g,e,ok,p,(Fn.gr ⟨_,rfl⟩).trans f⟩
noncomputable def wk (g:List (List Cl)):Nat->List Nat->Option Nat
 | r,[]=>some r
 | r,a :: w=>(cell g r a).1.bind λx=>wk g x w
theorem znf (g:List (List Cl)):∀(w:List Nat) (r a:Nat),wk g r (w++[a])=(wk g r w).bind λx=>(cell g x a).1
 | [],r,a=>by show (cell g r a).1.bind (λx=>some x)=(cell g r a).1;cases (cell g r a).1 <;> rfl
 | b :: w,r,a=>by
  show (cell g r b).1.bind (λx=>wk g x (w++[a]))=((cell g r b).1.bind λx=>wk g x w).bind _
  cases (cell g r b).1 with
  | none=>rfl
  | some x=>exact znf g w x a
theorem zng {A:Nat}{g:List (List Cl)}(ok:OkM A g):∀(w:List Nat) (r x:Nat),r<g.length->(∀a∈w,a<A)->wk g r w=some x->x<g.length
 | [],r,x,hr,_,e=>by cases e;exact hr
 | a :: w,r,x,hr,ha,e=>by
  obtain ⟨y,h1,h2⟩:=bnd (show (cell g r a).1.bind (λx=>wk g x w)=some x from e)
  exact zng ok w y x (zh6 ok hr (ha a List.mem_cons_self) h1) (λb hb=>ha b (List.mem_cons_of_mem _ hb)) h2
def All (A:Nat) (g:List (List Cl)):Prop:=∀r,r<g.length->∃w,(∀a∈w,a<A)/\wk g 0 w=some r
abbrev En:=Nat × List Nat
structure Bq (A:Nat) (g:List (List Cl)) (es:List En) (i c:Nat):Prop where
 z:es[0]? = some (0,[])
 nd:(es.map (·.1)).Nodup
 wk:∀e∈es,wk g 0 e.2=some e.1/\∀a∈e.2,a<A
 inn:∀e∈es,e.1<g.length
 ln:∀(k:Nat) e,es[k]? = some e->e.2.length<=k
 cl:∀(k:Nat) e a x,((k<i/\a<A)\/(k=i/\a<c))->es[k]? = some e->(cell g e.1 a).1=some x->x∈es.map (·.1)
section
variable {A i c:Nat}{g:List (List Cl)}{es:List En}
theorem Bq.start (ok:OkM A g):Bq A g [(0,[])] 0 0:=by
 refine ⟨rfl,by simp,λe he=>?_,λe he=>?_,λk e he=>?_,λk e a x h=>?_⟩
 ·have:e=(0,[]):=by simpa using he
  subst this
  exact ⟨rfl,λa ha=>by cases ha⟩
 ·have:e=(0,[]):=by simpa using he
  subst this;exact ok.r1
 ·cases k with
  | zero=>have:e=(0,[]):=by simpa using he.symm
          subst this;exact qlr _
  | succ k=>simp at he
 ·rcases h with h|h <;> omega
theorem Bq.few (b:Bq A g es i c):es.length<=g.length:=by
 have:=BF.few (n:=g.length) (es.map (·.1)) b.nd λx hx=>by
  obtain ⟨e,he,rfl⟩:=List.mem_map.mp hx
  exact b.inn e he
 rw [qlm] at this;exact this
theorem Bq.push {e:En}{x:Nat}(b:Bq A g es i c) (ok:OkM A g) (hc:c<A) (he:es[i]? = some e) (hx:(cell g e.1 c).1=some x) (hn:x ∉ es.map (·.1)):Bq A g (es++[(x,e.2++[c])]) i (c+1):=by
 have hem:=qmg he
 have hi:=(qme he).1
 have mem:∀q∈es++[(x,e.2++[c])],q∈es\/q=(x,e.2++[c]):=λq hq=>by
  rcases List.mem_append.mp hq with z|z
  ·exact .inl z
  ·exact .inr (by simpa using z)
 refine ⟨BF.get_left b.z,?_,λq hq=>?_,λq hq=>?_,λk q hq=>?_,λk q a y h hq hy=>?_⟩
 ·rw [List.map_append,List.nodup_append]
  refine ⟨b.nd,by simp,λy hy z hz=>?_⟩
  have:z=x:=by simpa using hz
  subst this
  exact λw=>hn (w ▸ hy)
 ·rcases mem q hq with z|rfl
  ·exact b.wk q z
  ·refine ⟨by rw [znf,(b.wk e hem).1];exact hx,λa ha=>?_⟩
   rcases List.mem_append.mp ha with z|z
   ·exact (b.wk e hem).2 a z
   ·have:a=c:=by simpa using z
    subst this;exact hc
 ·rcases mem q hq with z|rfl
  ·exact b.inn q z
  ·exact zh6 ok (b.inn e hem) hc hx
 ·rcases BF.get_snoc hq with z|⟨rfl,rfl⟩
  ·exact b.ln k q z
  ·have:=b.ln i e he
   simp;omega
 ·rw [List.map_append]
  rcases BF.get_snoc hq with z|⟨rfl,rfl⟩
  ·by_cases hk:k=i/\a=c
   ·obtain ⟨rfl,rfl⟩:=hk
    rw [he] at z;cases z
    rw [hx] at hy;cases hy
    exact List.mem_append_right _ (by simp)
   ·exact List.mem_append_left _ (b.cl k q a y (by omega) z hy)
  ·omega
theorem Bq.skip {e:En}(b:Bq A g es i c) (he:es[i]? = some e) (hx:∀x,(cell g e.1 c).1=some x->x∈es.map (·.1)):Bq A g es i (c+1):=by
 refine ⟨b.z,b.nd,b.wk,b.inn,b.ln,λk q a y h hq hy=>?_⟩
 by_cases hk:k=i/\a=c
 ·obtain ⟨rfl,rfl⟩:=hk
  rw [he] at hq;cases hq
  exact hx y hy
 ·exact b.cl k q a y (by omega) hq hy
theorem Bq.next (b:Bq A g es i A):Bq A g es (i+1) 0 :=
 ⟨b.z,b.nd,b.wk,b.inn,b.ln,λk q a y h hq hy=>b.cl k q a y (by omega) hq hy⟩
theorem Bq.to (b:Bq A g es es.length 0):∀(w:List Nat) (r x:Nat),r∈es.map (·.1)->(∀a∈w,a<A)->M.wk g r w=some x->x∈es.map (·.1)
 | [],r,x,hr,_,e=>by cases e;exact hr
 | a :: w,r,x,hr,ha,e=>by
  obtain ⟨y,h1,h2⟩:=bnd (show (cell g r a).1.bind (λx=>M.wk g x w)=some x from e)
  obtain ⟨q,hq,rfl⟩:=List.mem_map.mp hr
  obtain ⟨k,hk,e2⟩:=List.mem_iff_getElem.mp hq
  exact Bq.to b w y x (b.cl k q a y (.inl ⟨hk,ha a List.mem_cons_self⟩) (by rw [qge hk,e2]) h1) (λb hb=>ha b (List.mem_cons_of_mem _ hb)) h2
theorem Bq.all (b:Bq A g es es.length 0):es.length<g.length↔¬All A g:=by
 constructor
 ·intro h ha
  have:(es.map (·.1)).Perm (List.range g.length):=(List.perm_ext_iff_of_nodup b.nd List.nodup_range).mpr λr=>by
   rw [List.mem_range]
   constructor
   ·intro hr
    obtain ⟨e,he,rfl⟩:=List.mem_map.mp hr
    exact b.inn e he
   ·intro hr
    obtain ⟨w,h1,h2⟩:=ha r hr
    exact b.to w 0 r (List.mem_map.mpr ⟨_,qmg b.z,rfl⟩) h1 h2
  have:=this.length_eq
  rw [qlm,List.length_range] at this
  omega
 ·intro h
  rcases Nat.lt_or_ge es.length g.length with z|z
  ·exact z
  ·refine absurd (λr hr=>?_) h
   have:r∈es.map (·.1):=by
    refine Classical.byContradiction λhn=>?_
    have:=BF.few (n:=g.length) (r :: es.map (·.1)) (List.nodup_cons.mpr ⟨hn,b.nd⟩) λx hx=>by
     rcases List.mem_cons.mp hx with rfl|hx
     ·exact hr
     ·obtain ⟨e,he,rfl⟩:=List.mem_map.mp hx
      exact b.inn e he
    rw [List.length_cons,qlm] at this
    omega
   obtain ⟨e,he,rfl⟩:=List.mem_map.mp this
   exact ⟨e.2,(b.wk e he).2,(b.wk e he).1⟩
end
noncomputable def enD (e:En):D:=.tup [.int (e.1:Int),.tup (e.2.map nD)]
section
variable {l:Lo}{S:Sto}{e:EM}{r:AM}{Q:D->Sto->Prop}{n k:Nat}{i:Int}{f:Int->Bool}
theorem yf6 (h:ze0 S (.ref n)=some (f,k)):Wo (dIn true (.int i) (.ref n) S) Q=Q (.bl (!f i)) S:=by
 have:dIn true (.int i) (.ref n) S=some (.bl (!f i),S):=by
  unfold dIn zi3;dsimp only;rw [h];rfl
 rw [this];exact za9
theorem yf7 (h:S[n]? = some (.iset f k)):Wo (zhc (.ref n) [.int i] S) Q=(k+1<scanBound/\Q .non (S.set n (.iset (λj=>f j || decide (j=i)) (if f i then k else k+1)))):=by
 unfold zhc;dsimp only;rw [h];exact zee
theorem zs3 (h:S[n]? = some (.iset f k)):ze0 S (.ref n)=some (f,k):=by unfold ze0;dsimp only;rw [h]
theorem yf8 {g:D->List D->Sto->Option (D × Sto)}:We (zkn g e r) l S Q=We e l S λx S1=>(∃p,ze0 S1 x=some p)/\Wa r l S1 λys S2=>Wo (g x ys S2) Q:=by
 apply propext
 constructor
 ·rintro ⟨v,S',h,q⟩
  obtain ⟨⟨x,S1⟩,h1,h⟩:=bnd h
  obtain ⟨xs,h2,h⟩:=bnd h
  obtain ⟨⟨y,S2⟩,h3,h⟩:=bnd h
  exact ⟨x,S1,h1,⟨xs,h2⟩,y,S2,h3,v,S',h,q⟩
 ·rintro ⟨x,S1,h1,⟨xs,h2⟩,y,S2,h3,v,S',h,q⟩
  refine ⟨v,S',?_,q⟩
  unfold zkn;rw [h1];show (ze0 S1 x).bind _=_;rw [h2];show (r l S1).bind _=_;rw [h3];exact h
theorem yf9:We (zmf i) l S Q=Q (.ref S.length) (S++[.iset (λk=>false || decide (k=i)) 1]):=by
 apply propext
 exact ⟨λhx1_=>by obtain ⟨v,S',h,q⟩:=hx1_;cases h;exact q,λq=>⟨_,_,rfl,q⟩⟩
end
def Ist (f:Int->Bool) (xs:List Nat):Prop:=∀x:Nat,f (x:Int)=decide (x∈xs)
theorem Ist.push {f:Int->Bool}{xs:List Nat}{x:Nat}(h:Ist f xs):Ist (λj=>f j || decide (j=(x:Int))) (xs++[x]):=λy=>by
 show (f (y:Int) || decide ((y:Int)=(x:Int)))=_
 rw [h y]
 by_cases h1:y∈xs <;> by_cases h2:y=x <;> simp [h1,h2] <;> omega
structure Rst (A:Nat) (g:List (List Cl)) (S S1:Sto) (es:List En) (i c:Nat):Prop where
 b:Bq A g es i c
 g:Gr S S1
 s0:S1[S.length]? = some (.lst (es.map enD))
 s1:∃f k,S1[S.length+1]? = some (.iset f k)/\Ist f (es.map (·.1))/\k=es.length
theorem yga {A:Nat}{g:List (List Cl)}{S:Sto}(ok:OkM A g):Wo (ze9 [mD A g] S) λv S'=>Gr S S'/\∃n es,v=.ref n/\S'[n]? = some (.lst (es.map enD))/\Bq A g es es.length 0:=by
 have sz:=zdc
 have sb:100<scanBound:=by unfold scanBound;omega
 have r24:=ok.r24
 have a4:=ok.a4
 unfold ze9 zsg
 dsimp! only [zcj]
 refine zav (l':=[some (mD A g),‹A›,some (.tup (g.map roD)),none,none,none,none,none,none,none]) (S':=S) (by unfold mD;simp! only [zao];first|exact ⟨nofun,nofun,nofun⟩|trivial) ?_
 refine zav (l':=[some (mD A g),‹A›,some (.tup (g.map roD)),some (.ref S.length),none,none,none,none,none,none]) (S':=S++[.lst [.tup [.int 0,.tup []]]]) (by simp! only [zao];exact ⟨by omega,by omega,by omega,nofun,nofun,nofun⟩) ?_
 refine zav (l':=[some (mD A g),‹A›,some (.tup (g.map roD)),some (.ref S.length),~~~(S.length+1),none,none,none,none,none]) (S':=S++[.lst [.tup [.int 0,.tup []]]]++[.iset (λk=>false || decide (k=0)) 1]) (by rw [zbq,yf9];simp only [za4,qs0,qs1,qla];exact ⟨nofun,nofun,nofun⟩) ?_
 refine zav (l':=[some (mD A g),‹A›,some (.tup (g.map roD)),some (.ref S.length),~~~(S.length+1),some (.int ((0:Nat):Int)),none,none,none,none]) (S':=S++[.lst [.tup [.int 0,.tup []]]]++[.iset (λk=>false || decide (k=0)) 1]) (by simp! only [zao];exact ⟨nofun,nofun,nofun⟩) ?_
 have w0:Rst A g S (S++[.lst [.tup [.int 0,.tup []]]]++[.iset (λk=>false || decide (k=0)) 1]) [(0,[])] 0 0:=by
  refine ⟨.start ok,(Gr.refl S).push _ |>.push _,zbj za0,λk=>false || decide (k=0),1,?_,λx=>?_,rfl⟩
  ·have:=@za0 (S++[.lst [.tup [.int 0,.tup []]]]) (.iset (λk=>false || decide (k=0)) 1)
   rw [qla] at this;exact this
  ·show (false || decide ((x:Int)=0))=_
   by_cases hx:x=0 <;> simp [hx]
 refine zaz (λl S1=>∃es x6 x7 x8 x9,∃ii:Nat,ii=es.length/\Rst A g S S1 es ii 0/\l=[some (mD A g),‹A›,some (.tup (g.map roD)),some (.ref S.length),~~~(S.length+1),‹ii›,x6,x7,x8,x9]) ?_ ?_
 ·refine zm5 (λm l S1=>∃es x6 x7 x8 x9,∃ii:Nat,ii<=es.length/\m+ii=30/\Rst A g S S1 es ii 0/\l=[some (mD A g),‹A›,some (.tup (g.map roD)),some (.ref S.length),~~~(S.length+1),‹ii›,x6,x7,x8,x9]) (λ_ _=>False) (λl S1=>∃es x6 x7 x8 x9,∃ii:Nat,ii=es.length/\Rst A g S S1 es ii 0/\l=[some (mD A g),‹A›,some (.tup (g.map roD)),some (.ref S.length),~~~(S.length+1),‹ii›,x6,x7,x8,x9]) 30 (by decide) ⟨_,_,_,_,_,0,Nat.zero_le _,rfl,w0,rfl⟩ ?_ (λl' S' q=>⟨rfl,q⟩) (λd l' S' q=>q.elim)
  rintro m l S1 ⟨es,x6,x7,x8,x9,ii,hii,hm,w,rfl⟩
  have hfew:=w.b.few
  simp_all! only [zhz w.s0,qlm]
  split
  ·rename_i hlt
   have hlt:ii<es.length:=by omega
   obtain ⟨e,he⟩:∃e,es[ii]? = some e:=⟨_,qge hlt⟩
   have hei:=w.b.inn e (qmg he)
   have e1:L2.atI (es.map enD) (ii:Int)=some (.tup [.int (e.1:Int),.tup (e.2.map nD)]):=atI_get (by rw [qgm,he];rfl)
   refine zav (l':=[some (mD A g),‹A›,some (.tup (g.map roD)),some (.ref S.length),~~~(S.length+1),‹ii›,some (.int (e.1:Int)),some (.tup (e.2.map nD)),x8,x9]) (S':=S1) ?_ ?_
   ·simp! only [zhz w.s0,e1,true_and]
    all_goals first|trivial|exact ⟨nofun,nofun⟩
   refine zav (l':=[some (mD A g),‹A›,some (.tup (g.map roD)),some (.ref S.length),~~~(S.length+1),some (.int ((ii+1:Nat):Int)),some (.int (e.1:Int)),some (.tup (e.2.map nD)),x8,x9]) (S':=S1) ?_ ?_
   ·simp! only [true_and]
    all_goals first|trivial|exact ⟨nofun,nofun⟩
   refine zjj (n:=A) (λc l S5=>∃es x8 x9,es[ii]? = some e/\Rst A g S S5 es ii c/\l=[some (mD A g),‹A›,some (.tup (g.map roD)),some (.ref S.length),~~~(S.length+1),some (.int ((ii+1:Nat):Int)),some (.int (e.1:Int)),some (.tup (e.2.map nD)),x8,x9]) (λ_ _=>False) rfl (by omega) ⟨es,_,_,he,w,rfl⟩ ?_ ?_ (λd l' S' q=>q.elim)
   ·rintro c l S5 hc ⟨es,y8,y9,he,w,rfl⟩
    have hfew:=w.b.few
    have hln:=w.b.ln ii e he
    have hil:=(qme he).1
    obtain ⟨cs,c1,c2⟩:=zjo ok hei hc
    obtain ⟨f,k,hf,hs,hk⟩:=w.s1
    simp only [za4,qs0,qs1]
    refine zav (l':=[some (mD A g),‹A›,some (.tup (g.map roD)),some (.ref S.length),~~~(S.length+1),some (.int ((ii+1:Nat):Int)),some (.int (e.1:Int)),some (.tup (e.2.map nD)),‹c›,some (oD (cell g e.1 c).1)]) (S':=S5) ?_ ?_
    ·simp! only [c1,c2,true_and]
     all_goals first|trivial|exact ⟨nofun,nofun⟩
    refine zeh (λb S6=>S6=S5/\(b=true->∃x,(cell g e.1 c).1=some x/\x ∉ es.map (·.1))/\(b=false->∀x,(cell g e.1 c).1=some x->x∈es.map (·.1))) ?_ ?_ ?_
    ·cases hx:(cell g e.1 c).1 with
     | none =>
      simp_all! only [oD,zb4,Bool.not_true,qbf,if_false]
      exact ⟨nofun,λz=>z.elim,λ_ x hx=>by cases hx⟩
     | some x =>
      simp_all! only [oD,zb4,Bool.not_false,if_true,yf6 (zs3 hf),hs x]
      exact ⟨nofun,λz=>by simpa using z,λz y hy=>by cases hy;simpa using z⟩
    ·rintro S6 ⟨rfl,hb,_⟩
     obtain ⟨x,hx,hn⟩:=hb rfl
     rw [hx]
     refine zav (l':=[some (mD A g),‹A›,some (.tup (g.map roD)),some (.ref S.length),~~~(S.length+1),some (.int ((ii+1:Nat):Int)),some (.int (e.1:Int)),some (.tup (e.2.map nD)),‹c›,‹x›]) (S':=S6.set (S.length+1) (.iset (λj=>f j || decide (j=(x:Int))) (if f (x:Int) then k else k+1))) ?_ ?_
     ·rw [zcv,yf8]
      simp_all! only [zs3 hf,oD,zdb,true_and]
      rw [yf7 hf]
      first|exact ⟨by omega,nofun,nofun,nofun⟩|exact ⟨by omega,nofun,nofun⟩|exact ⟨by omega,nofun⟩
     have g0:(S6.set (S.length+1) (.iset (λj=>f j || decide (j=(x:Int))) (if f (x:Int) then k else k+1)))[S.length]? = some (.lst (es.map enD)):=zbs w.s0 (by omega)
     rw [zcv,zch]
     simp_all! only [zcy g0,zdb,true_and,qlm]
     refine ⟨by omega,by omega,by omega,?_⟩
     rw [ze8 g0 (by rw [qlm];omega)]
     refine .inl ⟨(by first|exact .inl rfl|exact .inl trivial|trivial),es++[(x,e.2++[c])],_,_,BF.get_left he,⟨w.b.push ok hc he hx hn,(w.g.set (by omega) _).set (by omega) _,?_,_,_,zbs (zcr hf) (by omega),?_,?_⟩,rfl⟩
     ·rw [List.map_append]
      have:enD (x,e.2++[c])=.tup [.int (x:Int),.tup (e.2.map nD++[.int (c:Int)])]:=by unfold enD;rw [List.map_append];rfl
      rw [List.map_cons,List.map_nil,this]
      exact zcr g0
     ·rw [List.map_append];exact hs.push
     ·have:f (x:Int)=false:=by rw [hs x];simp [hn]
      rw [this,qla]
      simp;omega
    ·rintro S6 ⟨rfl,_,hb⟩
     rw [zdk]
     exact .inl ⟨(by first|exact .inl rfl|exact .inl trivial|trivial),es,_,_,he,⟨w.b.skip he (hb rfl),w.g,w.s0,f,k,hf,hs,hk⟩,rfl⟩
   ·rintro l' S' ⟨es,y8,y9,he,w,rfl⟩
    have hil:=(qme he).1
    have hfew:=w.b.few
    exact .inl ⟨(by first|exact .inl rfl|exact .inl trivial|trivial),m-1,by omega,es,_,_,_,_,ii+1,by omega,by omega,⟨w.b.next,w.g,w.s0,w.s1⟩,rfl⟩
  ·rename_i hge
   exact ⟨es,_,_,_,_,ii,by omega,w,rfl⟩
 rintro l S1 ⟨es,x6,x7,x8,x9,ii,rfl,w,rfl⟩
 simp! only [zao]
 exact ⟨w.g,_,es,nofun,w.s0,w.b⟩
noncomputable def kvE (e:En):L2.Key × D:=(Sum.inl (e.1:Int),.tup (e.2.map nD))
theorem znh {es:List En}(nd:(es.map (·.1)).Nodup) {e:En}(he:e∈es):zcw (es.map kvE) (Sum.inl (e.1:Int))=some (.tup (e.2.map nD)):=by
 unfold zcw
 induction es with
 | nil=>cases he
 | cons q es ih =>
  rw [List.map_cons,List.find?_cons]
  rw [List.map_cons,List.nodup_cons] at nd
  by_cases hq:q=e
  ·subst hq
   have:decide ((kvE q).1=(Sum.inl (q.1:Int):L2.Key))=true:=decide_eq_true rfl
   rw [this];rfl
  ·have hm:e∈es:=by
    rcases List.mem_cons.mp he with z|z
    ·exact absurd z.symm hq
    ·exact z
   have:decide ((kvE q).1=(Sum.inl (e.1:Int):L2.Key))=false:=by
    apply decide_eq_false
    intro z
    have z:(Sum.inl (q.1:Int):L2.Key)=Sum.inl (e.1:Int):=z
    have z2:(q.1:Int)=(e.1:Int):=Sum.inl.inj z
    have z3:q.1=e.1:=by omega
    exact nd.1 (z3 ▸ List.mem_map.mpr ⟨e,hm,rfl⟩)
   rw [this]
   exact ih nd.2 hm
theorem ygb {es:List En}{x:Nat}(h:x ∉ es.map (·.1)):zcw (es.map kvE) (Sum.inl (x:Int))=none:=by
 unfold zcw
 rw [Option.map_eq_none_iff,List.find?_eq_none]
 intro kv hkv
 obtain ⟨e,he,rfl⟩:=List.mem_map.mp hkv
 intro z
 have z:(Sum.inl (e.1:Int):L2.Key)=Sum.inl (x:Int):=of_decide_eq_true z
 have z2:(e.1:Int)=(x:Int):=Sum.inl.inj z
 exact h (List.mem_map.mpr ⟨e,he,by omega⟩)
theorem kv_put {es:List En}{x:Nat}{w:List Nat}(h:x ∉ es.map (·.1)):zfk (es.map kvE) (Sum.inl (x:Int)) (.tup (w.map nD))=(es++[(x,w)]).map kvE:=by
 unfold zfk
 have:((es.map kvE).any λkv=>decide (kv.1=(Sum.inl (x:Int):L2.Key)))=false:=by
  rw [List.any_eq_false]
  intro kv hkv
  obtain ⟨e,he,rfl⟩:=List.mem_map.mp hkv
  intro z
  have z:(Sum.inl (e.1:Int):L2.Key)=Sum.inl (x:Int):=of_decide_eq_true z
  have z2:(e.1:Int)=(x:Int):=Sum.inl.inj z
  exact h (List.mem_map.mpr ⟨e,he,by omega⟩)
 rw [this,if_neg Bool.false_ne_true,List.map_append];rfl
theorem zni {S:Sto}{n:Nat}{kvs:List (L2.Key × D)}{i:Int}(h:S[n]? = some (.dct kvs)):dRd S (.ref n) (.int i)=some (zcw kvs (Sum.inl i)):=by
 unfold dRd;dsimp only;rw [h];rfl
theorem ygc {S:Sto}{n:Nat}{kvs:List (L2.Key × D)}{i:Int}{v:D}(h:S[n]? = some (.dct kvs)) (hz:kvs.length<sizeLine):zfm (.ref n) (.int i) v S=some (S.set n (.dct (zfk kvs (Sum.inl i) v))):=by
 unfold zfm;dsimp only;rw [h];show (if _ then _ else _)=_;rw [if_pos hz]
theorem ygd {i:Int}{m:EM}{l:Lo}{S:Sto}{Q:D->Sto->Prop}:We (zkz i m) l S Q=We m l S λx S1=>Q (.ref S1.length) (S1++[.dct [(Sum.inl i,x)]]):=by
 apply propext
 constructor
 ·rintro ⟨v,S',h,q⟩
  obtain ⟨⟨x,S1⟩,h1,h⟩:=bnd h
  cases h
  exact ⟨x,S1,h1,q⟩
 ·rintro ⟨x,S1,h1,q⟩
  exact ⟨_,_,by unfold zkz;rw [h1];rfl,q⟩
structure Yst (A:Nat) (g:List (List Cl)) (S S1:Sto) (es:List En) (i c m:Nat):Prop where
 b:Bq A g es i c
 g:Gr S S1
 s0:S1[S.length]? = some (.dct (es.map kvE))
 s1:S1[S.length+1]? = some (.lst ((es.drop m).map λe=>nD e.1))
theorem zs4 {A:Nat}{g:List (List Cl)}{S:Sto}(ok:OkM A g):Wo (zh3 [.tup (g.map roD)] S) λv S'=>Gr S S'/\∃n es,v=.ref n/\S'[n]? = some (.dct (es.map kvE))/\Bq A g es es.length 0:=by
 have sz:=zdc
 have r24:=ok.r24
 have a4:=ok.a4
 unfold zh3 zsj
 dsimp! only [zcj]
 refine zav (l':=[some (.tup (g.map roD)),some (.ref S.length),none,none,none,none]) (S':=S++[.dct [(Sum.inl 0,.tup [])]]) (by rw [zbq,ygd];simp_all! only [zao];exact ⟨by omega,nofun,nofun,nofun⟩) ?_
 refine zav (l':=[some (.tup (g.map roD)),some (.ref S.length),~~~(S.length+1),none,none,none]) (S':=S++[.dct [(Sum.inl 0,.tup [])]]++[.lst [.int 0]]) (by simp! only [qla];exact ⟨by omega,nofun,nofun,nofun⟩) ?_
 have w0:Yst A g S (S++[.dct [(Sum.inl 0,.tup [])]]++[.lst [.int 0]]) [(0,[])] 0 0 0:=by
  refine ⟨.start ok,(Gr.refl S).push _ |>.push _,zbj za0,?_⟩
  have:=@za0 (S++[.dct [(Sum.inl 0,.tup [])]]) (.lst [.int 0])
  rw [qla] at this;exact this
 refine zaz (λl S1=>∃es x3 x4 x5,Yst A g S S1 es es.length 0 es.length/\l=[some (.tup (g.map roD)),some (.ref S.length),~~~(S.length+1),x3,x4,x5]) ?_ ?_
 ·refine zm5 (λm l S1=>∃es x3 x4 x5,∃ii:Nat,ii<=es.length/\m+ii=30/\Yst A g S S1 es ii 0 ii/\l=[some (.tup (g.map roD)),some (.ref S.length),~~~(S.length+1),x3,x4,x5]) (λ_ _=>False) (λl S1=>∃es x3 x4 x5,Yst A g S S1 es es.length 0 es.length/\l=[some (.tup (g.map roD)),some (.ref S.length),~~~(S.length+1),x3,x4,x5]) 30 (by decide) ⟨_,_,_,_,0,Nat.zero_le _,rfl,w0,rfl⟩ ?_ (λl' S' q=>⟨rfl,q⟩) (λd l' S' q=>q.elim)
  rintro m l S1 ⟨es,x3,x4,x5,ii,hii,hm,w,rfl⟩
  have hfew:=w.b.few
  simp_all! only [zao]
  refine ⟨Nat.zero_le _,?_⟩
  rw [yei (zbj w.s1) za0]
  refine ⟨_,rfl,?_⟩
  by_cases hlt:ii<es.length
  ·obtain ⟨e,he⟩:∃e,es[ii]? = some e:=⟨_,qge hlt⟩
   have hei:=w.b.inn e (qmg he)
   have hd:es.drop ii=e :: es.drop (ii+1):=by
    rw [List.drop_eq_getElem_cons hlt]
    rw [qge hlt] at he;cases he;rfl
   rw [hd,List.map_cons]
   rw [if_pos (by rfl)]
   have w1:Yst A g S (S1++[.lst []]) es ii 0 ii:=⟨w.b,w.g.push _,zbj w.s0,zbj w.s1⟩
   generalize S1++[Ob.lst []]=S2 at w1
   have w:=w1
   refine zav (l':=[some (.tup (g.map roD)),some (.ref S.length),~~~(S.length+1),some (.int (e.1:Int)),x4,x5]) (S':=S2.set (S.length+1) (.lst ((es.drop (ii+1)).map λe=>nD e.1))) ?_ ?_
   ·rw [zbq,zch]
    have h2:=w.s1
    rw [hd,List.map_cons] at h2
    simp_all! only [zcy h2,zdb,true_and]
    obtain ⟨y,hy,hq⟩:=zm9 (i:=(0:Int)) h2 (by omega) (by rw [List.length_cons];omega) (by rw [List.length_cons,qlm,List.length_drop];omega)
    have:y=nD e.1:=by simpa using hy.symm
    subst this
    rw [hq]
    exact ⟨nofun,nofun⟩
   have w2:Yst A g S (S2.set (S.length+1) (.lst ((es.drop (ii+1)).map λe=>nD e.1))) es ii 0 (ii+1):=⟨w.b,w.g.set (by omega) _,zbs w.s0 (by omega),zcr w.s1⟩
   generalize S2.set (S.length+1) (.lst ((es.drop (ii+1)).map λe=>nD e.1))=S3 at w2
   obtain ⟨cs,hcs⟩:∃cs,g[e.1]? = some cs:=⟨_,qge hei⟩
   have hcl:=ok.len cs (qmg hcs)
   have ha:∀S':Sto,zab (eOp zal (zaa 0) (zaa 3)) zae [some (.tup (g.map roD)),some (.ref S.length),~~~(S.length+1),some (.int (e.1:Int)),x4,x5] S' = some ([.tup (cs.map kD)],S'):=λS'=>by
    have e1:L2.atI (g.map roD) (e.1:Int)=some (.tup (cs.map kD)):=atI_get (by rw [qgm,hcs];rfl)
    obtain ⟨v,S'',e2,rfl,rfl⟩:Wo (zal (.tup (g.map roD)) (.int (e.1:Int)) S') (λv S''=>v=.tup (cs.map kD)/\S'' = S'):=by
     rw [ze6];exact ⟨_,e1,rfl,rfl⟩
    show (zal (.tup (g.map roD)) (.int (e.1:Int)) S'').bind _=_
    rw [e2];rfl
   refine zm2 (enl (cs.map kD)) (λc l S5=>∃es x4 x5,es[ii]? = some e/\Yst A g S S5 es ii c (ii+1)/\l=[some (.tup (g.map roD)),some (.ref S.length),~~~(S.length+1),some (.int (e.1:Int)),x4,x5]) (λ_ _=>False) (zr3 (ha _)) ⟨es,_,_,he,w2,rfl⟩ (λ_ _ _ _=>zr2) ?_ ?_ (λd l' S' q=>q.elim)
   ·rintro c x l S5 hx ⟨es,y4,y5,he,w,rfl⟩
    have hc:c<A:=by have:=(qme hx).1;rw [zji,qlm] at this;omega
    have hfew:=w.b.few
    have hln:=w.b.ln ii e he
    have hil:=(qme he).1
    have hcc:cs[c]? = some (cell g e.1 c):=by
     obtain ⟨cs',h1,h2,_⟩:=zh5 ok hei hc
     rw [hcs] at h1;cases h1;exact h2
    rw [zm0,qgm,hcc] at hx
    have hx:D.tup [.int (c:Int),kD (cell g e.1 c)]=x:=by simpa using hx
    subst hx
    simp only [zc4,zc6,zc5,za4,List.length_cons,List.length_nil,qs0,qs1]
    refine ⟨nofun,?_⟩
    refine zeh (λb S6=>S6=S5/\(b=true->∃x,(cell g e.1 c).1=some x/\x ∉ es.map (·.1))/\(b=false->∀x,(cell g e.1 c).1=some x->x∈es.map (·.1))) ?_ ?_ ?_
    ·cases hx:(cell g e.1 c).1 with
     | none =>
      simp_all! only [kD,hx,oD,zb4,Bool.not_true,qbf,if_false]
      exact ⟨nofun,λz=>z.elim,λ_ x hx=>by cases hx⟩
     | some x =>
      simp_all! only [kD,hx,oD,zb4,Bool.not_false,if_true,yep,zni w.s0]
      by_cases hm:x∈es.map (·.1)
      ·obtain ⟨q,hq,rfl⟩:=List.mem_map.mp hm
       rw [znh w.b.nd hq]
       exact ⟨nofun,λz=>(by cases z),λ_ y hy=>by cases hy;exact hm⟩
      ·rw [ygb hm]
       exact ⟨nofun,λ_=>hm,λz=>(by cases z)⟩
    ·rintro S6 ⟨rfl,hb,_⟩
     obtain ⟨x,hx,hn⟩:=hb rfl
     have hkd:kD (cell g e.1 c)=.tup [.int (x:Int),oD (cell g e.1 c).2]:=by unfold kD;rw [hx];rfl
     rw [hkd]
     refine zav (l':=[some (.tup (g.map roD)),some (.ref S.length),~~~(S.length+1),some (.int (e.1:Int)),‹c›,some (.tup [.int (x:Int),oD (cell g e.1 c).2])]) (S':=S6.set S.length (.dct ((es++[(x,e.2++[c])]).map kvE))) ?_ ?_
     ·have hw:D.tup (e.2.map nD++[.int (c:Int)])=.tup ((e.2++[c]).map nD):=by rw [List.map_append];rfl
      have hp:∀v,zfm (.ref S.length) (.int (x:Int)) v S6=some (S6.set S.length (.dct (zfk (es.map kvE) (Sum.inl (x:Int)) v))):=λv=>ygc w.s0 (by rw [qlm];omega)
      have hz:(e.2.map nD).length+1<=sizeLine:=by rw [qlm];omega
      simp! only [zsb,zni w.s0,znh w.b.nd (qmg he),zck,hz,true_and,hw,hp,kv_put hn]
      first|exact ⟨by omega,nofun,nofun,nofun⟩|exact ⟨by omega,nofun,nofun⟩|exact ⟨by omega,nofun⟩|exact ⟨by omega,_,rfl,by omega,nofun,nofun,nofun⟩
     have g1:(S6.set S.length (.dct ((es++[(x,e.2++[c])]).map kvE)))[S.length+1]? = some (.lst ((es.drop (ii+1)).map λe=>nD e.1)):=zbs w.s1 (by omega)
     rw [zcv,zch]
     simp_all! only [zcy g1,zdb,true_and]
     rw [ze8 g1 (by rw [qlm,List.length_drop];omega)]
     refine .inl ⟨(by first|exact .inl rfl|exact .inl trivial|trivial),es++[(x,e.2++[c])],_,_,BF.get_left he,⟨w.b.push ok hc he hx hn,(w.g.set (qlr _) _).set (by omega) _,zbs (zcr w.s0) (by omega),?_⟩,rfl⟩
     rw [List.drop_append_of_le_length (by omega),List.map_append (l₁:=es.drop (ii+1))]
     exact zcr g1
    ·rintro S6 ⟨rfl,_,hb⟩
     rw [zdk]
     exact .inl ⟨(by first|exact .inl rfl|exact .inl trivial|trivial),es,_,_,he,⟨w.b.skip he (hb rfl),w.g,w.s0,w.s1⟩,rfl⟩
   ·rintro l' S' ⟨es,y4,y5,he,w,rfl⟩
    rw [zji,qlm,hcl] at w
    have hil:=(qme he).1
    have hfew:=w.b.few
    exact .inl ⟨(by first|exact .inl rfl|exact .inl trivial|trivial),m-1,by omega,es,_,_,_,ii+1,by omega,by omega,⟨w.b.next,w.g,w.s0,w.s1⟩,rfl⟩
  ·have hge:ii=es.length:=by omega
   subst hge
   rw [List.drop_length]
   rw [if_neg (by decide)]
   exact ⟨es,_,_,_,⟨w.b,w.g.push _,zbj w.s0,zbj w.s1⟩,rfl⟩
 rintro l S1 ⟨es,x3,x4,x5,w,rfl⟩
 simp! only [zao]
 exact ⟨w.g,_,es,nofun,w.s0,w.b⟩
theorem zs5 (g:List (List Cl)):∀(u v:List Nat) (r:Nat),wk g r (u++v)=(wk g r u).bind λx=>wk g x v
 | [],v,r=>rfl
 | a :: u,v,r=>by
  show (cell g r a).1.bind (λx=>wk g x (u++v))=((cell g r a).1.bind λx=>wk g x u).bind _
  cases (cell g r a).1 with
  | none=>rfl
  | some x=>exact zs5 g u v x
theorem yge {A:Nat}{g:List (List Cl)}{w:List Nat}{S:Sto}(ok:OkM A g) (ha:∀a∈w,a<A):zh2 [.tup (g.map roD),.tup (w.map nD)] S=some (oD (wk g 0 w),S):=by
 have:Wo (zh2 [.tup (g.map roD),.tup (w.map nD)] S) λv S'=>v=oD (wk g 0 w)/\S' = S:=by
  unfold zh2 zsi
  dsimp! only [zcj]
  refine zav (l':=[some (.tup (g.map roD)),some (.tup (w.map nD)),some (.int ((0:Nat):Int)),none]) (S':=S) (by simp! only [zao];exact ⟨nofun,nofun,nofun⟩) ?_
  refine zcm (λl S'=>∃x3,l=[some (.tup (g.map roD)),some (.tup (w.map nD)),some (oD (wk g 0 w)),x3]/\S' = S) (λv S'=>v=oD (wk g 0 w)/\S' = S) ?_ ?_ (λd l1 S1 o=>o)
  ·refine zk2 (w.map nD) (λi l S'=>∃x3,l=[some (.tup (g.map roD)),some (.tup (w.map nD)),some (oD (wk g 0 (w.take i))),x3]/\S' = S) (λv S'=>v=oD (wk g 0 w)/\S' = S) (S1:=S) rfl ⟨none,rfl,rfl⟩ ?_ ?_ (λd l' S' q=>.inr ⟨d,rfl,q⟩)
   ·rintro i x l S1 hx ⟨x3,rfl,rfl⟩
    rw [qgm] at hx
    obtain ⟨a,hwa,rfl⟩:=Option.map_eq_some_iff.mp hx
    have hil:=(qme hwa).1
    have haA:=ha a (qmg hwa)
    have et:w.take (i+1)=w.take i++[a]:=by rw [List.take_add_one,hwa];rfl
    simp only [za4,qs0,qs1]
    cases hk:wk g 0 (w.take i) with
    | none =>
     have hn:wk g 0 w=none:=by
      have:=zs5 g (w.take i) (w.drop i) 0
      rw [List.take_append_drop,hk] at this;exact this
     refine zcm (λ_ _=>False) (λv S'=>v=oD (wk g 0 w)/\S' = S1) ?_ (λ_ _ z=>z.elim) (λd _ _ o=>.inr ⟨d,rfl,o⟩)
     simp! only [oD,zb4,if_true,hn]
     exact .inr ⟨_,rfl,nofun,nofun⟩
    | some r =>
     have hr:=zng ok _ 0 r ok.r1 (λb hb=>ha b (List.mem_of_mem_take hb)) hk
     obtain ⟨cs,c1,c2⟩:=zjo ok hr haA
     refine zav (l':=[some (.tup (g.map roD)),some (.tup (w.map nD)),‹r›,‹a›]) (S':=S1) (by simp! only [oD,zb4,qbf,if_false];first|trivial|exact ⟨nofun,nofun,nofun⟩) ?_
     simp! only [c1,c2]
     refine .inl ⟨(by first|exact .inl rfl|exact .inl trivial|trivial),‹a›,?_,nofun⟩
     rw [et,znf,hk];rfl
   ·rintro l' S' ⟨x3,rfl,rfl⟩
    rw [qlm,List.take_length]
    exact .inl ⟨rfl,x3,rfl,rfl⟩
  ·rintro l S1 ⟨x3,rfl,rfl⟩
   simp! only [zao]
   exact ⟨nofun,nofun⟩
 obtain ⟨v,S',e,rfl,rfl⟩:=this
 exact e
noncomputable def zdd (x y:Option Nat):Option BF.P:=x.bind λi=>y.bind λj=>some (i,j)
noncomputable def unl (c d:Cl):Bool:=decide (c.2≠d.2) || (c.1.isNone != d.1.isNone)
theorem ygf (c d:Cl) (S:Sto):zfs [kD c,kD d] S=some (.bl (unl c d),S):=by
 have:Wo (zfs [kD c,kD d] S) λv S'=>v=.bl (unl c d)/\S' = S:=by
  obtain ⟨c1,c2⟩:=c
  obtain ⟨d1,d2⟩:=d
  cases c2 with
  | none=>cases d2 with
   | none=>cases c1 <;> cases d1 <;> exact ⟨_,_,rfl,rfl,rfl⟩
   | some e=>cases c1 <;> cases d1 <;> exact ⟨_,_,rfl,rfl,rfl⟩
  | some k=>cases d2 with
   | none=>cases c1 <;> cases d1 <;> exact ⟨_,_,rfl,rfl,rfl⟩
   | some e =>
    unfold zfs zse kD
    dsimp! only [zcj]
    by_cases he:e=k
    ·subst he
     cases c1 <;> cases d1 <;> simp [zcj,zg6,zdw,zci,zb7,zf5,zao,zcb,zbq,zey,zcv,zdk,za4,zg7,zc4,zc5,zc6,zb8,zch,zb0,zbz,zg3,zex,zg4,zf6,zg5,zdl,zf7,zeg,zgq,zfr,zfo,zfp,zfq,zgt,zgs,zhr,zf8,zf9,ze6,zd6,zga,zgb,zhs,ze7,zg8,zdm,zff,zfg,zgc,zfh,zht,zhu,zg9,zha,List.map_cons,List.map_nil,List.length_cons,List.length_nil,Nat.reduceAdd,Nat.reduceSub,List.replicate,List.cons_append,List.nil_append,qg0,qg1,qs0,qs1,zbr,zck,zcl,zho,zhp,zhq,zhn,zgp,zc9,decide_eq_true_eq,zhx,zhw,zhy,oD,zb4,unl]
    ·have he2:¬(k:Int)=(e:Int):=by omega
     have he3:¬k=e:=by omega
     cases c1 <;> cases d1 <;> simp [zcj,zg6,zdw,zci,zb7,zf5,zao,zcb,zbq,zey,zcv,zdk,za4,zg7,zc4,zc5,zc6,zb8,zch,zb0,zbz,zg3,zex,zg4,zf6,zg5,zdl,zf7,zeg,zgq,zfr,zfo,zfp,zfq,zgt,zgs,zhr,zf8,zf9,ze6,zd6,zga,zgb,zhs,ze7,zg8,zdm,zff,zfg,zgc,zfh,zht,zhu,zg9,zha,List.map_cons,List.map_nil,List.length_cons,List.length_nil,Nat.reduceAdd,Nat.reduceSub,List.replicate,List.cons_append,List.nil_append,qg0,qg1,qs0,qs1,zbr,zck,zcl,zho,zhp,zhq,zhn,zgp,zc9,decide_eq_true_eq,zhx,zhw,zhy,oD,zb4,unl,he2,he3]
 obtain ⟨v,S',e,rfl,rfl⟩:=this
 exact e
noncomputable def pD (p:BF.P):D:=.tup [.int (p.1:Int),.int (p.2:Int)]
noncomputable def qD:Option BF.P->D
 | none=>.non
 | some p=>pD p
noncomputable def wD (w:List Nat):D:=.tup (w.map λ(a:Nat)=>D.int (a:Int))
noncomputable def orD:Option (List Nat)->D
 | none=>.non
 | some w=>wD w
noncomputable def pI (p:BF.P):List Int:=[(p.1:Int),(p.2:Int)]
theorem ygg {p q:BF.P}(h:pI p=pI q):p=q:=by
 unfold pI at h
 simp at h
 exact Prod.ext (by omega) (by omega)
theorem pI_mem {p:BF.P}{ps:List BF.P}:pI p∈ps.map pI↔p∈ps:=by
 constructor
 ·intro h
  obtain ⟨q,hq,e⟩:=List.mem_map.mp h
  rw [<-ygg e];exact hq
 ·exact λh=>List.mem_map.mpr ⟨p,h,rfl⟩
theorem ygh {x y:Option Nat}{neg:Bool}{S:Sto}{Q:D->Sto->Prop}:Wo (dIn neg .non (.tup [oD x,oD y]) S) Q=Q (.bl (if neg then (zdd x y).isSome else !(zdd x y).isSome)) S:=by
 have:dIn neg .non (.tup [oD x,oD y]) S=some (.bl (if neg then (zdd x y).isSome else !(zdd x y).isSome),S):=by
  cases x <;> cases y <;> cases neg <;> rfl
 rw [this];exact za9
theorem zs6 {x y:Option Nat}{p:BF.P}(h:zdd x y=some p):D.tup [oD x,oD y]=pD p:=by
 unfold zdd at h
 obtain ⟨i,h1,h⟩:=bnd h
 obtain ⟨j,h2,h⟩:=bnd h
 cases h;subst h1 h2;rfl
noncomputable def nx2 (rs rs2:List (List Cl)) (p:BF.P) (a:Nat):Option BF.P:=zdd (cell rs p.1 a).1 (cell rs2 p.2 a).1
noncomputable def fl2 (rs rs2:List (List Cl)) (p:BF.P) (a:Nat):Bool:=unl (cell rs p.1 a) (cell rs2 p.2 a)
def Wk (asks:Nat) (rs rs2:List (List Cl)) (p:BF.P) (r:Option (List Nat)) (S1:Sto) (n:Nat):Prop:=match r with
 | some w=>BF.Least asks (nx2 rs rs2) (fl2 rs rs2) p w
 | none=>(∀w,¬BF.Fails asks (nx2 rs rs2) (fl2 rs rs2) p w)/\∃ps ws,S1[n]? = some (.lst (ps.map pD))/\BF.Bf asks (nx2 rs rs2) (fl2 rs rs2) p ps ws ps.length 0
inductive WB (asks:Nat) (rs rs2:List (List Cl)) (p:BF.P) (S:Sto) (d:D) (S1:Sto):Prop
 | mk (g:Gr S S1) (r:Option (List Nat)) (n:Nat) (e:d=.tup [orD r,.ref n]) (w:Wk asks rs rs2 p r S1 n)
theorem zs7 {asks:Nat}{rs rs2:List (List Cl)}(h:OkM asks rs) (h':OkM asks rs2) {p q:BF.P}{a:Nat}(hp:p.1<rs.length/\p.2<rs2.length) (ha:a<asks) (e:nx2 rs rs2 p a=some q):q.1<rs.length/\q.2<rs2.length:=by
 unfold nx2 zdd at e
 obtain ⟨i,h1,e⟩:=bnd e
 obtain ⟨j,h2,e⟩:=bnd e
 cases e
 exact ⟨zh6 h hp.1 ha h1,zh6 h' hp.2 ha h2⟩
theorem zs8 (w:List Nat) (a:Nat):D.tup ((w.map λ(a:Nat)=>D.int (a:Int))++[.int (a:Int)])=wD (w++[a]):=by unfold wD;rw [List.map_append];rfl
theorem zs9 (p:BF.P):zcx [.int (p.1:Int),.int (p.2:Int)]=some (pI p):=rfl
structure Wst (asks:Nat) (rs rs2:List (List Cl)) (p0:BF.P) (S S1:Sto) (ps:List BF.P) (ws:List (List Nat)) (i c:Nat):Prop where
 b:BF.Bf asks (nx2 rs rs2) (fl2 rs rs2) p0 ps ws i c
 inn:∀p∈ps,p.1<rs.length/\p.2<rs2.length
 ln:∀(k:Nat) w,ws[k]? = some w->w.length<=k
 g:Gr S S1
 s0:S1[S.length]? = some (.lst (ps.map pD))
 s1:S1[S.length+1]? = some (.lst (ws.map wD))
 s2:S1[S.length+2]? = some (.tset (ps.map pI))
theorem Wst.few {asks:Nat}{rs rs2:List (List Cl)}{p0:BF.P}{S S1:Sto}{ps:List BF.P}{ws:List (List Nat)}{i c:Nat}(w:Wst asks rs rs2 p0 S S1 ps ws i c) (h:OkM asks rs) (h':OkM asks rs2):ps.length<=576:=by
 have h1:=BF.few2 ps w.b.nd w.inn
 have h2:rs.length*rs2.length<=24*24:=Nat.mul_le_mul h.r24 h'.r24
 omega
theorem Wst.put {asks:Nat}{rs rs2:List (List Cl)}{p0 q q':BF.P}{S S1:Sto}{ps:List BF.P}{ws:List (List Nat)}{u:List Nat}{i c:Nat}(w:Wst asks rs rs2 p0 S S1 ps ws i c) (h:OkM asks rs) (h':OkM asks rs2) (hc:c<asks) (hq:ps[i]? = some q) (hw:ws[i]? = some u) (hf:fl2 rs rs2 q c=false) (hs:nx2 rs rs2 q c=some q') (hn:q' ∉ ps) :
  Wst asks rs rs2 p0 S (((S1.set (S.length+2) (.tset (ps.map pI++[pI q']))).set S.length (.lst (ps.map pD++[pD q']))).set (S.length+1) (.lst (ws.map wD++[wD (u++[c])]))) (ps++[q']) (ws++[u++[c]]) i (c+1):=by
 refine ⟨w.b.push hc hq hw hf hs hn,λp hp=>?_,λk v hv=>?_,((w.g.set (by omega) _).set (by omega) _).set (by omega) _,?_,?_,?_⟩
 ·rcases List.mem_append.mp hp with hp|hp
  ·exact w.inn p hp
  ·have:p=q':=by simpa using hp
   subst this
   exact zs7 h h' (w.inn q (qmg hq)) hc hs
 ·rcases BF.get_snoc hv with hv|⟨rfl,rfl⟩
  ·exact w.ln k v hv
  ·have:=w.ln i u hw
   have:=(qme hw).1
   simp;omega
 ·rw [List.map_append]
  exact zbs (zcr (zbs w.s0 (by omega))) (by omega)
 ·rw [List.map_append]
  exact zcr (zbs (zbs w.s1 (by omega)) (by omega))
 ·rw [List.map_append]
  exact zbs (zbs (zcr w.s2) (by omega)) (by omega)
theorem ygi {asks:Nat}{rs rs2:List (List Cl)}{i j f:Nat}{S:Sto}(h:OkM asks rs) (h':OkM asks rs2) (hi:i<rs.length) (hj:j<rs2.length) (hf:S[f]? = some (.fnc "are_unlike")) :
  Wo (zh0 [mD asks rs,mD asks rs2,pD (i,j),.ref f] S) (WB asks rs rs2 (i,j) S):=by
 have sz:=zdc
 unfold zh0 zsf
 dsimp! only [zcj]
 generalize hM:mD asks rs=dM
 generalize hO:mD asks rs2=dO
 generalize hB:pD (i,j)=dB
 refine zav (l':=[some dM,some dO,some dB,~~~f,some (.ref S.length),none,none,none,none,none,none,none,none,none,none]) (S':=S++[.lst [dB]]) ?_ ?_
 ·simp! only [zao]
  exact ⟨by omega,nofun,nofun,nofun⟩
 refine zav (l':=[some dM,some dO,some dB,~~~f,some (.ref S.length),~~~(S.length+1),none,none,none,none,none,none,none,none,none]) (S':=S++[.lst [dB]]++[.lst [.tup []]]) ?_ ?_
 ·simp! only [qla]
  exact ⟨by omega,by omega,nofun,nofun,nofun⟩
 refine zav (l':=[some dM,some dO,some dB,~~~f,some (.ref S.length),~~~(S.length+1),~~~(S.length+2),none,none,none,none,none,none,none,none]) (S':=S++[.lst [dB]]++[.lst [.tup []]]++[.tset [pI (i,j)]]) ?_ ?_
 ·rw [zbq,yev (ds:=[.int (i:Int),.int (j:Int)]) (k:=pI (i,j)) (by rw [<-hB];rfl) rfl]
  simp! only [qla]
  exact ⟨nofun,nofun,nofun⟩
 refine zav (l':=[some dM,some dO,some dB,~~~f,some (.ref S.length),~~~(S.length+1),~~~(S.length+2),some (.int ((0:Nat):Int)),none,none,none,none,none,none,none]) (S':=S++[.lst [dB]]++[.lst [.tup []]]++[.tset [pI (i,j)]]) ?_ ?_
 ·simp! only [zao]
  exact ⟨nofun,nofun,nofun⟩
 have w0:Wst asks rs rs2 (i,j) S (S++[.lst [dB]]++[.lst [.tup []]]++[.tset [pI (i,j)]]) [(i,j)] [[]] 0 0:=by
  refine ⟨.start _,λp hp=>?_,λk w hw=>?_,?_,?_,?_,?_⟩
  ·have:p=(i,j):=by simpa using hp
   subst this;exact ⟨hi,hj⟩
  ·cases k with
   | zero=>have:w=[]:=by simpa using hw.symm
           subst this;simp
   | succ k=>simp at hw
  ·exact ((Gr.refl S).push _).push _ |>.push _
  ·rw [<-hB];exact zbj (zbj za0)
  ·exact zbj (by have:=@za0 (S++[Ob.lst [dB]]) (.lst [.tup []]);rw [qla] at this;exact this)
  ·have:=@za0 (S++[Ob.lst [dB]]++[Ob.lst [.tup []]]) (.tset [pI (i,j)]);rw [qla,qla] at this;exact this
 refine zcm (λl S1=>∃ps ws x8 x9 x10 x11 x12 x13 x14 ii,l=[some dM,some dO,some dB,~~~f,some (.ref S.length),~~~(S.length+1),~~~(S.length+2),some (.int ((ii:Nat):Int)),x8,x9,x10,x11,x12,x13,x14]/\ii=ps.length/\Wst asks rs rs2 (i,j) S S1 ps ws ii 0) (WB asks rs rs2 (i,j) S) ?_ ?_ (λd l1 S1 o=>o)
 ·refine zm5 (λm l S1=>∃ps ws x8 x9 x10 x11 x12 x13 x14,∃ii:Nat,l=[some dM,some dO,some dB,~~~f,some (.ref S.length),~~~(S.length+1),~~~(S.length+2),‹ii›,x8,x9,x10,x11,x12,x13,x14]/\ii<=ps.length/\m+ii=600/\Wst asks rs rs2 (i,j) S S1 ps ws ii 0) (WB asks rs rs2 (i,j) S) (λl S1=>∃ps ws x8 x9 x10 x11 x12 x13 x14,∃ii:Nat,l=[some dM,some dO,some dB,~~~f,some (.ref S.length),~~~(S.length+1),~~~(S.length+2),‹ii›,x8,x9,x10,x11,x12,x13,x14]/\ii=ps.length/\Wst asks rs rs2 (i,j) S S1 ps ws ii 0) 600 (by decide) ⟨_,_,_,_,_,_,_,_,_,0,rfl,Nat.zero_le _,rfl,w0⟩ ?_ (λl' S' q=>.inl ⟨rfl,q⟩) (λd l' S' q=>.inr ⟨d,rfl,q⟩)
  rintro m l S1 ⟨ps,ws,x8,x9,x10,x11,x12,x13,x14,ii,rfl,hii,hm,w⟩
  have hfew:=w.few h h'
  simp_all! only [zhz w.s0,qlm]
  split
  ·rename_i hlt
   have hlt:ii<ps.length:=by omega
   have hwl:ii<ws.length:=by rw [w.b.len];exact hlt
   obtain ⟨q,hq⟩:∃q,ps[ii]? = some q:=⟨_,qge hlt⟩
   obtain ⟨u,hu⟩:∃u,ws[ii]? = some u:=⟨_,qge hwl⟩
   have hqi:=w.inn q (qmg hq)
   have e1:L2.atI (ps.map pD) (ii:Int)=some (.tup [.int (q.1:Int),.int (q.2:Int)]):=atI_get (by rw [qgm,hq];rfl)
   have e2:L2.atI (ws.map wD) (ii:Int)=some (wD u):=atI_get (by rw [qgm,hu];rfl)
   refine zav (l':=[some dM,some dO,some dB,~~~f,some (.ref S.length),~~~(S.length+1),~~~(S.length+2),‹ii›,some (.int (q.1:Int)),some (.int (q.2:Int)),x10,x11,x12,x13,x14]) (S':=S1) ?_ ?_
   ·simp! only [zhz w.s0,e1,true_and]
    all_goals first|trivial|exact ⟨nofun,nofun⟩
   refine zav (l':=[some dM,some dO,some dB,~~~f,some (.ref S.length),~~~(S.length+1),~~~(S.length+2),‹ii›,some (.int (q.1:Int)),some (.int (q.2:Int)),some (wD u),x11,x12,x13,x14]) (S':=S1) ?_ ?_
   ·simp! only [zhz w.s1,e2,true_and]
    all_goals first|trivial|exact ⟨nofun,nofun⟩
   refine zav (l':=[some dM,some dO,some dB,~~~f,some (.ref S.length),~~~(S.length+1),~~~(S.length+2),some (.int ((ii+1:Nat):Int)),some (.int (q.1:Int)),some (.int (q.2:Int)),some (wD u),x11,x12,x13,x14]) (S':=S1) ?_ ?_
   ·simp! only [true_and]
    all_goals first|trivial|exact ⟨nofun,nofun⟩
   have ha0:zab (eOp zal (zaa 0) (eC (.int 0))) zae [some dM,some dO,some dB,~~~f,some (.ref S.length),~~~(S.length+1),~~~(S.length+2),some (.int ((ii+1:Nat):Int)),some (.int (q.1:Int)),some (.int (q.2:Int)),some (wD u),x11,x12,x13,x14] S1=some ([.int (asks:Int)],S1):=by rw [<-hM];rfl
   refine zjj (λc l S5=>∃ps ws y11 y12 y13 y14,l=[some dM,some dO,some dB,~~~f,some (.ref S.length),~~~(S.length+1),~~~(S.length+2),some (.int ((ii+1:Nat):Int)),some (.int (q.1:Int)),some (.int (q.2:Int)),some (wD u),y11,y12,y13,y14]/\ps[ii]? = some q/\ws[ii]? = some u/\Wst asks rs rs2 (i,j) S S5 ps ws ii c) (WB asks rs rs2 (i,j) S) ha0 (by have:=h.a4;omega) ⟨ps,ws,_,_,_,_,rfl,hq,hu,w⟩ ?_ ?_ (λd l' S' q=>.inr ⟨d,rfl,q⟩)
   ·rintro c l S5 hc ⟨ps,ws,y11,y12,y13,y14,rfl,hq,hu,w⟩
    have hfew:=w.few h h'
    have hul:=w.ln ii u hu
    have hil:=(qme hq).1
    obtain ⟨cs,c1,c2⟩:=zjo h hqi.1 hc
    obtain ⟨ds,c3,c4⟩:=zjo h' hqi.2 hc
    simp only [za4,qs0,qs1]
    refine zav (l':=[some dM,some dO,some dB,~~~f,some (.ref S.length),~~~(S.length+1),~~~(S.length+2),some (.int ((ii+1:Nat):Int)),some (.int (q.1:Int)),some (.int (q.2:Int)),some (wD u),‹c›,some (kD (cell rs q.1 c)),y13,y14]) (S':=S5) ?_ ?_
    ·rw [<-hM]
     simp! only [mD,c1,c2,true_and]
     all_goals first|trivial|exact ⟨nofun,nofun⟩
    refine zav (l':=[some dM,some dO,some dB,~~~f,some (.ref S.length),~~~(S.length+1),~~~(S.length+2),some (.int ((ii+1:Nat):Int)),some (.int (q.1:Int)),some (.int (q.2:Int)),some (wD u),‹c›,some (kD (cell rs q.1 c)),some (kD (cell rs2 q.2 c)),y14]) (S':=S5) ?_ ?_
    ·rw [<-hO]
     simp! only [mD,c3,c4,true_and]
     all_goals first|trivial|exact ⟨nofun,nofun⟩
    have hfn:zhl S5 (.ref f)=some ("are_unlike":Str):=by unfold zhl;dsimp only;rw [w.g.get hf]
    have hlk:List.lookup ("are_unlike":Str) [(("are_unlike":Str),zfs)]=some zfs:=by simp [List.lookup]
    refine zcm (λl S8=>l=[some dM,some dO,some dB,~~~f,some (.ref S.length),~~~(S.length+1),~~~(S.length+2),some (.int ((ii+1:Nat):Int)),some (.int (q.1:Int)),some (.int (q.2:Int)),some (wD u),‹c›,some (kD (cell rs q.1 c)),some (kD (cell rs2 q.2 c)),y14]/\S8=S5/\fl2 rs rs2 q c=false) (WB asks rs rs2 (i,j) S) ?_ ?_ (λd l1 S1 o=>.inr ⟨d,rfl,o⟩)
    ·refine zeh (λb S8=>b=fl2 rs rs2 q c/\S8=S5) ?_ ?_ ?_
     ·simp! only [hfn,hlk]
      refine ⟨_,_,ygf _ _ _,?_⟩
      exact ⟨fl2 rs rs2 q c,nofun,nofun,nofun⟩
     ·rintro S8 ⟨hb,rfl⟩
      simp! only [wD]
      refine ⟨by omega,by rw [qlm];omega,by omega,.inr ⟨_,rfl,w.g,some (u++[c]),S.length,?_,w.b.found hc hq hu hb.symm⟩⟩
      rw [zs8];rfl
     ·rintro S8 ⟨hb,rfl⟩
      simp! only [zao]
      exact .inl ⟨nofun,nofun,nofun,hb.symm⟩
    rintro l S8 ⟨rfl,rfl,hfl⟩
    refine zav (l':=[some dM,some dO,some dB,~~~f,some (.ref S.length),~~~(S.length+1),~~~(S.length+2),some (.int ((ii+1:Nat):Int)),some (.int (q.1:Int)),some (.int (q.2:Int)),some (wD u),‹c›,some (kD (cell rs q.1 c)),some (kD (cell rs2 q.2 c)),some (.tup [oD (cell rs q.1 c).1,oD (cell rs2 q.2 c).1])]) (S':=S8) ?_ ?_
    ·have sz2:2<=sizeLine:=by omega
     simp! only [kD,sz2,true_and]
     all_goals first|trivial|exact ⟨nofun,nofun⟩
    refine zeh (λb S10=>S10=S8/\(b=true->∃q',nx2 rs rs2 q c=some q'/\q' ∉ ps)/\(b=false->∀q',nx2 rs rs2 q c=some q'->q'∈ps)) ?_ ?_ ?_
    ·simp_all! only [ygh]
     cases hbo:zdd (cell rs q.1 c).1 (cell rs2 q.2 c).1 with
     | none =>
      simp_all! only [Option.isSome_none,qbf,if_false,if_true]
      refine ⟨nofun,λz=>z.elim,λ_ q' hs=>?_⟩
      unfold nx2 at hs;rw [hbo] at hs;cases hs
     | some q' =>
      have hs:nx2 rs rs2 q c=some q':=hbo
      simp_all! only [Option.isSome_some,if_true]
      rw [zs6 hbo]
      unfold pD
      rw [yeq w.s2 (zs9 q')]
      simp only [pI_mem,if_true]
      refine ⟨_,rfl,nofun,λz=>⟨q',hs,by simpa using z⟩,λz q2 h2=>?_⟩
      rw [hs] at h2;cases h2
      simpa using z
    ·rintro S10 ⟨rfl,hb,_⟩
     obtain ⟨q',hs,hn⟩:=hb rfl
     have hbo:zdd (cell rs q.1 c).1 (cell rs2 q.2 c).1=some q':=hs
     rw [zs6 hbo]
     refine zav (l':=[some dM,some dO,some dB,~~~f,some (.ref S.length),~~~(S.length+1),~~~(S.length+2),some (.int ((ii+1:Nat):Int)),some (.int (q.1:Int)),some (.int (q.2:Int)),some (wD u),‹c›,some (kD (cell rs q.1 c)),some (kD (cell rs2 q.2 c)),some (pD q')]) (S':=S10.set (S.length+2) (.tset (ps.map pI++[pI q']))) ?_ ?_
     ·rw [zcv,yeu]
      simp_all! only [yet w.s2,true_and]
      unfold pD
      rw [yer w.s2 (zs9 q') (by rw [qlm];omega) (λz=>hn (pI_mem.mp z))]
      all_goals first|trivial|exact ⟨nofun,nofun,nofun⟩|exact ⟨nofun,nofun⟩
     have g0:(S10.set (S.length+2) (.tset (ps.map pI++[pI q'])))[S.length]? = some (.lst (ps.map pD)):=zbs w.s0 (by omega)
     refine zav (l':=[some dM,some dO,some dB,~~~f,some (.ref S.length),~~~(S.length+1),~~~(S.length+2),some (.int ((ii+1:Nat):Int)),some (.int (q.1:Int)),some (.int (q.2:Int)),some (wD u),‹c›,some (kD (cell rs q.1 c)),some (kD (cell rs2 q.2 c)),some (pD q')]) (S':=(S10.set (S.length+2) (.tset (ps.map pI++[pI q']))).set S.length (.lst (ps.map pD++[pD q']))) ?_ ?_
     ·rw [zcv,zch]
      simp_all! only [zcy g0,zdb,true_and]
      rw [ze8 g0 (by rw [qlm];omega)]
      all_goals first|trivial|exact ⟨nofun,nofun,nofun⟩|exact ⟨nofun,nofun⟩
     have g1:((S10.set (S.length+2) (.tset (ps.map pI++[pI q']))).set S.length (.lst (ps.map pD++[pD q'])))[S.length+1]? = some (.lst (ws.map wD)):=zbs (zbs w.s1 (by omega)) (by omega)
     have hz1:(ws.map wD).length<sizeLine:=by rw [qlm,w.b.len];omega
     rw [zcv,zch]
     simp_all! only [zcy g1,zdb,true_and,wD]
     refine ⟨by omega,by rw [qlm];omega,?_⟩
     rw [ze8 g1 hz1,zs8]
     exact .inl ⟨.inl nofun,ps++[q'],ws++[u++[c]],_,_,_,_,rfl,BF.get_left hq,BF.get_left hu,w.put h h' hc hq hu hfl hs hn⟩
    ·rintro S10 ⟨rfl,_,hb⟩
     simp! only [zao]
     exact .inl ⟨.inl nofun,ps,ws,_,_,_,_,rfl,hq,hu,⟨w.b.skip hc hq hu hfl (hb rfl),w.inn,w.ln,w.g,w.s0,w.s1,w.s2⟩⟩
   ·rintro l' S' ⟨ps,ws,y11,y12,y13,y14,rfl,hq,hu,w⟩
    have hil:=(qme hq).1
    refine .inl ⟨.inl rfl,m-1,by omega,ps,ws,_,_,_,_,_,_,_,ii+1,rfl,by omega,by omega,⟨w.b.next,w.inn,w.ln,w.g,w.s0,w.s1,w.s2⟩⟩
  ·rename_i hge
   exact ⟨ps,ws,_,_,_,_,_,_,_,ii,rfl,by omega,w⟩
 ·rintro l S1 ⟨ps,ws,x8,x9,x10,x11,x12,x13,x14,ii,rfl,rfl,w⟩
  simp! only [zao]
  exact ⟨by omega,w.g,none,_,rfl,w.b.none,ps,ws,w.s0,w.b⟩
theorem zk5 {α:Type} [DecidableEq α]:∀(l m:List α),l.Nodup->(∀x∈l,x∈m)->l.length=m.length->l.Perm m
 | [],m,_,_,h=>by
  have:m=[]:=List.eq_nil_of_length_eq_zero (by simpa using h.symm)
  subst this;exact .refl _
 | x :: l,m,nd,hs,h=>by
  have hx:=hs x List.mem_cons_self
  rw [List.nodup_cons] at nd
  have hl:=List.length_erase_of_mem hx
  have ih:=zk5 l (m.erase x) nd.2 (λy hy=>(List.mem_erase_of_ne (λ(z:y=x)=>nd.1 (z ▸ hy))).mpr (hs y (List.mem_cons_of_mem _ hy))) (by rw [List.length_cons] at h;omega)
  exact (ih.cons x).trans (List.perm_cons_erase hx).symm
theorem unl_f {c d:Cl}:unl c d=false↔c.2=d.2/\c.1.isNone=d.1.isNone:=by
 unfold unl
 constructor
 ·intro h
  simp only [Bool.or_eq_false_iff,decide_eq_false_iff_not,ne_eq,Classical.not_not,bne_eq_false_iff_eq] at h
  exact h
 ·rintro ⟨h1,h2⟩
  simp [h1,h2]
structure Cmp (A:Nat) (t g:List (List Cl)) (ps:List BF.P):Prop where
 z:(0,0)∈ps
 nd:ps.Nodup
 inn:∀p∈ps,p.1<t.length/\p.2<g.length
 nf:∀p∈ps,∀a,a<A->unl (cell t p.1 a) (cell g p.2 a)=false
 cl:∀p∈ps,∀a q,a<A->nx2 t g p a=some q->q∈ps
 wk:∀p∈ps,∃w,(∀a∈w,a<A)/\BF.walk (nx2 t g) (0,0) w=some p
theorem zta {A:Nat}{t g:List (List Cl)}(h:OkM A t) (h':OkM A g):∀(u:List Nat) (p q:BF.P),(p.1<t.length/\p.2<g.length)->(∀a∈u,a<A)->BF.walk (nx2 t g) p u=some q->q.1<t.length/\q.2<g.length
 | [],p,q,hp,_,e=>by cases e;exact hp
 | a :: u,p,q,hp,ha,e=>by
  obtain ⟨r,h1,h2⟩:=bnd (show (nx2 t g p a).bind (λq=>BF.walk (nx2 t g) q u)=some q from e)
  exact zta h h' u r q (zs7 h h' hp (ha a List.mem_cons_self) h1) (λb hb=>ha b (List.mem_cons_of_mem _ hb)) h2
theorem Cmp.of {A:Nat}{t g:List (List Cl)}{ps:List BF.P}{ws:List (List Nat)}(h:OkM A t) (h':OkM A g) (b:BF.Bf A (nx2 t g) (fl2 t g) (0,0) ps ws ps.length 0):Cmp A t g ps:=by
 have at_:∀p∈ps,∃(k:Nat) (w:List Nat),k<ps.length/\ps[k]? = some p/\ws[k]? = some w:=λp hp=>by
  obtain ⟨k,hk,rfl⟩:=List.mem_iff_getElem.mp hp
  exact ⟨k,_,hk,qge hk,qge (by rw [b.len];exact hk)⟩
 refine ⟨qmg b.z.1,b.nd,λp hp=>?_,λp hp a ha=>?_,λp hp a q ha hq=>?_,λp hp=>?_⟩
 ·obtain ⟨k,w,hk,h1,h2⟩:=at_ p hp
  obtain ⟨h3,h4⟩:=b.wk k p w h1 h2
  exact zta h h' w (0,0) p ⟨h.r1,h'.r1⟩ h4 h3
 ·obtain ⟨k,w,hk,h1,h2⟩:=at_ p hp
  exact b.nf k p a (.inl ⟨hk,ha⟩) h1
 ·obtain ⟨k,w,hk,h1,h2⟩:=at_ p hp
  obtain ⟨l,u,h3,_⟩:=b.cl k p w a q (.inl ⟨hk,ha⟩) h1 h2 hq
  exact qmg h3
 ·obtain ⟨k,w,hk,h1,h2⟩:=at_ p hp
  obtain ⟨h3,h4⟩:=b.wk k p w h1 h2
  exact ⟨w,h4,h3⟩
structure NM (A:Nat) (t g:List (List Cl)) (f:List Nat):Prop where
 len:f.length=t.length
 nd:f.Nodup
 lt:∀k∈f,k<g.length
 z:f[0]? = some 0
 ce:∀(r a k:Nat),a<A->f[r]? = some k->cell g k a=((cell t r a).1.map λx=>f.getD x 0,(cell t r a).2)
section
variable {A:Nat}{t g:List (List Cl)}{f:List Nat}
theorem ygj {f:List Nat}{x k:Nat}(h:f[x]? = some k):f.getD x 0=k:=by rw [List.getD_eq_getElem?_getD,h];rfl
theorem zjr {f:List Nat}{x:Nat}(h:x<f.length):f[x]? = some (f.getD x 0):=by rw [List.getD_eq_getElem?_getD,qge h];rfl
theorem NM.walk (h:NM A t g f) (ok:OkM A t):∀(w:List Nat) (r k x:Nat),f[r]? = some k->(∀a∈w,a<A)->M.wk t r w=some x->M.wk g k w=f[x]?
 | [],r,k,x,hr,_,e=>by cases e;exact hr.symm
 | a :: w,r,k,x,hr,ha,e=>by
  obtain ⟨y,h1,h2⟩:=bnd (show (cell t r a).1.bind (λx=>M.wk t x w)=some x from e)
  have hrl:r<t.length:=by have:=(qme hr).1;rw [h.len] at this;exact this
  have hy:=zh6 ok hrl (ha a List.mem_cons_self) h1
  show (cell g k a).1.bind (λx=>M.wk g x w)=_
  rw [h.ce r a k (ha a List.mem_cons_self) hr,h1]
  exact NM.walk h ok w y _ x (zjr (by rw [h.len];exact hy)) (λb hb=>ha b (List.mem_cons_of_mem _ hb)) h2
theorem NM.uniq {f':List Nat}(h:NM A t g f) (h':NM A t g f') (ok:OkM A t) (al:All A t):f=f':=by
 apply List.ext_getElem?
 intro r
 by_cases hr:r<t.length
 ·obtain ⟨w,h1,h2⟩:=al r hr
  rw [<-h.walk ok w 0 0 r h.z h1 h2,<-h'.walk ok w 0 0 r h'.z h1 h2]
 ·rw [List.getElem?_eq_none (by rw [h.len];omega),List.getElem?_eq_none (by rw [h'.len];omega)]
theorem NM.walk2 (h:NM A t g f) (ok:OkM A t):∀(w:List Nat) (p q:BF.P),f[p.1]? = some p.2->(∀a∈w,a<A)->BF.walk (nx2 t g) p w=some q->f[q.1]? = some q.2
 | [],p,q,hp,_,e=>by cases e;exact hp
 | a :: w,p,q,hp,ha,e=>by
  obtain ⟨r,h1,h2⟩:=bnd (show (nx2 t g p a).bind (λq=>BF.walk (nx2 t g) q w)=some q from e)
  refine NM.walk2 h ok w r q ?_ (λb hb=>ha b (List.mem_cons_of_mem _ hb)) h2
  have hpl:p.1<t.length:=by have:=(qme hp).1;rw [h.len] at this;exact this
  unfold nx2 zdd at h1
  obtain ⟨i,e1,h1⟩:=bnd h1
  obtain ⟨j,e2,h1⟩:=bnd h1
  cases h1
  rw [h.ce p.1 a p.2 (ha a List.mem_cons_self) hp,e1] at e2
  cases e2
  exact zjr (by rw [h.len];exact zh6 ok hpl (ha a List.mem_cons_self) e1)
theorem NM.nf (h:NM A t g f) {p:BF.P}{a:Nat}(hp:f[p.1]? = some p.2) (ha:a<A):fl2 t g p a=false:=by
 unfold fl2
 rw [unl_f,h.ce p.1 a p.2 ha hp]
 exact ⟨rfl,by cases (cell t p.1 a).1 <;> rfl⟩
theorem NM.noF (h:NM A t g f) (ok:OkM A t):∀w,¬BF.Fails A (nx2 t g) (fl2 t g) (0,0) w:=by
 rintro w ⟨u,b,q,rfl,hb,hu,hw,hf⟩
 rw [h.nf (h.walk2 ok u (0,0) q h.z hu hw) hb] at hf
 cases hf
theorem Cmp.fst {ps:List BF.P}(c:Cmp A t g ps):∀(w:List Nat) (p:BF.P) (x:Nat),p∈ps->(∀a∈w,a<A)->M.wk t p.1 w=some x->x∈ps.map (·.1)
 | [],p,x,hp,_,e=>by cases e;exact List.mem_map.mpr ⟨p,hp,rfl⟩
 | a :: w,p,x,hp,ha,e=>by
  obtain ⟨y,h1,h2⟩:=bnd (show (cell t p.1 a).1.bind (λx=>M.wk t x w)=some x from e)
  have hn:=(unl_f.mp (c.nf p hp a (ha a List.mem_cons_self))).2
  rw [h1] at hn
  cases h3:(cell g p.2 a).1 with
  | none=>rw [h3] at hn;cases hn
  | some z =>
   have hq:(y,z)∈ps:=c.cl p hp a (y,z) (ha a List.mem_cons_self) (by unfold nx2 zdd;rw [h1,h3];rfl)
   exact Cmp.fst c w (y,z) x hq (λb hb=>ha b (List.mem_cons_of_mem _ hb)) h2
theorem Cmp.snd {ps:List BF.P}(c:Cmp A t g ps):∀(w:List Nat) (p:BF.P) (x:Nat),p∈ps->(∀a∈w,a<A)->M.wk g p.2 w=some x->x∈ps.map (·.2)
 | [],p,x,hp,_,e=>by cases e;exact List.mem_map.mpr ⟨p,hp,rfl⟩
 | a :: w,p,x,hp,ha,e=>by
  obtain ⟨y,h1,h2⟩:=bnd (show (cell g p.2 a).1.bind (λx=>M.wk g x w)=some x from e)
  have hn:=(unl_f.mp (c.nf p hp a (ha a List.mem_cons_self))).2
  rw [h1] at hn
  cases h3:(cell t p.1 a).1 with
  | none=>rw [h3] at hn;cases hn
  | some z =>
   have hq:(z,y)∈ps:=c.cl p hp a (z,y) (ha a List.mem_cons_self) (by unfold nx2 zdd;rw [h1,h3];rfl)
   exact Cmp.snd c w (z,y) x hq (λb hb=>ha b (List.mem_cons_of_mem _ hb)) h2
theorem NM.count {ps:List BF.P}(h:NM A t g f) (ok:OkM A t) (al:All A t) (c:Cmp A t g ps):ps.length=t.length:=by
 have hf:∀p∈ps,f[p.1]? = some p.2:=λp hp=>by
  obtain ⟨w,h1,h2⟩:=c.wk p hp
  exact h.walk2 ok w (0,0) p h.z h1 h2
 have nd:(ps.map (·.1)).Nodup:=by
  have:=c.nd
  unfold List.Nodup at this ⊢
  rw [List.pairwise_map]
  refine List.Pairwise.imp_of_mem (λ{a b} ha hb hab e=>hab ?_) this
  have h1:=hf a ha
  have h2:=hf b hb
  rw [e,h2] at h1
  exact Prod.ext e (qoi h1).symm
 have pm:(ps.map (·.1)).Perm (List.range t.length):=(List.perm_ext_iff_of_nodup nd List.nodup_range).mpr λr=>by
  rw [List.mem_range]
  constructor
  ·intro hr
   obtain ⟨p,hp,rfl⟩:=List.mem_map.mp hr
   exact (c.inn p hp).1
  ·intro hr
   obtain ⟨w,h1,h2⟩:=al r hr
   exact c.fst w (0,0) r c.z h1 h2
 have:=pm.length_eq
 rw [qlm,List.length_range] at this
 exact this
theorem znj {α β:Type}{l:List α}{h:α->β}(nd:(l.map h).Nodup) {a b:α}(ha:a∈l) (hb:b∈l) (e:h a=h b):a=b:=by
 induction l with
 | nil=>cases ha
 | cons x l ih =>
  rw [List.map_cons,List.nodup_cons] at nd
  rcases List.mem_cons.mp ha with z1|z1
  ·rcases List.mem_cons.mp hb with z2|z2
   ·rw [z1,z2]
   ·rw [z1] at e
    exact absurd (List.mem_map.mpr ⟨b,z2,e.symm⟩) nd.1
  ·rcases List.mem_cons.mp hb with z2|z2
   ·rw [z2] at e
    exact absurd (List.mem_map.mpr ⟨a,z1,e⟩) nd.1
   ·exact ih nd.2 z1 z2
theorem Cmp.nm {ps:List BF.P}(c:Cmp A t g ps) (at':All A t) (ag:All A g) (hl:g.length=t.length) (hp:ps.length=t.length):∃f,NM A t g f/\ps.Perm ((List.range t.length).map λr=>(r,f.getD r 0)):=by
 have p1:(List.range t.length).Perm (ps.map (·.1)):=zk5 _ _ List.nodup_range (λr hr=>by
  obtain ⟨w,h1,h2⟩:=at' r (List.mem_range.mp hr)
  exact c.fst w (0,0) r c.z h1 h2) (by rw [List.length_range,qlm];exact hp.symm)
 have p2:(List.range t.length).Perm (ps.map (·.2)):=zk5 _ _ List.nodup_range (λr hr=>by
  obtain ⟨w,h1,h2⟩:=ag r (by rw [hl];exact List.mem_range.mp hr)
  exact c.snd w (0,0) r c.z h1 h2) (by rw [List.length_range,qlm];exact hp.symm)
 have n1:(ps.map (·.1)).Nodup:=p1.nodup_iff.mp List.nodup_range
 have n2:(ps.map (·.2)).Nodup:=p2.nodup_iff.mp List.nodup_range
 have hex:∀r,r<t.length->∃k,(r,k)∈ps:=λr hr=>by
  obtain ⟨p,h1,h2⟩:=List.mem_map.mp (p1.mem_iff.mp (List.mem_range.mpr hr))
  exact ⟨p.2,by rw [<-h2];exact h1⟩
 let F:Nat->Nat:=λr=>((ps.find? λp=>decide (p.1=r)).map (·.2)).getD 0
 have hF:∀p∈ps,F p.1=p.2:=λp hp=>by
  show ((ps.find? λq=>decide (q.1=p.1)).map (·.2)).getD 0=p.2
  cases e:ps.find? λq=>decide (q.1=p.1) with
  | none =>
   rw [List.find?_eq_none] at e
   exact absurd (decide_eq_true rfl) (e p hp)
  | some q =>
   have h1:=List.find?_some e
   have h2:=List.mem_of_find?_eq_some e
   have:q=p:=znj n1 h2 hp (of_decide_eq_true h1)
   rw [this];rfl
 have gF:∀r,r<t.length->((List.range t.length).map F)[r]? = some (F r):=λr hr=>by rw [qgm,List.getElem?_range hr];rfl
 have mF:∀r,r<t.length->(r,F r)∈ps:=λr hr=>by
  obtain ⟨k,hk⟩:=hex r hr
  have:=hF _ hk
  have:F r=k:=this
  rw [this];exact hk
 have dF:∀r,r<t.length->((List.range t.length).map F).getD r 0=F r:=λr hr=>ygj (gF r hr)
 refine ⟨(List.range t.length).map F,⟨by simp,?_,λk hk=>?_,?_,λr a k ha hr=>?_⟩,?_⟩
 ·unfold List.Nodup
  rw [List.pairwise_map]
  refine List.Pairwise.imp_of_mem (λ{a b} ha hb hab e=>hab ?_) (List.nodup_range (n:=t.length))
  have:=znj n2 (mF a (List.mem_range.mp ha)) (mF b (List.mem_range.mp hb)) e
  exact congrArg Prod.fst this
 ·obtain ⟨r,hr,rfl⟩:=List.mem_map.mp hk
  exact (c.inn _ (mF r (List.mem_range.mp hr))).2
 ·rw [gF 0 (by have:=(c.inn _ c.z).1;exact this)]
  exact congrArg some (hF _ c.z)
 ·have hrl:r<t.length:=by have:=(qme hr).1;simpa using this
  rw [gF r hrl] at hr
  cases hr
  have hm:=mF r hrl
  obtain ⟨u1,u2⟩:=unl_f.mp (c.nf _ hm a ha)
  refine Prod.ext ?_ u1.symm
  show (cell g (F r) a).1=(cell t r a).1.map _
  have u2:(cell t r a).1.isNone=(cell g (F r) a).1.isNone:=u2
  cases h1:(cell t r a).1 with
  | none =>
   rw [h1] at u2
   cases h2:(cell g (F r) a).1 with
   | none=>rfl
   | some y=>rw [h2] at u2;cases u2
  | some x =>
   rw [h1] at u2
   cases h2:(cell g (F r) a).1 with
   | none=>rw [h2] at u2;cases u2
   | some y =>
    have hq:(x,y)∈ps:=c.cl _ hm a (x,y) ha (by unfold nx2 zdd;show (cell t r a).1.bind (λi=>(cell g (F r) a).1.bind λj=>some (i,j))=_;rw [h1,h2];rfl)
    show some y=some (((List.range t.length).map F).getD x 0)
    rw [dF x (c.inn _ hq).1,hF _ hq]
 ·refine (zk5 _ _ ?_ (λp hp=>?_) (by simp [hp])).symm
  ·unfold List.Nodup
   rw [List.pairwise_map]
   refine List.Pairwise.imp (λ{a b} hab e=>hab (congrArg Prod.fst e)) (List.nodup_range (n:=t.length))
  ·obtain ⟨r,hr,rfl⟩:=List.mem_map.mp hp
   have hr:=List.mem_range.mp hr
   rw [dF r hr]
   exact mF r hr
end
noncomputable def prI (p:BF.P):SP.Pr:=((p.1:Int),(p.2:Int))
theorem ztb:∀ps:List BF.P,zhm (ps.map pD)=some (ps.map prI)
 | []=>rfl
 | p :: ps=>by
  show (dPr (pD p)).bind (λx=>(zhm (ps.map pD)).bind λy=>some (x :: y))=_
  rw [ztb ps];rfl
theorem ygk {ps:List BF.P}(h:ps.Nodup):(ps.map prI).Nodup:=by
 unfold List.Nodup at h ⊢
 rw [List.pairwise_map]
 refine h.imp λ{a b} hab e=>hab ?_
 unfold prI at e
 have e1:(a.1:Int)=(b.1:Int):=congrArg Prod.fst e
 have e2:(a.2:Int)=(b.2:Int):=congrArg Prod.snd e
 exact Prod.ext (by omega) (by omega)
theorem ygl {S:Sto}{n m:Nat}{ps:List BF.P}{f:List Nat}(h:S[n]? = some (.lst (ps.map pD))) (hm:m<64) (pm:ps.Perm ((List.range m).map λr=>(r,f.getD r 0))):zgl [.ref n] S=some (.ref S.length,S++[.lst ((List.range m).map λr=>pD (r,f.getD r 0))]):=by
 have nd:((List.range m).map λr=>(r,f.getD r 0)).Nodup:=by
  unfold List.Nodup
  rw [List.pairwise_map]
  exact List.Pairwise.imp (λ{a b} hab e=>hab (congrArg Prod.fst e)) (List.nodup_range (n:=m))
 have e:SP.sortP (ps.map prI)=(List.range m).map λr=>prI (r,f.getD r 0):=by
  symm
  refine SP.sortP_of ?_ ?_
  ·have:=(pm.map prI).symm
   rw [List.map_map] at this
   exact this
  ·rw [List.pairwise_map]
   refine List.Pairwise.imp (λ{a b} hab=>?_) (List.pairwise_lt_range (n:=m))
   have:(a:Int)<(b:Int):=by omega
   unfold SP.ple SP.plt prI
   have h1:¬(b:Int)<(a:Int):=by omega
   have h2:¬(b:Int)=(a:Int):=by omega
   simp [h1,h2]
   try omega
 have hl:ps.length=m:=by have:=pm.length_eq;simpa using this
 unfold zgl
 show (lstOf S n).bind _=_
 rw [zbl h]
 show (zhm (ps.map pD)).bind _=_
 rw [ztb]
 show (if _ then _ else _)=_
 rw [if_pos ⟨ygk (pm.nodup_iff.mpr nd),by rw [qlm];omega⟩,e,List.map_map]
 rfl
inductive Res (A B:Nat) (t g:List (List Cl)) (v:D):Prop
 | yes (f:List Nat) (e:A=B) (hl:g.length=t.length) (nm:NM A t g f) (hv:v=.tup (f.map nD))
 | no (h:¬(A=B/\g.length=t.length/\∃f,NM A t g f)) (hv:v=.non)
noncomputable def tst:TM:=tE (eOp dLt (zaf za5 (zab (zaf ze9 (zab (zaa 2) (zae))) (zae))) (zaf za5 (zab (eOp zal (zaa 2) (eC (.int 1))) (zae))))
theorem ztc {A:Nat}{g:List (List Cl)}{l:Lo}{S:Sto}(ok:OkM A g) (hl:l[2]? = some (some (mD A g))):∃b S',tst l S=some (b,S')/\Gr S S'/\(b=true↔¬All A g):=by
 have:Wt tst l S λb S'=>Gr S S'/\(b=true↔¬All A g):=by
  unfold tst
  simp only [zci,zb7,zb8,zb0,zbz,zao,hl,zbr]
  refine (yga ok).mono ?_
  rintro v S1 ⟨g1,n,es,rfl,hn,b⟩
  have e1:L2.atI [D.int (A:Int),.tup (g.map roD)] 1=some (.tup (g.map roD)):=rfl
  simp_all! only [zbl hn,mD,hl,e1,qlm]
  refine ⟨g1,?_⟩
  rw [<-b.all]
  omega
 obtain ⟨b,S',e,h⟩:=this
 exact ⟨b,S',e,h⟩
theorem ztd {A B:Nat}{t g:List (List Cl)}{S:Sto}(ok:OkM A t) (ok':OkM B g) :
  (∃S2,Gr S S2/\All A t/\All B g/\zcp (zaf zaq (zab (zaa 0) (zab (zaa 1) (zae)))) (zah 2) (sIf tst zb6 zay) [some (mD A t),some (mD B g),none,none,none,none] S=some (.nx,[some (mD A t),some (mD B g),some (mD B g),none,none,none],S2)) \/
  (∃S2,Gr S S2/\¬(All A t/\All B g)/\zcp (zaf zaq (zab (zaa 0) (zab (zaa 1) (zae)))) (zah 2) (sIf tst zb6 zay) [some (mD A t),some (mD B g),none,none,none,none] S=none /\
   zjg (zaf zaq (zab (zaa 0) (zab (zaa 1) (zae)))) (zah 2) (sIf tst zb6 zay) (zIf tst (λ_ S=>some (("Unreached":Str),S)) zdx) [some (mD A t),some (mD B g),none,none,none,none] S=some (("Unreached":Str),S2)):=by
 have e0:zaf zaq (zab (zaa 0) (zab (zaa 1) (zae))) [some (mD A t),some (mD B g),none,none,none,none] S=some (.tup [mD A t,mD B g],S):=by
  show (if 2<=sizeLine then some (D.tup [mD A t,mD B g],S) else none)=_
  rw [if_pos (by decide)]
 obtain ⟨b1,S1,h1,g1,i1⟩:=ztc (l:=[some (mD A t),some (mD B g),some (mD A t),none,none,none]) (S:=S) ok rfl
 obtain ⟨b2,S2,h2,g2,i2⟩:=ztc (l:=[some (mD A t),some (mD B g),some (mD B g),none,none,none]) (S:=S1) ok' rfl
 have f0:zcp (zaf zaq (zab (zaa 0) (zab (zaa 1) (zae)))) (zah 2) (sIf tst zb6 zay) [some (mD A t),some (mD B g),none,none,none,none] S=zcd (zah 2) (sIf tst zb6 zay) [mD A t,mD B g] [some (mD A t),some (mD B g),none,none,none,none] S:=by
  unfold zcp;rw [e0];rfl
 have z0:zjg (zaf zaq (zab (zaa 0) (zab (zaa 1) (zae)))) (zah 2) (sIf tst zb6 zay) (zIf tst (λ_ S=>some (("Unreached":Str),S)) zdx) [some (mD A t),some (mD B g),none,none,none,none] S=zX (zah 2) (sIf tst zb6 zay) (zIf tst (λ_ S=>some (("Unreached":Str),S)) zdx) [mD A t,mD B g] [some (mD A t),some (mD B g),none,none,none,none] S:=by
  unfold zjg;rw [e0];rfl
 have s1:sIf tst zb6 zay [some (mD A t),some (mD B g),some (mD A t),none,none,none] S=if b1=true then none else some (.nx,[some (mD A t),some (mD B g),some (mD A t),none,none,none],S1):=by
  unfold sIf;rw [h1];rfl
 have s2:sIf tst zb6 zay [some (mD A t),some (mD B g),some (mD B g),none,none,none] S1=if b2=true then none else some (.nx,[some (mD A t),some (mD B g),some (mD B g),none,none,none],S2):=by
  unfold sIf;rw [h2];rfl
 have r1:zIf tst (λ_ S=>some (("Unreached":Str),S)) zdx [some (mD A t),some (mD B g),some (mD A t),none,none,none] S=if b1=true then some (("Unreached":Str),S1) else none:=by
  unfold zIf;rw [h1];rfl
 have r2:zIf tst (λ_ S=>some (("Unreached":Str),S)) zdx [some (mD A t),some (mD B g),some (mD B g),none,none,none] S1=if b2=true then some (("Unreached":Str),S2) else none:=by
  unfold zIf;rw [h2];rfl
 cases b1 with
 | true =>
  have n1:=i1.mp rfl
  rw [if_pos rfl] at s1 r1
  refine .inr ⟨S1,g1,λz=>n1 z.1,?_,?_⟩
  ·rw [f0]
   unfold zcd
   show (sIf tst zb6 zay [some (mD A t),some (mD B g),some (mD A t),none,none,none] S).bind _=_
   rw [s1];rfl
  ·rw [z0]
   unfold zX
   show (match zIf tst (λ_ S=>some (("Unreached":Str),S)) zdx [some (mD A t),some (mD B g),some (mD A t),none,none,none] S with|some z=>some z|none=>_)=_
   rw [r1]
 | false =>
  have a1:All A t:=Classical.byContradiction λz=>by have:=i1.mpr z;cases this
  rw [if_neg Bool.false_ne_true] at s1 r1
  have f1:zcd (zah 2) (sIf tst zb6 zay) [mD A t,mD B g] [some (mD A t),some (mD B g),none,none,none,none] S=zcd (zah 2) (sIf tst zb6 zay) [mD B g] [some (mD A t),some (mD B g),some (mD A t),none,none,none] S1:=by
   rw [zcd]
   show (sIf tst zb6 zay [some (mD A t),some (mD B g),some (mD A t),none,none,none] S).bind _=_
   rw [s1];rfl
  cases b2 with
  | true =>
   have n2:=i2.mp rfl
   rw [if_pos rfl] at s2 r2
   refine .inr ⟨S2,g1.trans g2,λz=>n2 z.2,?_,?_⟩
   ·rw [f0,f1,zcd]
    show (sIf tst zb6 zay [some (mD A t),some (mD B g),some (mD B g),none,none,none] S1).bind _=_
    rw [s2];rfl
   ·rw [z0,zX]
    show (match zIf tst (λ_ S=>some (("Unreached":Str),S)) zdx [some (mD A t),some (mD B g),some (mD A t),none,none,none] S with|some z=>some z|none=>(sIf tst zb6 zay [some (mD A t),some (mD B g),some (mD A t),none,none,none] S).bind _)=_
    rw [r1,s1]
    show zX (zah 2) (sIf tst zb6 zay) (zIf tst (λ_ S=>some (("Unreached":Str),S)) zdx) [mD B g] [some (mD A t),some (mD B g),some (mD A t),none,none,none] S1=_
    rw [zX]
    show (match zIf tst (λ_ S=>some (("Unreached":Str),S)) zdx [some (mD A t),some (mD B g),some (mD B g),none,none,none] S1 with|some z=>some z|none=>_)=_
    rw [r2]
  | false =>
   have a2:All B g:=Classical.byContradiction λz=>by have:=i2.mpr z;cases this
   rw [if_neg Bool.false_ne_true] at s2
   refine .inl ⟨S2,g1.trans g2,a1,a2,?_⟩
   rw [f0,f1,zcd]
   show (sIf tst zb6 zay [some (mD A t),some (mD B g),some (mD B g),none,none,none] S1).bind _=_
   rw [s2];rfl
theorem ygm {A B:Nat}{t g:List (List Cl)}{S:Sto}(ok:OkM A t) (ok':OkM B g) (na:¬(All A t/\All B g)):zft [mD A t,mD B g] S=none/\∃S2,Gr S S2/\zjl [mD A t,mD B g] S=some (("Unreached":Str),S2):=by
 rcases ztd (S:=S) ok ok' with ⟨S2,g2,a1,a2,_⟩|⟨S2,g2,_,h1,h2⟩
 ·exact absurd ⟨a1,a2⟩ na
 ·refine ⟨?_,S2,g2,h2⟩
  unfold zft zb2 zm6
  show ((zaj (zcp (zaf zaq (zab (zaa 0) (zab (zaa 1) (zae)))) (zah 2) (sIf tst zb6 zay)) _) [some (mD A t),some (mD B g),none,none,none,none] S).bind _=_
  unfold zaj
  rw [h1];rfl
theorem znk (r:Option (List Nat)):zb4 (orD r)=r.isNone:=by cases r <;> rfl
theorem ygn {A B:Nat}{t g:List (List Cl)}{S:Sto}(ok:OkM A t) (ok':OkM B g) (a1:All A t) (a2:All B g):Wo (zft [mD A t,mD B g] S) λv S'=>Gr S S'/\Res A B t g v:=by
 have sz:=zdc
 have r24:=ok.r24
 have r24':=ok'.r24
 unfold zft zm6
 dsimp! only [zcj]
 refine zaz (λl S'=>l=[some (mD A t),some (mD B g),some (mD B g),none,none,none]/\Gr S S') ?_ ?_
 ·rcases ztd (S:=S) ok ok' with ⟨S2,g2,_,_,h⟩|⟨S2,g2,na,_⟩
  ·exact ⟨_,_,_,h,rfl,rfl,g2⟩
  ·exact absurd ⟨a1,a2⟩ na
 rintro l S1 ⟨rfl,g1⟩
 refine zav (l':=[some (mD A t),some (mD B g),some (mD B g),some (.int (t.length:Int)),none,none]) (S':=S1) ?_ ?_
 ·unfold mD;simp! only [qlm];first|trivial|exact ⟨nofun,nofun,nofun⟩
 by_cases hAB:A=B/\g.length=t.length
 ·obtain ⟨rfl,hl⟩:=hAB
  have e1:¬¬(A:Int)=(A:Int):=λz=>z rfl
  have e2:(g.length:Int)=(t.length:Int):=by omega
  refine zav (l':=[some (mD A t),some (mD A g),some (mD A g),some (.int (t.length:Int)),none,none]) (S':=S1) ?_ ?_
  ·unfold mD
   simp! only [qlm,e2,decide_true,Bool.not_true,qbf,if_false]
   first|trivial|exact ⟨nofun,nofun,nofun⟩
  refine zaz (λl S'=>∃r n,l=[some (mD A t),some (mD A g),some (mD A g),some (.int (t.length:Int)),some (orD r),~~~n]/\Gr S S'/\Wk A t g (0,0) r S' n) ?_ ?_
  ·rw [zbq]
   simp_all! only [zao]
   refine ⟨by omega,?_⟩
   have key:=ygi (S:=S1++[.fnc "are_unlike"]) (f:=S1.length) ok ok' ok.r1 ok'.r1 za0
   refine Wo.mono key ?_
   rintro v S' ⟨g0,r,n,rfl,hw⟩
   simp only [zc4,zc6,zc5,za4,List.length_cons,List.length_nil,qs0,qs1]
   exact ⟨by first|rfl|trivial,by first|rfl|trivial,r,n,rfl,g1.trans (((Gr.refl S1).push (.fnc "are_unlike")).trans g0),hw⟩
  rintro l S2 ⟨r,n,rfl,g2,hw⟩
  cases r with
  | some w =>
   obtain ⟨hf,_⟩:=hw
   refine zcm (λ_ _=>False) (λv S'=>Gr S S'/\Res A A t g v) ?_ (λ_ _ z=>z.elim) (λd _ _ o=>o)
   simp! only [znk,Option.isNone_some,Bool.not_false,if_true]
   exact .inr ⟨_,rfl,g2,.no (λ⟨_,_,f,nm⟩=>nm.noF ok w hf) rfl⟩
  | none =>
   obtain ⟨_,ps,ws,hs,hb⟩:=hw
   have cm:=Cmp.of ok ok' hb
   by_cases hp:ps.length=t.length
   ·obtain ⟨f,nm,pm⟩:=cm.nm a1 a2 hl hp
    have ep:(ps.length:Int)=(t.length:Int):=by omega
    refine zav (l':=[some (mD A t),some (mD A g),some (mD A g),some (.int (t.length:Int)),some (orD none),~~~n]) (S':=S2) ?_ ?_
    ·simp! only [znk,Option.isNone_none,Bool.not_true,qbf,if_false,zbl hs,qlm,ep,decide_true]
     first|trivial|exact ⟨nofun,nofun,nofun⟩
    rw [zey,zb8,zb0]
    have hx:=ygl hs (m:=t.length) (by omega) pm
    have him:zec (zaf zgl (zab (zaa 5) (zae))) [some (mD A t),some (mD A g),some (mD A g),some (.int (t.length:Int)),some (orD none),~~~n] S2=some (itL S2.length,((List.range t.length).map λr=>pD (r,f.getD r 0)).length+1,S2++[.lst ((List.range t.length).map λr=>pD (r,f.getD r 0))]):=by
     refine zr4 (n:=S2.length) (xs:=(List.range t.length).map λr=>pD (r,f.getD r 0)) ?_ (zbl za0)
     exact hx
    refine zjh ((List.range t.length).map λr=>pD (r,f.getD r 0)) (λd=>match d with | .tup [_,y]=>y|d=>d) (λS'=>S' = S2++[.lst ((List.range t.length).map λr=>pD (r,f.getD r 0))]) (λl=>∃x0 x1,l=[x0,x1]) him rfl ⟨_,_,rfl⟩ (λi S' hS=>by rw [hS];exact zr5 (zbl za0)) (by simp;omega) ?_ ?_
    ·rintro x l S' hx ⟨x0,x1,rfl⟩ rfl
     obtain ⟨r,hr,rfl⟩:=List.mem_map.mp hx
     unfold pD
     simp only [zc4,zc6,zc5,za4,List.length_cons,List.length_nil,qs0,qs1,zao,qg0,qg1,zbr]
     exact ⟨by first|rfl|trivial,by first|rfl|trivial,⟨_,_,rfl⟩,by first|rfl|trivial,by first|rfl|trivial⟩
    ·rintro S' rfl
     have ef:((List.range t.length).map λr=>pD (r,f.getD r 0)).map (λd=>match d with | .tup [_,y]=>y|d=>d)=f.map nD:=by
      rw [List.map_map]
      apply List.ext_getElem?
      intro r
      rw [qgm,qgm]
      by_cases hr:r<t.length
      ·rw [List.getElem?_range hr,zjr (by rw [nm.len];exact hr)];rfl
      ·rw [List.getElem?_eq_none (by simpa using hr),List.getElem?_eq_none (by rw [nm.len];omega)];rfl
     rw [ef]
     simp only [zbz,zfg,zc9,zck]
     exact ⟨(g2.push _).push _,.yes f rfl hl nm rfl⟩
   ·have ep:¬(ps.length:Int)=(t.length:Int):=by omega
    refine zcm (λ_ _=>False) (λv S'=>Gr S S'/\Res A A t g v) ?_ (λ_ _ z=>z.elim) (λd _ _ o=>o)
    simp! only [znk,Option.isNone_none,Bool.not_true,qbf,if_false,zbl hs,qlm,ep,decide_false,Bool.not_false,if_true]
    exact .inr ⟨_,rfl,g2,.no (λ⟨_,_,f,nm⟩=>hp (nm.count ok a1 cm)) rfl⟩
 ·refine zcm (λ_ _=>False) (λv S'=>Gr S S'/\Res A B t g v) ?_ (λ_ _ z=>z.elim) (λd _ _ o=>o)
  have fin:Gr S S1/\Res A B t g .non:=⟨g1,.no (λ⟨h1,h2,_⟩=>hAB ⟨h1,h2⟩) rfl⟩
  unfold mD
  by_cases h1:A=B
  ·have h2:¬(g.length:Int)=(t.length:Int):=λz=>hAB ⟨h1,by omega⟩
   subst h1
   simp! only [qlm,decide_true,Bool.not_true,qbf,if_false,h2,decide_false,Bool.not_false,if_true]
   exact .inr ⟨_,rfl,fin⟩
  ·have h2:¬(A:Int)=(B:Int):=by omega
   simp! only [qlm,h2,decide_false,Bool.not_false,if_true]
   exact .inr ⟨_,rfl,fin⟩
noncomputable def zl (xs ys:List D):List D:=List.zipWith (λx y=>D.tup [x,y]) xs ys
theorem znl (xs ys:List D):(zl xs ys).length=min xs.length ys.length:=by simp [zl]
theorem zte (xs ys:List D) (i:Nat):(zl xs ys)[i]? = (xs[i]?).bind λx=>(ys[i]?).map λy=>D.tup [x,y]:=by
 unfold zl
 rw [List.getElem?_zipWith]
 cases xs[i]? <;> cases ys[i]? <;> rfl
theorem ygo {i1 i2:ItM}{i:Nat}{S:Sto}{xs ys:List D}(h1:i1 i S=some xs[i]?) (h2:i2 i S=some ys[i]?):itZ i1 i2 i S=some (zl xs ys)[i]?:=by
 unfold itZ
 rw [h1,zte]
 cases hx:xs[i]? with
 | none=>rfl
 | some x =>
  show (i2 i S).bind _=_
  rw [h2]
  cases hy:ys[i]? <;> rfl
theorem ygp {as:AM}{l:Lo}{S S1:Sto}{xs ys:List D}(h:as l S=some ([.tup xs,.tup ys],S1)):zky as l S=some (itZ (itX xs) (itX ys),(zl xs ys).length+1,S1):=by
 unfold zky
 rw [h]
 show some _=_
 rw [znl]
theorem ygq {S:Sto}{x y:D}{p q:PyData}{Q:D->Sto->Prop}(h1:zau S 60 x=some p) (h2:zau S 60 y=some q) (c1:p.canLay0=true) (c2:q.canLay0=true):Wo (zhb x y S) Q=Q (.bl (!p.eqv q)) S:=by
 have:zhb x y S=some (.bl (!p.eqv q),S):=by unfold zhb;rw [h1];show (zau S 60 y).bind _=_;rw [h2];show (if _ then _ else _)=_;rw [if_pos ⟨c1,c2⟩]
 rw [this];exact za9
theorem ztf {S:Sto}{x y:D}{p q:PyData}{Q:D->Sto->Prop}(h1:zau S 60 x=some p) (h2:zau S 60 y=some q) (c1:p.canLay0=true) (c2:q.canLay0=true):Wo (zge x y S) Q=Q (.bl (p.eqv q)) S:=by
 have:zge x y S=some (.bl (p.eqv q),S):=by unfold zge;rw [h1];show (zau S 60 y).bind _=_;rw [h2];show (if _ then _ else _)=_;rw [if_pos ⟨c1,c2⟩]
 rw [this];exact za9
noncomputable def pyO:Option Nat->PyData
 | none=>.none
 | some k=>pyN k
noncomputable def pyK (c:Cl):PyData:=.tuple [pyO c.1,pyO c.2]
def SmC (c:Cl):Prop:=(∀x,c.1=some x->x<1000)/\∀x,c.2=some x->x<1000
theorem ztg {S:Sto}{k:Nat}{o:Option Nat}(h:∀x,o=some x->x<1000):zau S (k+1) (oD o)=some (pyO o):=by
 cases o with
 | none=>show zau S (k+1) .non=_;unfold zau;rfl
 | some x=>exact zs2 (h x rfl)
theorem zth {S:Sto}{k:Nat}{c:Cl}(h:SmC c):zau S (k+2) (kD c)=some (pyK c):=by
 unfold kD zau
 have e:zbm S (k+1) [oD c.1,oD c.2]=some [pyO c.1,pyO c.2]:=by
  unfold zbm
  rw [ztg h.1]
  show (zbm S (k+1) [oD c.2]).bind _=_
  unfold zbm
  rw [ztg h.2]
  show ((zbm S (k+1) []).bind _).bind _=_
  unfold zbm
  rfl
 rw [e];rfl
theorem ygr (o:Option Nat):(pyO o).canLay0=true:=by cases o <;> (unfold pyO;try unfold pyN) <;> rw [PyData.canLay0]
theorem zti (c:Cl):(pyK c).canLay0=true:=by
 unfold pyK
 rw [PyData.canLay0]
 simp [PyData.canLayAll0,ygr]
theorem ygs (o q:Option Nat):(pyO o).eqv (pyO q)=decide (o=q):=by
 cases o with
 | none=>cases q with
  | none=>rfl
  | some k=>simp [pyO,pyN,PyData.eqv]
 | some j=>cases q with
  | none=>simp [pyO,pyN,PyData.eqv]
  | some k =>
   simp only [pyO,pyN,PyData.eqv]
   by_cases e:j=k
   ·subst e;simp
   ·have:¬(j:Int)=(k:Int):=by omega
    simp [e,this]
theorem ygt (c d:Cl):(pyK c).eqv (pyK d)=decide (c=d):=by
 unfold pyK
 rw [PyData.eqv]
 simp only [PyData.eqvAll,ygs,Bool.and_true]
 obtain ⟨c1,c2⟩:=c
 obtain ⟨d1,d2⟩:=d
 by_cases h1:c1=d1 <;> by_cases h2:c2=d2 <;> simp [h1,h2]
theorem znm {S:Sto}{n:Nat}{xs:List D}{Q:D->Sto->Prop}(h:S[n]? = some (.lst xs)) (hf:xs.all zgf=true):Wo (dIn false .non (.ref n) S) Q=Q (.bl (xs.any λy=>zef y .non)) S:=by
 have h2:lstOf S n=some xs:=by unfold lstOf;rw [h]
 have:dIn false .non (.ref n) S=some (.bl (xs.any λy=>zef y .non),S):=by
  unfold dIn zi3
  dsimp only
  show zkm false .non (.ref n) S=_
  unfold zkm zqo
  dsimp only
  rw [h2]
  show (if _ then _ else _)=_
  rw [if_pos ⟨rfl,hf⟩]
  rfl
 rw [this];exact za9
noncomputable def wy (es:List En) (r:Nat):List Nat:=((es.find? λe=>decide (e.1=r)).map (·.2)).getD []
theorem ztj {es:List En}(nd:(es.map (·.1)).Nodup) {e:En}(he:e∈es):wy es e.1=e.2:=by
 unfold wy
 cases q:es.find? λq=>decide (q.1=e.1) with
 | none =>
  rw [List.find?_eq_none] at q
  exact absurd (decide_eq_true rfl) (q e he)
 | some p =>
  have h1:=List.find?_some q
  have:p=e:=znj nd (List.mem_of_find?_eq_some q) he (of_decide_eq_true h1)
  rw [this];rfl
theorem ztk {A:Nat}{t:List (List Cl)}{es:List En}(b:Bq A t es es.length 0) (al:All A t) {r:Nat}(hr:r<t.length):(r,wy es r)∈es:=by
 obtain ⟨w,h1,h2⟩:=al r hr
 obtain ⟨e,he,rfl⟩:=List.mem_map.mp (b.to w 0 r (List.mem_map.mpr ⟨_,qmg b.z,rfl⟩) h1 h2)
 rw [ztj b.nd he]
 exact he
inductive DueP (A B:Nat) (t g:List (List Cl)) (S:Sto) (v:D) (S':Sto):Prop
 | un (g0:Gr S S') (na:¬(All A t/\All B g)) (e:v=.str "unreached")
 | ok (g0:Gr S S') (a1:All A t) (a2:All B g) (r:Res A B t g v)
theorem ztl {S:Sto}{n:Nat}{f:List Nat}{Q:D->Sto->Prop}(h:S[n]? = some (.lst (f.map nD))) (hf:f.length<=100):Wo (zgo [.ref n] S) Q=Q (.ref S.length) (S++[.iset (λk=>(dis (f.map λ(x:Nat)=>(x:Int)) (f.map λ(x:Nat)=>(x:Int)).length).any (· == k)) (dis (f.map λ(x:Nat)=>(x:Int)) (f.map λ(x:Nat)=>(x:Int)).length).length]):=by
 have hi:∀f:List Nat,zcx (f.map nD)=some (f.map λ(x:Nat)=>(x:Int)):=by
  intro f
  induction f with
  | nil=>rfl
  | cons x f ih =>
   show (zcx (f.map nD)).bind _=_
   rw [ih];rfl
 have:zgo [.ref n] S=some (.ref S.length,S++[.iset (λk=>(dis (f.map λ(x:Nat)=>(x:Int)) (f.map λ(x:Nat)=>(x:Int)).length).any (· == k)) (dis (f.map λ(x:Nat)=>(x:Int)) (f.map λ(x:Nat)=>(x:Int)).length).length]):=by
  unfold zgo
  dsimp only
  rw [h]
  show (zcx (f.map nD)).bind _=_
  rw [hi]
  show (if _ then _ else _)=_
  rw [if_pos (by rw [qlm];unfold scanBound;omega)]
 rw [this];exact za9
theorem ztm {S:Sto}{n k:Nat}{f:Int->Bool}{Q:D->Sto->Prop}(h:S[n]? = some (.iset f k)) (hk:k<scanBound):Wo (zgn [.ref n] S) Q=Q (.int (k:Int)) S:=by
 have:zgn [.ref n] S=some (.int (k:Int),S):=by unfold zgn;dsimp only;rw [h];dsimp only;rw [if_pos hk]
 rw [this];exact za9
theorem ztn {S:Sto}{n:Nat}{kvs:List (L2.Key × D)}{Q:D->Sto->Prop}(h:S[n]? = some (.dct kvs)):Wo (zfn [.ref n] S) Q=Q (.int (kvs.length:Int)) S:=by
 have:zfn [.ref n] S=some (.int (kvs.length:Int),S):=by unfold zfn;dsimp only;rw [h]
 rw [this];exact za9
theorem ygu {f:List Nat}:(f.map λ(x:Nat)=>(x:Int)).Nodup↔f.Nodup:=by
 unfold List.Nodup
 rw [List.pairwise_map]
 constructor
 ·exact λh=>h.imp λ{a b} hab e=>hab (by rw [e])
 ·exact λh=>h.imp λ{a b} hab e=>hab (by omega)
theorem ygv {A B:Nat}{t g:List (List Cl)}{S:Sto}(ok:OkM A t) (ok':OkM B g):Wo (zh4 [mD A t,mD B g] S) (DueP A B t g S):=by
 have sz:=zdc
 have r24:=ok.r24
 have r24':=ok'.r24
 have a4:=ok.a4
 have sb:100<scanBound:=by unfold scanBound;omega
 unfold zh4 zsk
 dsimp! only [zcj]
 have at1:∀(A:Nat) (g:List (List Cl)),L2.atI [D.int (A:Int),.tup (g.map roD)] 1=some (.tup (g.map roD)):=λ_ _=>rfl
 refine zaz (λl S'=>∃n2 es,l=[some (mD A t),some (mD B g),~~~n2,none,none,none,none,none,none]/\Gr S S'/\S'[n2]? = some (.dct (es.map kvE))/\Bq A t es es.length 0) ?_ ?_
 ·rw [zbq]
  simp_all! only [mD]
  refine (zs4 ok).mono ?_
  rintro v S' ⟨g1,n,es,rfl,hn,b⟩
  exact ⟨nofun,n,es,rfl,g1,hn,b⟩
 rintro l S1 ⟨n2,es,rfl,g1,h2,b⟩
 refine zcm (λl S'=>l=[some (mD A t),some (mD B g),~~~n2,none,none,none,none,none,none]/\Gr S1 S'/\All A t/\All B g) (DueP A B t g S) ?_ ?_ (λd _ _ o=>o)
 ·refine zeh (λb S'=>Gr S1 S'/\(b=true↔¬(All A t/\All B g))) ?_ ?_ ?_
  ·rw [zex]
   simp_all! only [mD,ztn h2,qlm]
   by_cases hs:es.length<t.length
   ·have hs':(es.length:Int)<(t.length:Int):=by omega
    simp only [hs',decide_true,if_true]
    exact ⟨.refl _,iff_of_true nofun λz=>b.all.mp hs z.1⟩
   ·have hs':¬(es.length:Int)<(t.length:Int):=by omega
    have al:All A t:=Classical.byContradiction λz=>hs (b.all.mpr z)
    simp only [hs',decide_false,qbf,if_false]
    refine (zs4 ok').mono ?_
    rintro v S' ⟨g2,n,es',rfl,hn,b'⟩
    simp_all! only [ztn hn,qlm]
    refine ⟨g2,?_⟩
    constructor
    ·intro z w
     exact b'.all.mp (by omega) w.2
    ·intro z
     have:es'.length<g.length:=b'.all.mpr λw=>z ⟨al,w⟩
     omega
  ·rintro S' ⟨g2,hb⟩
   simp! only [zao]
   exact .inr ⟨_,rfl,.un (g1.trans g2) (hb.mp rfl) rfl⟩
  ·rintro S' ⟨g2,hb⟩
   rw [zdk]
   have:All A t/\All B g:=Classical.byContradiction λz=>by have:=hb.mpr z;cases this
   exact .inl ⟨rfl,rfl,g2,this⟩
 rintro l S2 ⟨rfl,g2,a1,a2⟩
 have h2:=g2.get h2
 have g12:=g1.trans g2
 by_cases hAB:¬(A=B/\g.length=t.length)
 ·refine zcm (λ_ _=>False) (DueP A B t g S) ?_ (λ_ _ z=>z.elim) (λd _ _ o=>o)
  have fin:DueP A B t g S .non S2:=.ok g12 a1 a2 (.no (λ⟨h1,h2,_⟩=>hAB ⟨h1,h2⟩) rfl)
  unfold mD
  by_cases h1:A=B
  ·have h3:¬(t.length:Int)=(g.length:Int):=λz=>hAB ⟨h1,by omega⟩
   subst h1
   simp! only [qlm,decide_true,Bool.not_true,qbf,if_false,h3,decide_false,Bool.not_false,if_true]
   exact .inr ⟨_,rfl,fin⟩
  ·have h3:¬(A:Int)=(B:Int):=by omega
   simp! only [qlm,h3,decide_false,Bool.not_false,if_true]
   exact .inr ⟨_,rfl,fin⟩
 obtain ⟨rfl,hl⟩:=Classical.not_not.mp hAB
 have e2:(t.length:Int)=(g.length:Int):=by omega
 refine zav (l':=[some (mD A t),some (mD A g),~~~n2,none,none,none,none,none,none]) (S':=S2) ?_ ?_
 ·unfold mD
  simp! only [qlm,e2,decide_true,Bool.not_true,qbf,if_false]
  first|trivial|exact ⟨nofun,nofun,nofun⟩
 obtain ⟨o,ho⟩:∃o:Nat->Option Nat,∀r,o r=wk g 0 (wy es r):=⟨_,λ_=>rfl⟩
 have wm:∀r,r<t.length->wk t 0 (wy es r)=some r/\∀a∈wy es r,a<A:=λr hr=>b.wk _ (ztk b a1 hr)
 have hol:∀r x,r<t.length->o r=some x->x<g.length:=λr x hr hx=>zng ok' (wy es r) 0 x ok'.r1 (wm r hr).2 (by rw [<-ho];exact hx)
 have hNM:∀f',NM A t g f'->∀r,r<t.length->o r=f'[r]?:=λf' nm r hr=>by
  rw [ho];exact nm.walk ok (wy es r) 0 0 r nm.z (wm r hr).2 (wm r hr).1
 refine zaz (λl S'=>∃n3,l=[some (mD A t),some (mD A g),~~~n2,~~~n3,none,none,none,none,none]/\Gr S S'/\S'[n3]? = some (.lst ((List.range t.length).map λr=>oD (o r)))) ?_ ?_
 ·rw [zbq]
  refine zjh (za3 0 t.length) (λd=>match d with | .int i=>oD (o i.toNat)|d=>d) (λS'=>S' = S2) (λl=>∃x0,l=[x0,some (mD A g),~~~n2]) (zk0 (n:=t.length) (S1:=S2) ?_ (by omega)) rfl ⟨_,rfl⟩ (λ_ _ _=>rfl) (by rw [zfi];omega) ?_ ?_
  ·show some ([D.int ((t.map roD).length:Int)],S2)=_
   rw [qlm]
  ·rintro x l S' hx ⟨x0,rfl⟩ rfl
   rw [zjq] at hx
   obtain ⟨r,hr,rfl⟩:=List.mem_map.mp hx
   have hr:=List.mem_range.mp hr
   rw [za4]
   refine ⟨rfl,⟨_,rfl⟩,?_⟩
   have hk:=znh b.nd (ztk b a1 hr)
   have hk:zcw (es.map kvE) (Sum.inl (r:Int))=some (.tup ((wy es r).map nD)):=hk
   simp_all! only [mD,nD,zsb,zni h2,hk]
   refine ⟨_,_,yge ok' (wm r hr).2,?_⟩
   show oD (wk g 0 (wy es r))=oD (o (Int.toNat (r:Int)))/\S' = S'
   rw [Int.toNat_natCast,ho]
   exact ⟨rfl,rfl⟩
  ·rintro S' rfl
   have:(za3 0 t.length).map (λd=>match d with | .int i=>oD (o i.toNat)|d=>d)=(List.range t.length).map λr=>oD (o r):=by
    rw [zjq,List.map_map]
    apply List.map_congr_left
    intro r _
    show oD (o (Int.toNat (r:Int)))=_
    rw [Int.toNat_natCast]
   rw [this,za4]
   exact ⟨rfl,_,rfl,g12.push _,za0⟩
 rintro l S3 ⟨n3,rfl,g3,h3⟩
 have hfl:((List.range t.length).map λr=>oD (o r)).all zgf=true:=by
  rw [List.all_map,List.all_eq_true]
  intro r _
  show zgf (oD (o r))=true
  cases o r <;> rfl
 by_cases hno:¬∀r,r<t.length->(o r).isSome=true
 ·obtain ⟨r,hr⟩:=Classical.not_forall.mp hno
  obtain ⟨hr,hr2⟩:=Classical.not_imp.mp hr
  have hr3:o r=none:=by cases q:o r with|none=>rfl|some x=>rw [q] at hr2;exact absurd rfl hr2
  have hany:((List.range t.length).map λr=>oD (o r)).any (λy=>zef y .non)=true:=by
   rw [List.any_map,List.any_eq_true]
   refine ⟨r,List.mem_range.mpr hr,?_⟩
   show zef (oD (o r)) .non=true
   rw [hr3];rfl
  refine zcm (λ_ _=>False) (DueP A A t g S) ?_ (λ_ _ z=>z.elim) (λd _ _ o=>o)
  simp! only [znm h3 hfl,hany,if_true]
  refine .inr ⟨_,rfl,.ok g3 a1 a2 (.no (λ⟨_,_,f',nm⟩=>?_) rfl)⟩
  have:=hNM f' nm r hr
  rw [hr3,qge (by rw [nm.len];exact hr)] at this
  cases this
 have hno:=Classical.not_not.mp hno
 have hany:((List.range t.length).map λr=>oD (o r)).any (λy=>zef y .non)=false:=by
  rw [List.any_map,List.any_eq_false]
  intro r hr
  have:=hno r (List.mem_range.mp hr)
  show ¬zef (oD (o r)) .non=true
  cases q:o r with
  | none=>rw [q] at this;cases this
  | some x=>intro z;cases z
 obtain ⟨f,hf⟩:∃f:List Nat,f=(List.range t.length).map λr=>(o r).getD 0:=⟨_,rfl⟩
 have fl:f.length=t.length:=by rw [hf];simp
 have fo:∀r,r<t.length->f[r]? = o r:=λr hr=>by
  rw [hf,qgm,List.getElem?_range hr]
  have:=hno r hr
  cases q:o r with
  | none=>rw [q] at this;cases this
  | some x=>show some ((o r).getD 0)=_;rw [q];rfl
 have ef:((List.range t.length).map λr=>oD (o r))=f.map nD:=by
  apply List.ext_getElem?
  intro r
  rw [qgm,qgm]
  by_cases hr:r<t.length
  ·rw [List.getElem?_range hr,fo r hr]
   have:=hno r hr
   cases q:o r with
   | none=>rw [q] at this;cases this
   | some x=>show some (oD (o r))=_;rw [q];rfl
  ·rw [List.getElem?_eq_none (by simpa using hr),List.getElem?_eq_none (by rw [fl];omega)];rfl
 have h3n:=h3
 rw [ef] at h3
 have uq:∀f',NM A t g f'->f' = f:=λf' nm=>by
  apply List.ext_getElem?
  intro r
  by_cases hr:r<t.length
  ·rw [<-hNM f' nm r hr,fo r hr]
  ·rw [List.getElem?_eq_none (by rw [nm.len];omega),List.getElem?_eq_none (by rw [fl];omega)]
 have dl:=PyProof.Rows.firstMet_length_le (λi=>(f.map λ(x:Nat)=>(x:Int)).getD i 0) (f.map λ(x:Nat)=>(x:Int)).length
 have dn:=yd8 (f.map λ(x:Nat)=>(x:Int))
 obtain ⟨kd,hkd⟩:∃kd,(dis (f.map λ(x:Nat)=>(x:Int)) (f.map λ(x:Nat)=>(x:Int)).length).length=kd:=⟨_,rfl⟩
 have dl:kd<=f.length:=by rw [<-hkd];rw [qlm] at dl ⊢;exact dl
 rw [hkd,qlm,ygu] at dn
 by_cases hnd:¬f.Nodup
 ·have hlt:(kd:Int)<(f.length:Int):=by
   have:kd≠f.length:=λz=>hnd (dn.mp z)
   omega
  refine zcm (λ_ _=>False) (DueP A A t g S) ?_ (λ_ _ z=>z.elim) (λd _ _ o=>o)
  rw [zdw,zex]
  simp only [zci,zb7,zb8,zb0,zbz,zao,zcb,qg0,qg1,zbr,znm h3n hfl,hany,zcl,qbf,if_false,ztl h3 (by omega)]
  rw [hkd]
  simp only [ztm za0 (show kd<scanBound by omega),ze7,zbl (zbj h3),zck,qlm,zdl,zcl,hlt,decide_true,if_true,zey,zcb]
  exact .inr ⟨_,rfl,.ok (g3.push _) a1 a2 (.no (λ⟨_,_,f',nm⟩=>hnd (uq f' nm ▸ nm.nd)) rfl)⟩
 have hnd:=Classical.not_not.mp hnd
 have hge:¬(kd:Int)<(f.length:Int):=by
  have:=dn.mpr hnd
  omega
 refine zaz (λl S'=>l=[some (mD A t),some (mD A g),~~~n2,~~~n3,none,none,none,none,none]/\Gr S S'/\S'[n3]? = some (.lst (f.map nD))) ?_ ?_
 ·rw [zdw,zex]
  simp only [zci,zb7,zb8,zb0,zbz,zao,zcb,qg0,qg1,zbr,znm h3n hfl,hany,zcl,qbf,if_false,ztl h3 (by omega)]
  rw [hkd]
  simp only [ztm za0 (show kd<scanBound by omega),ze7,zbl (zbj h3),zck,qlm,zdl,zcl,hge,decide_false,qbf,if_false,zdk]
  exact ⟨nofun,nofun,g3.push _,zbj h3⟩
 rintro l S4 ⟨rfl,g4,h4⟩
 have flt:∀r k,f[r]? = some k->r<t.length/\k<g.length:=λr k h=>by
  have hr:r<t.length:=by have:=(qme h).1;omega
  exact ⟨hr,hol r k hr (by rw [<-fo r hr];exact h)⟩
 refine zcm (λl S'=>∃x4 x5 x6 x7 x8,l=[some (mD A t),some (mD A g),~~~n2,~~~n3,x4,x5,x6,x7,x8]/\Gr S S'/\S'[n3]? = some (.lst (f.map nD))/\∀r a k,r<t.length->a<A->f[r]? = some k->cell g k a=((cell t r a).1.map λx=>f.getD x 0,(cell t r a).2)) (DueP A A t g S) ?_ ?_ (λd _ _ o=>o)
 ·refine zm2 (enl (t.map roD)) (λi l S'=>∃x4 x5 x6 x7 x8,l=[some (mD A t),some (mD A g),~~~n2,~~~n3,x4,x5,x6,x7,x8]/\Gr S S'/\S'[n3]? = some (.lst (f.map nD))/\∀r a k,r<i->a<A->f[r]? = some k->cell g k a=((cell t r a).1.map λx=>f.getD x 0,(cell t r a).2)) (DueP A A t g S) (zr3 (S1:=S4) rfl) ⟨_,_,_,_,_,rfl,g4,h4,λr a k hr=>absurd hr (Nat.not_lt_zero _)⟩ (λ_ _ _ _=>zr2) ?_ ?_ (λd l' S' q=>.inr ⟨d,rfl,q⟩)
  ·rintro i x l S5 hx ⟨x4,x5,x6,x7,x8,rfl,g5,h5,inv⟩
   have hi:i<t.length:=by have:=(qme hx).1;rw [zji,qlm] at this;exact this
   obtain ⟨cs,hcs⟩:∃cs,t[i]? = some cs:=⟨_,qge hi⟩
   have hcl:=ok.len cs (qmg hcs)
   rw [zm0,qgm,hcs] at hx
   have hx:D.tup [.int (i:Int),roD cs]=x:=by simpa using hx
   subst hx
   obtain ⟨k,hk⟩:∃k,f[i]? = some k:=⟨_,qge (by omega)⟩
   obtain ⟨_,hkg⟩:=flt i k hk
   obtain ⟨ds,hds⟩:∃ds,g[k]? = some ds:=⟨_,qge hkg⟩
   have hdl:=ok'.len ds (qmg hds)
   simp only [zc4,zc6,zc5,za4,List.length_cons,List.length_nil,qs0,qs1]
   refine ⟨nofun,?_⟩
   have him:∀S':Sto,S'[n3]? = some (.lst (f.map nD))->zab (zaa 5) (zab (eOp zal (eOp zal (zaa 1) (eC (.int 1))) (eOp zal (zaa 3) (zaa 4))) zae) [some (mD A t),some (mD A g),~~~n2,~~~n3,‹i›,some (roD cs),x6,x7,x8] S' = some ([.tup (cs.map kD),.tup (ds.map kD)],S'):=λS' hS=>by
    have q1:L2.atI (f.map nD) (i:Int)=some (.int (k:Int)):=atI_get (by rw [qgm,hk];rfl)
    have q2:L2.atI (g.map roD) (k:Int)=some (.tup (ds.map kD)):=atI_get (by rw [qgm,hds];rfl)
    have:Wa (zab (zaa 5) (zab (eOp zal (eOp zal (zaa 1) (eC (.int 1))) (eOp zal (zaa 3) (zaa 4))) zae)) [some (mD A t),some (mD A g),~~~n2,~~~n3,‹i›,some (roD cs),x6,x7,x8] S' λvs S''=>vs=[.tup (cs.map kD),.tup (ds.map kD)]/\S'' = S':=by
     simp_all! only [mD,zbl hS,q1,q2]
     exact ⟨rfl,nofun⟩
    obtain ⟨vs,S'',e,rfl,rfl⟩:=this
    exact e
   refine zm2 (zl (cs.map kD) (ds.map kD)) (λc l S'=>∃x6 x7 x8,l=[some (mD A t),some (mD A g),~~~n2,~~~n3,‹i›,some (roD cs),x6,x7,x8]/\Gr S S'/\S'[n3]? = some (.lst (f.map nD))/\∀a,a<c->cell g k a=((cell t i a).1.map λx=>f.getD x 0,(cell t i a).2)) (DueP A A t g S) (ygp (him S5 h5)) ⟨_,_,_,rfl,g5,h5,λa ha=>absurd ha (Nat.not_lt_zero _)⟩ (λ_ _ _ _=>ygo rfl rfl) ?_ ?_ (λd l' S' q=>.inr ⟨d,rfl,q⟩)
   ·rintro c x l S6 hx ⟨y6,y7,y8,rfl,g6,h6,inv2⟩
    have hc:c<A:=by have:=(qme hx).1;rw [znl,qlm,qlm] at this;omega
    have c1:cs[c]? = some (cell t i c):=by
     obtain ⟨cs',z1,z2,_⟩:=zh5 ok hi hc
     rw [hcs] at z1;cases z1;exact z2
    have c2:ds[c]? = some (cell g k c):=by
     obtain ⟨ds',z1,z2,_⟩:=zh5 ok' hkg hc
     rw [hds] at z1;cases z1;exact z2
    rw [zte,qgm,qgm,c1,c2] at hx
    have hx:D.tup [kD (cell t i c),kD (cell g k c)]=x:=by simpa using hx
    subst hx
    have k1:=ok.ck cs (qmg hcs) _ (qmg c1)
    have k2:=ok'.ck ds (qmg hds) _ (qmg c2)
    simp only [zc4,zc6,zc5,za4,List.length_cons,List.length_nil,qs0,qs1]
    refine ⟨nofun,?_⟩
    obtain ⟨q,hq⟩:∃q:Option Nat,q=(cell t i c).1.map λx=>f.getD x 0:=⟨_,rfl⟩
    refine zav (l':=[some (mD A t),some (mD A g),~~~n2,~~~n3,‹i›,some (roD cs),some (kD (cell t i c)),some (kD (cell g k c)),some (oD (cell t i c).1)]) (S':=S6) ?_ ?_
    ·simp! only [kD]
     first|trivial|exact ⟨nofun,nofun,nofun⟩
    refine zav (l':=[some (mD A t),some (mD A g),~~~n2,~~~n3,‹i›,some (roD cs),some (kD (cell t i c)),some (kD (cell g k c)),some (oD q)]) (S':=S6) ?_ ?_
    ·cases hx:(cell t i c).1 with
     | none =>
      rw [hx] at hq
      subst hq
      simp! only [oD,zb4,Bool.not_true,qbf,if_false]
      first|trivial|exact ⟨nofun,nofun,nofun⟩
     | some x =>
      rw [hx] at hq
      subst hq
      have hxl:=k1.1 x hx
      have q1:L2.atI (f.map nD) (x:Int)=some (.int (f.getD x 0:Nat)):=atI_get (by rw [qgm,zjr (by omega)];rfl)
      simp! only [oD,zb4,Bool.not_false,if_true,zbl h6,q1]
      first|trivial|exact ⟨nofun,nofun,nofun⟩
    have sm1:SmC (cell g k c):=⟨λx hx=>by have:=k2.1 x hx;omega,λx hx=>by have:=k2.2 x hx;omega⟩
    have sm2:SmC (q,(cell t i c).2):=by
     refine ⟨λx hx=>?_,λx hx=>by have:=k1.2 x hx;omega⟩
     have hx:q=some x:=hx
     rw [hq] at hx
     obtain ⟨y,hy,rfl⟩:=Option.map_eq_some_iff.mp hx
     have hyl:=k1.1 y hy
     have:=(flt y _ (zjr (by omega))).2
     show f.getD y 0<1000
     omega
    have hkd2:kD (q,(cell t i c).2)=.tup [oD q,oD (cell t i c).2]:=rfl
    refine zeh (λb S'=>S' = S6/\b = !decide (cell g k c=(q,(cell t i c).2))) ?_ ?_ ?_
    ·simp only [zci,zb7,zb8,zb0,zbz,zao,zcb,qg0,qg1,zbr,zdm,List.length_cons,List.length_nil]
     unfold kD
     simp only [ze6,zgp,zck,zdm,List.length_cons,List.length_nil]
     refine ⟨by omega,?_⟩
     rw [<-hkd2]
     rw [show D.tup [oD (cell g k c).1,oD (cell g k c).2]=kD (cell g k c) from rfl]
     rw [ygq (zth sm1) (zth sm2) (zti _) (zti _),ygt]
     exact ⟨_,rfl,rfl,rfl⟩
    ·rintro S7 ⟨rfl,hb⟩
     have hne:¬cell g k c=(q,(cell t i c).2):=by simpa using hb.symm
     simp! only [zao]
     refine .inr ⟨_,rfl,.ok g6 a1 a2 (.no (λ⟨_,_,f',nm⟩=>hne ?_) rfl)⟩
     have:=uq f' nm
     subst this
     rw [hq]
     exact nm.ce i c k hc hk
    ·rintro S7 ⟨rfl,hb⟩
     have he:cell g k c=(q,(cell t i c).2):=by simpa using hb.symm
     rw [zdk]
     refine .inl ⟨(by first|exact .inl rfl|exact .inl trivial|trivial),_,_,_,rfl,g6,h6,λa ha=>?_⟩
     by_cases hac:a=c
     ·subst hac;rw [he,hq]
     ·exact inv2 a (by omega)
   ·rintro l S6 ⟨y6,y7,y8,rfl,g6,h6,inv2⟩
    refine .inl ⟨(by first|exact .inl rfl|exact .inl trivial|trivial),_,_,_,_,_,rfl,g6,h6,λr a j hr ha hj=>?_⟩
    by_cases hri:r=i
    ·subst hri
     rw [hk] at hj;cases hj
     exact inv2 a (by rw [znl,qlm,qlm];omega)
    ·exact inv r a j (by omega) ha hj
  ·rintro l S5 ⟨x4,x5,x6,x7,x8,rfl,g5,h5,inv⟩
   rw [zji,qlm] at inv
   exact .inl ⟨rfl,_,_,_,_,_,rfl,g5,h5,inv⟩
 rintro l S5 ⟨x4,x5,x6,x7,x8,rfl,g5,h5,inv⟩
 simp! only [zbl h5]
 refine .ok g5 a1 a2 (.yes f rfl hl ⟨fl,hnd,λk hk=>?_,?_,λr a k ha hr=>inv r a k (flt r k hr).1 ha hr⟩ rfl)
 ·obtain ⟨r,hr,e⟩:=List.mem_iff_getElem.mp hk
  exact (flt r k (by rw [qge hr,e])).2
 ·rw [fo 0 ok.r1,ho]
  have:wy es 0=[]:=ztj b.nd (e:=(0,[])) (qmg b.z)
  rw [this];rfl
theorem ygw {i:Nat}{ok:Str->Bool}{mN mS:SM}{r:ZM}{l:Lo}{S:Sto}{Q:Fl->Lo->Sto->Prop}(h:Ws mN l S Q):Ws (zgi i ok mN r mS) l S Q:=by
 obtain ⟨f,l',S',e,q⟩:=h
 exact ⟨f,l',S',by unfold zgi;rw [e],q⟩
theorem ygx {i:Nat}{ok:Str->Bool}{mN mS:SM}{r:ZM}{l:Lo}{S S':Sto}{c:Str}{Q:Fl->Lo->Sto->Prop}(h1:mN l S=none) (h2:r l S=some (c,S')) (hc:ok c=true) (h:Ws mS (l.set i (some (.ref S'.length))) (S'++[.exc c]) λf l2 S2=>f=.nx/\Q .nx (l2.set i none) S2):Ws (zgi i ok mN r mS) l S Q:=by
 obtain ⟨f,l2,S2,e,rfl,q⟩:=h
 refine ⟨.nx,l2.set i none,S2,?_,q⟩
 unfold zgi
 rw [h1]
 dsimp only
 rw [h2]
 dsimp only
 rw [if_pos hc,e];rfl
theorem zto {tab:List (Str × Bool)}{n:Nat}{S:Sto}{c:Str}{b:Bool}{Q:D->Sto->Prop}(h:S[n]? = some (.exc c)) (hb:tab.lookup c=some b):Wo (zb9 tab (.ref n) S) Q=Q (.bl b) S:=by
 unfold zb9
 simp only [h,hb]
 exact za9
noncomputable abbrev UN:Str:="unreached"
noncomputable def fg (w:Str) (b:Bool):D:=.tup [.str w,.bl b]
theorem Res.uniq {A B:Nat}{t g:List (List Cl)}{v w:D}(r:Res A B t g v) (q:Res A B t g w) (ok:OkM A t) (al:All A t):v=w:=by
 cases r with
 | yes f e hl nm hv=>cases q with
  | yes f' e' hl' nm' hv'=>rw [hv,hv',nm.uniq nm' ok al]
  | no h hv'=>exact absurd ⟨e,hl,f,nm⟩ h
 | no h hv=>cases q with
  | yes f' e' hl' nm' hv'=>exact absurd ⟨e',hl',f',nm'⟩ h
  | no h' hv'=>rw [hv,hv']
theorem ygy {n:Nat}{S:Sto}(h:S[n]? = some (.exc "Unreached")):Wo (zjk [.ref n] S) λv S'=>Gr S S'/\∃k,v=.ref k/\S'[k]? = some (.lst [.str UN]):=by
 have sz:=zdc
 have s2:2<=sizeLine:=by omega
 have tF:List.lookup ("Unreached":Str) [(("Unreached":Str),false)]=some false:=by simp [List.lookup]
 have tT:List.lookup ("Unreached":Str) [(("Unreached":Str),true)]=some true:=by simp [List.lookup]
 have iF:∀{S':Sto} {Q:D->Sto->Prop},Gr S S'->Wo (zb9 [(("Unreached":Str),false)] (.ref n) S') Q=Q (.bl false) S':=λg=>zto (g.get h) tF
 have iT:∀{S':Sto} {Q:D->Sto->Prop},Gr S S'->Wo (zb9 [(("Unreached":Str),true)] (.ref n) S') Q=Q (.bl true) S':=λg=>zto (g.get h) tT
 unfold zjk zsd
 dsimp! only [zcj]
 refine zaz (λl S'=>∃m,l=[~~~n,~~~m]/\Gr S S'/\S'[m]? = some (.lst [fg "many" false,fg "closed" false])) ?_ ?_
 ·simp! only [iF (.refl S),s2,true_and]
  exact ⟨_,rfl,(Gr.refl S).push _,za0⟩
 rintro l S1 ⟨m1,rfl,g1,h1⟩
 refine zaz (λl S'=>∃m,l=[~~~n,~~~m]/\Gr S S'/\S'[m]? = some (.lst [fg "many" false,fg "closed" false,fg "unlike" false,fg "full" false])) ?_ ?_
 ·simp! only [iF g1,iT g1,s2,true_and]
  rw [zgr (zbj h1) za0]
  refine ⟨by show 2+2<=sizeLine;omega,?_⟩
  exact ⟨_,rfl,(g1.push _).push _,za0⟩
 rintro l S2 ⟨m2,rfl,g2,h2⟩
 refine zaz (λl S'=>∃m,l=[~~~n,~~~m]/\Gr S S'/\S'[m]? = some (.lst [fg "many" false,fg "closed" false,fg "unlike" false,fg "full" false,fg "unreached" true,fg "clash" false])) ?_ ?_
 ·simp! only [iF g2,iT g2,s2,true_and]
  rw [zgr (zbj h2) za0]
  refine ⟨by show 4+2<=sizeLine;omega,?_⟩
  exact ⟨_,rfl,(g2.push _).push _,za0⟩
 rintro l S3 ⟨m3,rfl,g3,h3⟩
 refine zaz (λl S'=>∃m,l=[~~~n,~~~m]/\Gr S S'/\S'[m]? = some (.lst [fg "many" false,fg "closed" false,fg "unlike" false,fg "full" false,fg "unreached" true,fg "clash" false,fg "words" false,fg "open" false])) ?_ ?_
 ·simp! only [iF g3,iT g3,s2,true_and]
  rw [zgr (zbj h3) za0]
  refine ⟨by show 6+2<=sizeLine;omega,?_⟩
  exact ⟨_,rfl,(g3.push _).push _,za0⟩
 rintro l S4 ⟨m4,rfl,g4,h4⟩
 refine zaz (λl S'=>∃m,l=[~~~n,~~~m]/\Gr S S'/\S'[m]? = some (.lst [fg "many" false,fg "closed" false,fg "unlike" false,fg "full" false,fg "unreached" true,fg "clash" false,fg "words" false,fg "open" false,fg "back" false,fg "text" false])) ?_ ?_
 ·simp! only [iF g4,iT g4,s2,true_and]
  rw [zgr (zbj h4) za0]
  refine ⟨by show 8+2<=sizeLine;omega,?_⟩
  exact ⟨_,rfl,(g4.push _).push _,za0⟩
 rintro l S5 ⟨m5,rfl,g5,h5⟩
 refine zaz (λl S'=>∃m,l=[~~~n,~~~m]/\Gr S S'/\S'[m]? = some (.lst [fg "many" false,fg "closed" false,fg "unlike" false,fg "full" false,fg "unreached" true,fg "clash" false,fg "words" false,fg "open" false,fg "back" false,fg "text" false,fg "name" false,fg "line" false])) ?_ ?_
 ·simp! only [iF g5,iT g5,s2,true_and]
  rw [zgr (zbj h5) za0]
  refine ⟨by show 10+2<=sizeLine;omega,?_⟩
  exact ⟨_,rfl,(g5.push _).push _,za0⟩
 rintro l S6 ⟨m6,rfl,g6,h6⟩
 have hcomp:∀Q:D->Sto->Prop,(∀S',Gr S6 S'->S'[S6.length]? = some (.lst [.str UN])->Q (.ref S6.length) S')->We (zcq (zec (zaa 1)) [none,none] (zco 2 (zbb (zah 0) (zbb (zah 1) (zcg)))) (tE (zaa 1)) (zaa 0)) [~~~n,~~~m6] S6 Q:=by
  intro Q hQ
  refine yej [fg "many" false,fg "closed" false,fg "unlike" false,fg "full" false,fg "unreached" true,fg "clash" false,fg "words" false,fg "open" false,fg "back" false,fg "text" false,fg "name" false,fg "line" false] (λd=>match d with | .tup [x,.bl true]=>some x|_=>none) (λS'=>S' = S6) (λl=>∃x0 x1,l=[x0,x1]) (zr4 (n:=m6) rfl (zbl h6)) rfl ⟨_,_,rfl⟩ (λi S' hS=>by rw [hS];exact zr5 (zbl h6)) (by show 12<=sizeLine;omega) ?_ ?_
  ·rintro x l S' hx ⟨x0,x1,rfl⟩ rfl
   have hx:∃w b,x=fg w b:=by
    simp only [List.mem_cons,List.not_mem_nil,or_false] at hx
    rcases hx with rfl|rfl|rfl|rfl|rfl|rfl|rfl|rfl|rfl|rfl|rfl|rfl <;> exact ⟨_,_,rfl⟩
   obtain ⟨w,b,rfl⟩:=hx
   simp only [fg,zc4,zc6,zc5,za4,List.length_cons,List.length_nil,qs0,qs1]
   refine ⟨nofun,⟨_,_,rfl⟩,?_⟩
   simp only [zci,zao,qg0,qg1,zbr]
   first|refine ⟨b,rfl,rfl,λhb=>by subst hb;rfl,λhb=>?_⟩|refine ⟨b,rfl,nofun,λhb=>by subst hb;rfl,λhb=>?_⟩|refine ⟨nofun,λhb=>by subst hb;rfl,λhb=>?_⟩
   subst hb
   exact ⟨rfl,nofun⟩
  ·rintro S' rfl
   exact hQ _ ⟨_,rfl⟩ za0
 rw [zey,zb7]
 refine hcomp _ λS7 g7 h7=>?_
 have g67:=g6.trans g7
 simp only [zb7,zb8,zb0,zbz,zcb,zff,List.length_cons,List.length_nil,zf6,zf5,zao,qg0,qg1,zbr]
 refine ⟨by omega,?_⟩
 rw [iT (g67.push _)]
 simp only [zcl,Bool.not_true,zgs,qbf,if_false]
 have e:zhd (.ref S7.length) (.int 0) (S7++[.lst [.str "no value"]])=some (.ref (S7++[Ob.lst [.str "no value"]]).length,S7++[.lst [.str "no value"]]++[.lst []]):=by
  unfold zhd
  dsimp only
  rw [za0]
  dsimp only
  rw [if_pos ⟨by decide,by decide,by decide⟩]
  rfl
 rw [e,za9]
 rw [zgr (zbj (zbj h7)) za0]
 refine ⟨by show 1+0<=sizeLine;omega,?_⟩
 exact ⟨((g67.push _).push _).push _,_,rfl,za0⟩
inductive ToP (A B:Nat) (t g:List (List Cl)) (S:Sto) (v:D) (S':Sto):Prop
 | un (g0:Gr S S') (na:¬(All A t/\All B g)) (k:Nat) (e:v=.ref k) (hk:S'[k]? = some (.lst [.str UN]))
 | ok (g0:Gr S S') (a1:All A t) (a2:All B g) (w:D) (e:v=.tup [.str "told",w]) (r:Res A B t g w)
theorem ztp {A B:Nat}{t g:List (List Cl)}{S:Sto}(ok:OkM A t) (ok':OkM B g):Wo (zh1 [mD A t,mD B g] S) (ToP A B t g S):=by
 have sz:=zdc
 unfold zh1 zsh
 dsimp! only [zcj]
 refine zav (l':=[some (mD A t),some (mD B g),some .non,none,none]) (S':=S) (by simp! only [zao];exact ⟨nofun,nofun,nofun⟩) ?_
 refine zav (l':=[some (mD A t),some (mD B g),some .non,some .non,none]) (S':=S) (by simp! only [zao];exact ⟨nofun,nofun,nofun⟩) ?_
 by_cases al:All A t/\All B g
 ·refine zaz (λl S'=>∃w,Res A B t g w/\Gr S S'/\l=[some (mD A t),some (mD B g),some .non,some w,none]) ?_ ?_
  ·apply ygw
   simp! only [zao]
   refine (ygn ok ok' al.1 al.2).mono ?_
   rintro v S' ⟨g1,r⟩
   exact ⟨nofun,v,r,g1,rfl⟩
  rintro l S1 ⟨w,r,g1,rfl⟩
  simp! only [zb4,if_true]
  exact ⟨by omega,.ok g1 al.1 al.2 w rfl r⟩
 ·obtain ⟨h1,S2,g2,h2⟩:=ygm (S:=S) ok ok' al
  refine zaz (λl S'=>∃n,S'[n]? = some (.exc "Unreached")/\Gr S S'/\l=[some (mD A t),some (mD B g),~~~n,some .non,none]) ?_ ?_
  ·refine ygx (c:="Unreached") (S':=S2) ?_ (show zjl [mD A t,mD B g] S=_ from h2) (by decide +kernel) ?_
   ·show (zft [mD A t,mD B g] S).bind _=_
    rw [h1];rfl
   ·simp! only [zao]
    first|exact ⟨nofun,nofun,_,za0,g2.push _,rfl⟩|exact ⟨nofun,_,za0,g2.push _,rfl⟩|exact ⟨_,za0,g2.push _,rfl⟩
  rintro l S3 ⟨n,hn,g3,rfl⟩
  simp! only [zb4,qbf,if_false]
  refine (ygy hn).mono ?_
  rintro v S' ⟨g4,k,rfl,hk⟩
  exact .un (g3.trans g4) al k rfl hk
theorem ztq {S:Sto}{k:Nat}{o:Option Nat}(h:∀x,o=some x->x<1000):Sh S (k+1) 10 (oD o):=by
 cases o with
 | none=>exact sh_non
 | some x=>exact zm4 (by have:=h x rfl;omega)
theorem ztr {A:Nat}{g:List (List Cl)}{S:Sto}{k:Nat}(ok:OkM A g):Sh S (k+5) 6000 (mD A g):=by
 have r24:=ok.r24
 have a4:=ok.a4
 have hk:∀cs∈g,∀c∈cs,Sh S (k+2) 27 (kD c):=λcs hcs c hc=>by
  obtain ⟨k1,k2⟩:=ok.ck cs hcs c hc
  refine (zgu (B:=10) (n:=2) (λx hx=>?_) (qlr _)).le (by decide)
  simp only [List.mem_cons,List.not_mem_nil,or_false] at hx
  rcases hx with rfl|rfl
  ·exact ztq λx hx=>by have:=k1 x hx;omega
  ·exact ztq λx hx=>by have:=k2 x hx;omega
 have hr:∀cs∈g,Sh S (k+3) 119 (roD cs):=λcs hcs=>by
  refine (zgu (B:=27) (n:=4) (λx hx=>?_) (by rw [qlm,ok.len cs hcs];exact a4)).le (by decide)
  obtain ⟨c,hc,rfl⟩:=List.mem_map.mp hx
  exact hk cs hcs c hc
 have hg:Sh S (k+4) 2910 (.tup (g.map roD)):=by
  refine (zgu (B:=119) (n:=24) (λx hx=>?_) (by rw [qlm];exact r24)).le (by decide)
  obtain ⟨cs,hc,rfl⟩:=List.mem_map.mp hx
  exact hr cs hc
 refine (zgu (B:=2910) (n:=2) (λx hx=>?_) (qlr _)).le (by decide)
 simp only [List.mem_cons,List.not_mem_nil,or_false] at hx
 rcases hx with rfl|rfl
 ·exact (zm4 (by omega)).le (by decide)
 ·exact hg
theorem zts {S:Sto}{n:Nat}{k:Nat}(h:S[n]? = some (.lst [.str UN])):zau S (k+2) (.ref n)=some (.list [.str UN]):=by
 unfold zau
 rw [zbl h]
 show (zbm S (k+1) [.str UN]).bind _=_
 have:zbm S (k+1) [.str UN]=some [.str UN]:=by
  unfold zbm
  have e:zau S (k+1) (.str UN)=some (.str UN):=by unfold zau;rfl
  rw [e]
  show (zbm S (k+1) []).bind _=_
  unfold zbm;rfl
 rw [this];rfl
theorem ygz {A B:Nat}{t g:List (List Cl)}{v:D}{S:Sto}(r:Res A B t g v) (ok:OkM A t) (ok':OkM B g):Sh S 140 1000 (.tup [.str "told",v]):=by
 have r24:=ok.r24
 have r24':=ok'.r24
 refine (zgu (B:=400) (n:=2) (λx hx=>?_) (qlr _)).le (by decide)
 simp only [List.mem_cons,List.not_mem_nil,or_false] at hx
 rcases hx with rfl|rfl
 ·exact (yeo (B:=4) (by decide +kernel) (by decide +kernel)).le (by decide)
 ·cases r with
  | yes f e hl nm hv =>
   rw [hv]
   refine (zgu (B:=10) (n:=24) (λx hx=>?_) (by rw [qlm,nm.len];exact r24)).le (by decide)
   obtain ⟨k,hk,rfl⟩:=List.mem_map.mp hx
   exact zm4 (by have:=nm.lt k hk;omega)
  | no h hv=>rw [hv];exact sh_non.le (by decide)
theorem yg0 {A B:Nat}{t g:List (List Cl)}{v:D}{S:Sto}(r:Res A B t g v) (ok':OkM B g):∃p,zau S 60 v=some p/\p.canLay0=true/\p.eqv (.str UN)=false:=by
 have r24':=ok'.r24
 cases r with
 | yes f e hl nm hv =>
  rw [hv]
  exact ⟨pyR f,yfw (λa ha=>by have:=nm.lt a ha;omega),yfx f,by unfold pyR;simp [PyData.eqv]⟩
 | no h hv =>
  rw [hv]
  exact ⟨.none,by unfold zau;rfl,by simp [PyData.canLay0],by simp [PyData.eqv]⟩
theorem znn:(PyData.str UN).canLay0=true:=by
 rw [PyData.canLay0]
 try decide +kernel
theorem zno {S:Sto}{k:Nat}:zau S (k+1) (.str UN)=some (.str UN):=by unfold zau;rfl
theorem zk6 {A B:Nat}{t g:List (List Cl)}{S0 S:Sto}{l0 l1 l2 l3 l4 l5 l6 l7 x10 x11:Option D}(ok:OkM A t) (ok':OkM B g) (g0:Gr S0 S) :
  Ws (zaj (zam (zaf zh4 (zab (zaa 8) (zab (zaa 9) (zae)))) (zah 10)) (zaj (zam (zeo (tE (eOp zge (zaa 10) (eC (.str "unreached")))) (zaf zbk (zab (eC (.str "unreached")) (zae))) (zaf zaq (zab (eC (.str "told")) (zab (zaa 10) (zae))))) (zah 11)) (sIf (tE (eOp dNe (zaf zd4 (zab (zaf zh1 (zab (zaa 8) (zab (zaa 9) (zae)))) (zae))) (zaf zd4 (zab (zaa 11) (zae))))) (zba (eC (.bl false))) (zay))))
   [l0,l1,l2,l3,l4,l5,l6,l7,some (mD A t),some (mD B g),x10,x11] S λf l' S'=>f=.nx/\Gr S0 S'/\∃y10 y11,l' = [l0,l1,l2,l3,l4,l5,l6,l7,some (mD A t),some (mD B g),y10,y11]:=by
 have sz:=zdc
 refine zaz (λl S'=>∃v,DueP A B t g S v S'/\l=[l0,l1,l2,l3,l4,l5,l6,l7,some (mD A t),some (mD B g),some v,x11]) ?_ ?_
 ·simp! only [zao]
  refine (ygv ok ok').mono ?_
  rintro v S' d
  exact ⟨nofun,v,d,rfl⟩
 rintro l S1 ⟨v,d,rfl⟩
 cases d with
 | un g1 na hv =>
  subst hv
  refine zav (l':=[l0,l1,l2,l3,l4,l5,l6,l7,some (mD A t),some (mD B g),some (.str UN),some (.ref S1.length)]) (S':=S1++[.lst [.str UN]]) ?_ ?_
  ·have e:(PyData.str UN).eqv (.str UN)=true:=by simp [PyData.eqv]
   simp! only [zao]
   rw [ztf zno zno znn znn,e]
   simp only [zcl,if_true,zci,zb7,zf5,zao,zcb,za4,zg7,zc4,zc5,zc6,zb8,zch,zb0,zbz,zg3,zex,zg4,zf6,zg5,zdl,zf7,zeg,zgq,zfr,zfo,zfp,zfq,zgt,zgs,zhr,zf8,zf9,ze6,zd6,zga,zgb,zhs,ze7,zg8,zdm,zff,zfg,zgc,zfh,zht,zhu,zg9,zha,List.map_cons,List.map_nil,List.length_cons,List.length_nil,Nat.reduceAdd,Nat.reduceSub,List.replicate,List.cons_append,List.nil_append,qg0,qg1,qs0,qs1,zbr,zck,zcl,zho,zhp,zhq,zhn,zgp,zc9,decide_eq_true_eq,zhx,zhw,zhy]
   first|exact ⟨by omega,nofun,nofun,nofun⟩|exact ⟨true,rfl,by omega,nofun,nofun,nofun⟩
  have h11:=@za0 S1 (.lst [.str UN])
  have g01:Gr S0 (S1++[.lst [.str UN]]):=(g0.trans g1).push _
  generalize hX:S1++[Ob.lst [.str UN]]=S2 at h11 g01
  refine zeh (λb S'=>b=false/\Gr S0 S') ?_ (λS' z=>by cases z.1) (λS' z=>by rw [zdk];exact ⟨rfl,z.2,_,_,rfl⟩)
  simp only [zci,zb7,zb8,zb0,zbz,zao,qg0,qg1,zbr]
  refine (ztp ok ok').mono ?_
  rintro w S3 tp
  cases tp with
  | un g3 na' k e hk =>
   subst e
   have hz:(PyData.list [.str UN]).shown.length<=sizeLine:=Nat.le_trans (show _<=1000000 by decide +kernel) sz
   rw [zhv (zts hk) hz]
   rw [zhv (zts (g3.get h11)) hz]
   simp only [zfh,decide_true,Bool.not_true]
   exact ⟨false,rfl,rfl,g01.trans g3⟩
  | ok g3 a1 a2 w e r=>exact absurd ⟨a1,a2⟩ na
 | ok g1 a1 a2 r =>
  refine zav (l':=[l0,l1,l2,l3,l4,l5,l6,l7,some (mD A t),some (mD B g),some v,some (.tup [.str "told",v])]) (S':=S1) ?_ ?_
  ·obtain ⟨p,h1,h2,h3⟩:=yg0 (S:=S1) r ok'
   simp! only [zao]
   rw [ztf h1 zno h2 znn,h3]
   simp only [zcl,qbf,if_false,zci,zb7,zf5,zao,zcb,za4,zg7,zc4,zc5,zc6,zb8,zch,zb0,zbz,zg3,zex,zg4,zf6,zg5,zdl,zf7,zeg,zgq,zfr,zfo,zfp,zfq,zgt,zgs,zhr,zf8,zf9,ze6,zd6,zga,zgb,zhs,ze7,zg8,zdm,zff,zfg,zgc,zfh,zht,zhu,zg9,zha,List.map_cons,List.map_nil,List.length_cons,List.length_nil,Nat.reduceAdd,Nat.reduceSub,List.replicate,List.cons_append,List.nil_append,qg0,qg1,qs0,qs1,zbr,zck,zcl,zho,zhp,zhq,zhn,zgp,zc9,decide_eq_true_eq,zhx,zhw,zhy]
   first|exact ⟨by omega,nofun,nofun,nofun⟩|exact ⟨false,rfl,by omega,nofun,nofun,nofun⟩
  refine zeh (λb S'=>b=false/\Gr S0 S') ?_ (λS' z=>by cases z.1) (λS' z=>by rw [zdk];exact ⟨rfl,z.2,_,_,rfl⟩)
  simp only [zci,zb7,zb8,zb0,zbz,zao,qg0,qg1,zbr]
  refine (ztp ok ok').mono ?_
  rintro w S3 tp
  cases tp with
  | un g3 na k e hk=>exact absurd ⟨a1,a2⟩ na
  | ok g3 _ _ w' e r' =>
   subst e
   have:w' = v:=r'.uniq r ok a1
   subst this
   obtain ⟨p,h1,h2⟩:=ygz (S:=S3) r ok ok'
   have h3:=h2 S3 (Gr.refl _)
   have hz:p.shown.length<=sizeLine:=by omega
   rw [zhv h3 hz]
   rw [zhv h3 hz]
   simp only [zfh,decide_true,Bool.not_true]
   exact ⟨false,rfl,rfl,(g0.trans g1).trans g3⟩
theorem law_true (ns:List Int) (hl:ns.length<=63):∃S',zfu [.ref 0] [.flst (ns.map D.int)]=some (.bl true,S'):=by
 have sz:=zdc
 have s2:2<=sizeLine:=by omega
 suffices h:Wo (zfu [.ref 0] [.flst (ns.map D.int)]) λv S'=>v=.bl true by
  obtain ⟨v,S',e,rfl⟩:=h
  exact ⟨S',e⟩
 unfold zfu zsq
 dsimp! only [zcj]
 refine zaz (λl S=>l=[~~~0,~~~1,none,none,none,none,none,none,none,none,none,none]/\PQ ns 0 S) ?_ ?_
 ·simp only [zbq,zb8,zb0,zbz,zao,qg0,zbr]
  unfold zk3 zsp
  simp! only [zao]
  first|exact ⟨by omega,nofun,nofun,0,0,rfl,rfl,by decide,by decide,by decide⟩|exact ⟨by show 3<=sizeLine;omega,nofun,nofun,0,0,rfl,rfl,by decide,by decide,by decide⟩
 rintro l S ⟨rfl,p0⟩
 refine zcm (λl S=>True) (λd S=>False) ?_ ?_ (λd l1 S1 o=>o.elim)
 ·refine zjj (λu l S1=>(∃x2 x3 x4 x5 x6 x7 x8 x9 x10 x11,l=[~~~0,~~~1,x2,x3,x4,x5,x6,x7,x8,x9,x10,x11])/\PQ ns (10000*u) S1) (λ_ _=>False) (n:=4) rfl (by decide) ⟨⟨_,_,_,_,_,_,_,_,_,_,rfl⟩,p0⟩ ?_ (λl' S' _=>.inl ⟨rfl,trivial⟩) (λd l' S' z=>z.elim)
  rintro u l S1 hu ⟨⟨x2,x3,x4,x5,x6,x7,x8,x9,x10,x11,rfl⟩,p1⟩
  simp only [za4,qs0,qs1]
  refine zaz (λl S'=>∃way:Nat,way<12/\PQ ns (10000*u+1) S'/\l=[~~~0,~~~1,‹u›,‹way›,x4,x5,x6,x7,x8,x9,x10,x11]) ?_ ?_
  ·simp! only [zao]
   refine (zcz p1 (by omega) (by decide) (by decide)).mono ?_
   rintro v S2 ⟨⟨d,rfl,hd⟩,p2,f2⟩
   exact ⟨nofun,d,by omega,p2,rfl⟩
  rintro l S2 ⟨way,hw,p2,rfl⟩
  refine zaz (λl S'=>∃spot:Nat,spot<96/\PQ ns (10000*u+2) S'/\l=[~~~0,~~~1,‹u›,‹way›,‹spot›,x5,x6,x7,x8,x9,x10,x11]) ?_ ?_
  ·simp! only [zao]
   refine (zcz p2 (by omega) (by decide) (by decide)).mono ?_
   rintro v S3 ⟨⟨d,rfl,hd⟩,p3,f3⟩
   exact ⟨nofun,d,by omega,p3,rfl⟩
  rintro l S3 ⟨spot,hsp,p3,rfl⟩
  refine zaz (λl S'=>∃(A:Nat) (t:List (List Cl)),OkM A t/\PQ ns (10000*u+1002) S'/\l=[~~~0,~~~1,‹u›,‹way›,‹spot›,some (mD A t),x6,x7,x8,x9,x10,x11]) ?_ ?_
  ·simp! only [zao]
   refine (znb (most:=24) p3 (by omega) (by decide) (by decide)).mono ?_
   rintro v S4 ⟨A,t,rfl,ok,p4,f4⟩
   exact ⟨nofun,A,t,ok,p4,rfl⟩
  rintro l S4 ⟨A,t,ok,p4,rfl⟩
  refine zaz (λl S'=>∃(B:Nat) (g:List (List Cl)),OkM B g/\PQ ns (10000*u+2002) S'/\l=[~~~0,~~~1,‹u›,‹way›,‹spot›,some (mD A t),some (mD B g),x7,x8,x9,x10,x11]) ?_ ?_
  ·simp! only [zao]
   refine (yf0 p4 (by omega) ok).mono ?_
   rintro v S5 ⟨B,g,rfl,ok',p5,f5⟩
   exact ⟨nofun,B,g,ok',p5,rfl⟩
  rintro l S5 ⟨B,g,ok',p5,rfl⟩
  refine zaz (λl S'=>∃(B:Nat) (g:List (List Cl)),OkM B g/\PQ ns (10000*u+3002) S'/\l=[~~~0,~~~1,‹u›,‹way›,‹spot›,some (mD A t),some (mD B g),x7,x8,x9,x10,x11]) ?_ ?_
  ·by_cases hw8:way<8
   ·have hw8':(way:Int)<8:=by omega
    simp! only [hw8',decide_true,if_true]
    refine (yf5 p5 (by omega) ok' hw8 (by omega)).mono ?_
    rintro v S6 ⟨B,g,rfl,ok',p6,f6⟩
    exact ⟨nofun,B,g,ok',p6,rfl⟩
   ·have hw8':¬(way:Int)<8:=by omega
    simp! only [hw8',decide_false,qbf,if_false]
    exact ⟨nofun,B,g,ok',p5.mono (by omega),rfl⟩
  rintro l S6 ⟨B,g,ok',p6,rfl⟩
  have shp:Sh S6 140 20000 (.tup [mD A t,mD B g]):=by
   refine (zgu (B:=6000) (n:=2) (λx hx=>?_) (qlr _)).le (by decide)
   simp only [List.mem_cons,List.not_mem_nil,or_false] at hx
   rcases hx with rfl|rfl
   ·exact ztr (k:=134) ok
   ·exact ztr (k:=134) ok'
  obtain ⟨pp,hpl,hpy⟩:=shp
  refine zav (l':=[~~~0,~~~1,‹u›,‹way›,‹spot›,some (mD A t),some (mD B g),some (.str pp.shown),x8,x9,x10,x11]) (S':=S6) ?_ ?_
  ·simp! only [zao]
   refine ⟨by omega,?_⟩
   rw [zhv (hpy S6 (Gr.refl _)) (by omega)]
   exact ⟨nofun,nofun,nofun⟩
  refine zaz (λl S'=>Gr S6 S'/\∃y8 y9 y10 y11,l=[~~~0,~~~1,‹u›,‹way›,‹spot›,some (mD A t),some (mD B g),some (.str pp.shown),y8,y9,y10,y11]) ?_ ?_
  ·refine zk2 [.tup [mD A t,mD B g],.tup [mD B g,mD A t],.tup [mD A t,mD A t],.tup [mD A t,mD B g]] (λi l S'=>Gr S6 S'/\∃y8 y9 y10 y11,l=[~~~0,~~~1,‹u›,‹way›,‹spot›,some (mD A t),some (mD B g),some (.str pp.shown),y8,y9,y10,y11]) (λ_ _=>False) (S1:=S6) ?_ ⟨Gr.refl _,_,_,_,_,rfl⟩ ?_ (λl' S' q=>⟨rfl,q⟩) (λd l' S' z=>z.elim)
   ·obtain ⟨v,S',e,rfl,rfl⟩:We (zaf zaq (zab (zaf zaq (zab (zaa 5) (zab (zaa 6) (zae)))) (zab (zaf zaq (zab (zaa 6) (zab (zaa 5) (zae)))) (zab (zaf zaq (zab (zaa 5) (zab (zaa 5) (zae)))) (zab (zaf zaq (zab (zaa 5) (zab (zaa 6) (zae)))) (zae)))))) [~~~0,~~~1,‹u›,‹way›,‹spot›,some (mD A t),some (mD B g),some (.str pp.shown),x8,x9,x10,x11] S6 (λv S'=>v=.tup [.tup [mD A t,mD B g],.tup [mD B g,mD A t],.tup [mD A t,mD A t],.tup [mD A t,mD B g]]/\S' = S6):=by
     simp_all! only [s2,true_and]
     first|exact ⟨by omega,nofun,nofun⟩|exact ⟨by omega,nofun⟩|omega
    exact e
   ·rintro i x l S7 hx ⟨g7,y8,y9,y10,y11,rfl⟩
    have hi:i<4:=(qme hx).1
    have:i=0\/i=1\/i=2\/i=3:=by omega
    rcases this with rfl|rfl|rfl|rfl
    all_goals
     have hx:=qoi hx
     subst hx
     simp only [zc4,zc6,zc5,za4,List.length_cons,List.length_nil,qs0,qs1]
     refine ⟨nofun,?_⟩
    ·obtain ⟨f,l',S',e,rfl,g8,z10,z11,rfl⟩:=zk6 ok ok' g7
     exact ⟨_,_,_,e,.inl ⟨.inl rfl,g8,_,_,_,_,rfl⟩⟩
    ·obtain ⟨f,l',S',e,rfl,g8,z10,z11,rfl⟩:=zk6 ok' ok g7
     exact ⟨_,_,_,e,.inl ⟨.inl rfl,g8,_,_,_,_,rfl⟩⟩
    ·obtain ⟨f,l',S',e,rfl,g8,z10,z11,rfl⟩:=zk6 ok ok g7
     exact ⟨_,_,_,e,.inl ⟨.inl rfl,g8,_,_,_,_,rfl⟩⟩
    ·obtain ⟨f,l',S',e,rfl,g8,z10,z11,rfl⟩:=zk6 ok ok' g7
     exact ⟨_,_,_,e,.inl ⟨.inl rfl,g8,_,_,_,_,rfl⟩⟩
  rintro l S7 ⟨g7,y8,y9,y10,y11,rfl⟩
  refine zeh (λb S'=>b=false/\S' = S7) ?_ (λS' z=>by cases z.1) (λS' z=>?_)
  ·simp_all! only [zao]
   refine ⟨by omega,?_⟩
   rw [zhv (hpy S7 g7) (by omega)]
   simp_all! only [decide_true,Bool.not_true]
   first|exact ⟨rfl,nofun⟩|exact ⟨nofun,nofun⟩|exact ⟨false,rfl,rfl,rfl⟩
  ·obtain ⟨_,rfl⟩:=z
   rw [zdk]
   exact .inl ⟨.inl rfl,⟨_,_,_,_,_,_,_,_,_,_,rfl⟩,(p6.gr g7).mono (by omega)⟩
 ·rintro l S _
  simp! only [zao]
end M
end
namespace PySem.W.Fast
def tw14672520232073772778:Nat:=0
def tw16760380734252503683:Nat:=0
def tw6588100516878741540:Nat:=0
def tw9020430347536121342:Nat:=0
def tw9354625407766214349:Nat:=0
def tw14960680229408177954:Nat:=0
def tw11282996681148157390:Nat:=0
def tw17324354662652765699:Nat:=0
def tw8046251804514348331:Nat:=0
def tw14525432612457235365:Nat:=0
def tw343363730462960047:Nat:=0
def tw10810365848456745710:Nat:=0
def tw17475837115961898593:Nat:=0
def tw16336096005929167839:Nat:=0
def tw13845103179374850094:Nat:=0
def tw5123909879455224691:Nat:=0
def tw6774589470282541550:Nat:=0
def tw1758156766115113043:Nat:=0
def tw7544980648497431655:Nat:=0
def tw10423656147517217933:Nat:=0
def tw819824423804283570:Nat:=0
def tw9885118820997310239:Nat:=0
def tw2106838764725207198:Nat:=0
def tw10653720352954496195:Nat:=0
def tw2792449177548570988:Nat:=0
def tw4890208839295916173:Nat:=0
def tw1080317107325230435:Nat:=0
def tw7736463414471339942:Nat:=0
def tw10129194468258553471:Nat:=0
def tw13072096001156025553:Nat:=0
def tw14734446982841132359:Nat:=0
def tw17299326404154081609:Nat:=0
def tw2141211587886244570:Nat:=0
def tw5422240844342547791:Nat:=0
def tw9456055634332609548:Nat:=0
def tw2592866846982184156:Nat:=0
def tw527870738371273452:Nat:=0
def tw15521210377190539593:Nat:=0
def tw6472742963052484605:Nat:=0
def tw6501022093715496895:Nat:=0
def tw17685734236770833578:Nat:=0
def tw16854312553164068188:Nat:=0
def tw15281675060382386380:Nat:=0
def tw8042554938782062042:Nat:=0
def tw6450196508212463304:Nat:=0
def tw1300085718303116728:Nat:=0
def tw280046965527812594:Nat:=0
def tw17733432540011556238:Nat:=0
def tw8860560471001711194:Nat:=0
def tw18200202969956327563:Nat:=0
def tw2174703770767450636:Nat:=0
def tw16600781679962303959:Nat:=0
def tw17526380935093877308:Nat:=0
def tw9009907260093476447:Nat:=0
def tw8368707962306405613:Nat:=0
def tw4160201733649767356:Nat:=0
def tw16334352158730145120:Nat:=0
def tw7472306642926729647:Nat:=0
def tw2145785844476048352:Nat:=0
def tw11733860445333835615:Nat:=0
def tw15868936116641067140:Nat:=0
def tw18210595076697497338:Nat:=0
def tw6083603533546413110:Nat:=0
def tw7865855255226292442:Nat:=0
def tw3058117600274539967:Nat:=0
def tw16715083375081846853:Nat:=0
def tw17349854620468032103:Nat:=0
def tw1755400586596165072:Nat:=0
def tw14166947157087227855:Nat:=0
def tw3448655873423140875:Nat:=0
def tw18406208853789600916:Nat:=0
def tw12066570493993334766:Nat:=0
def tw11311413293103263300:Nat:=0
def tw16460809995176756768:Nat:=0
def tw13044129687980082904:Nat:=0
def tw13297378925970799392:Nat:=0
def tw5527734676406710322:Nat:=0
def tw15076264921732760062:Nat:=0
def tw5436206082102217300:Nat:=0
def tw6565877752518470891:Nat:=0
def tw9753835923084452201:Nat:=0
def tw8157003716672570129:Nat:=0
def tw17105067332927116857:Nat:=0
def tw17458931021492404302:Nat:=0
def tw18250195105726900783:Nat:=0
def tw2583357217893222609:Nat:=0
def tw1512077972391754314:Nat:=0
def tw860902890422973857:Nat:=0
def tw14326321738246847155:Nat:=0
def tw3603034468966723791:Nat:=0
def tw9610565384879507134:Nat:=0
def tw5939239051588116558:Nat:=0
def tw6540383261531445935:Nat:=0
def tw16455495414535743958:Nat:=0
def tw14952388238697760770:Nat:=0
def tw5857509390559639240:Nat:=0
def tw14431682896956521350:Nat:=0
def tw2158489498353497956:Nat:=0
def tw8024468346394220701:Nat:=0
def tw16872732042031522312:Nat:=0
def tw18376767732473415220:Nat:=0
def tw8892595048093803955:Nat:=0
def tw7320742638442701879:Nat:=0
def tw6879710273208518798:Nat:=0
def tw5816261421716281686:Nat:=0
def tw5492401218715110842:Nat:=0
def tw4564566146722135966:Nat:=0
def tw2561703112734544782:Nat:=0
def tw6225145503739360275:Nat:=0
def tw15872361300248373639:Nat:=0
def tw17559076510794202312:Nat:=0
def tw11333452577662623249:Nat:=0
def tw1995330669000171239:Nat:=0
def tw18350600245599037067:Nat:=0
def tw13277343984364787120:Nat:=0
def tw1829481758718372203:Nat:=0
def tw3360080036331552429:Nat:=0
def tw17742994447390270769:Nat:=0
def tw1485905334369677767:Nat:=0
def tw13210373174520665679:Nat:=0
end PySem.W.Fast
open PySem PySem.W PyProof.Rows
theorem PySem.Challenge.cw_opencells_k33_namings_told_holds : PySem.Challenge.rw_opencells_k33_namings_told.Holds := by
 w_on;o_law;k_head;(case hw=>w_witness2)
 k_fill
 refine G.walk (l:=PySem.Challenge.rw_opencells_k33_namings_told) rfl rfl (λw h Y=>PySem.W.kIn_of Y) ?F (λns hl=>M.law_true ns hl)
 case F =>
  intro w mg fa h KX GN hmg
  refine' G.all_mk KX GN hmg ?_ ?_ ?_ ?_ ?_ ?_ ?_ ?_ ?_ ?_ ?_ ?_ ?_ ?_ ?_ ?_ ?_ ?_ ?_ ?_ ?_ ?_ ?_ ?_ ?_ ?_ ?_ ?_ ?_ ?_ ?_ ?_ ?_ ?_ ?_ ?_ ?_ ?_ ?_ ?_ ?_ ?_ ?_ ?_ ?_ ?_ ?_ ?_ ?_ ?_ ?_ ?_ ?_ ?_ ?_ ?_ ?_ ?_ ?_ ?_ ?_ ?_
  all_goals try first|(refine' G.FI.mk ?a ?l ?c ?k;(case a=>k_is);(case l=>k_is);(case c=>k_is);(case k=>k_is))|k_is|kernel_rfl
#print axioms PySem.Challenge.cw_opencells_k33_namings_told_holds