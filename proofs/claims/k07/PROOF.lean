import PyProof.Rows.All
import Wide.All
import OpenK.AllK
import Wide.FinOn
import Lean
import PyProof.EqAt
import PyProof.EqKinds
import PyProof.TupleCall
import PyProof.ReprLen
import PyProof.ReprRoads
import PyProof.P3Eq
import PyProof.SetRoads
import PyProof.IsRules
import PyProof.ListRange
import PyProof.ConsumeWalk
import PyProof.NeKinds
import PyProof.DictTable
import PyProof.Draws
import PyProof.EnumMake
import KE.BitLaws
import KE.KIntText
import KE.KRevIter
import PyProof.Rows.SumAny
import PyProof.StrLawsRepr
import PyProof.Rows.SortStrRead
import PyProof.DictCompW
import PyProof.StrOps2
import PyProof.DictWalks
import OpenK.KOwn
import PyProof.NsDelKeeps
import PyProof.RulesAs
import KE.KIsAll
import PyProof.ExcArgsOwn
import PyProof.ExcAttrAll.ValueError
import PyProof.TupleKey
import PyProof.DictRoadsH
import KE.KSortTup
import KE.KDictSum
import PyProof.Rows.TupDisplay
import PySem.Challenge.RW_opencells_k07_rooms_that_part
set_option Elab.async false
set_option maxHeartbeats 4000000
set_option maxRecDepth 100000
set_option linter.unusedSimpArgs false
set_option linter.unusedVariables false
namespace TS
open PySem PySem.SetTable
noncomputable def F:Nat->Nat->Nat
 | 0,x=>x
 | n+1,x=>5*F n x+1
theorem zm7 (a:Nat):∀(b x:Nat),F (a+b) x=F a (F b x):=by
 induction a with
 | zero=>intro b x;rw [Nat.zero_add];rfl
 | succ a ih=>intro b x;rw [show a+1+b=(a+b)+1 by omega];show 5*F (a+b) x+1=5*F a (F b x)+1;rw [ih]
theorem zs1 (k:Nat):∃u,∀x,F (2 ^ k) x=(4*(2 ^ k*(2*u+1))+1)*x+2 ^ k*(2*u+1):=by
 induction k with
 | zero=>exact ⟨0,fun x=>by show 5*x+1=_;omega⟩
 | succ k ih =>
  obtain ⟨u,h⟩:=ih
  generalize hB:2 ^ k*(2*u+1)=B at h
  refine ⟨2*u*B+u+B,fun x=>?_⟩
  have e:2 ^ (k+1)=2 ^ k+2 ^ k:=by rw [Nat.pow_succ];omega
  rw [show F (2 ^ (k+1)) x=F (2 ^ k) (F (2 ^ k) x) by rw [e];exact zm7 _ _ _,h,h]
  have e2:2 ^ (k+1)*(2*(2*u*B+u+B)+1)=2*B*(2*B+1):=by
   rw [Nat.pow_succ,←hB]
   generalize 2 ^ k=p
   grind
  rw [e2]
  clear e2 h hB
  grind
theorem zs2 {M a b:Nat}(hM:0<M) (h:a % M=b % M) (h2:a % (2*M)≠b % (2*M)):(a+M) % (2*M)=b % (2*M):=by
 have key:∀x,x % (2*M)=x % M∨x % (2*M)=x % M+M:=fun x=>by
  have e1:x % (2*M)<2*M:=Nat.mod_lt _ (by omega)
  have e2:x % (2*M) % M=x % M:=Nat.mod_mod_of_dvd x ⟨2,Nat.mul_comm _ _⟩
  by_cases hl:x % (2*M)<M
  ·left;rw [←e2,Nat.mod_eq_of_lt hl]
  ·right
   have e3:x % (2*M) % M=(x % (2*M)-M) % M:=Nat.mod_eq_sub_mod (by omega)
   have e4:(x % (2*M)-M) % M=x % (2*M)-M:=Nat.mod_eq_of_lt (by omega)
   rw [←e2,e3,e4];omega
 have hb:=Nat.mod_lt b hM
 rw [Nat.add_mod,Nat.mod_eq_of_lt (show M<2*M by omega)]
 rcases key a with ha|ha <;> rcases key b with hb2|hb2
 ·omega
 ·rw [ha,Nat.mod_eq_of_lt (by omega)];omega
 ·rw [ha,hb2,show a % M+M+M=a % M+2*M by omega,Nat.add_mod_right,Nat.mod_eq_of_lt (by omega)];omega
 ·omega
theorem zs3 (k:Nat):∀x y:Nat,∃n,n<2 ^ k/\F n x % 2 ^ k=y % 2 ^ k:=by
 induction k with
 | zero=>intro x y;exact ⟨0,by decide,by simp [Nat.mod_one]⟩
 | succ k ih =>
  intro x y
  obtain ⟨n,hn,h⟩:=ih x y
  have e:2 ^ (k+1)=2*2 ^ k:=by rw [Nat.pow_succ,Nat.mul_comm]
  have hM:0<2 ^ k:=Nat.two_pow_pos k
  rw [e]
  by_cases h2:F n x % (2*2 ^ k)=y % (2*2 ^ k)
  ·exact ⟨n,by omega,h2⟩
  ·refine ⟨2 ^ k+n,by omega,?_⟩
   obtain ⟨u,hl⟩:=zs1 k
   rw [zm7,hl]
   generalize F n x=z at h h2
   generalize 2 ^ k=M at *
   have e3:(4*(M*(2*u+1))+1)*z+M*(2*u+1)=z+M+2*M*(u+2*z*(2*u+1)):=by
    grind
   rw [e3,Nat.add_mul_mod_self_left]
   exact zs2 hM h h2
noncomputable def adv (mask:Nat) (p:Probe):Probe :=
 if p.more > 0 then { p with j:=p.j+1,more:=p.more-1 } else
 let (i,perturb):=leap mask p.i p.perturb
 { p with j:=i,more:=runEnd mask i-i,i,perturb }
theorem zs4 (t:SetTable) (p:Probe):t.advance p=adv t.mask p:=rfl
noncomputable def st0 (mask:Nat) (h:Int):Probe:={ j:=bits h % (mask+1),more:=runEnd mask (bits h % (mask+1))-bits h % (mask+1),i:=bits h % (mask+1),perturb:=bits h,dummy:=none }
noncomputable def pn (mask:Nat) (h:Int):Nat->Probe
 | 0=>st0 mask h
 | n+1=>adv mask (pn mask h n)
noncomputable def bl (mask:Nat) (h:Int):Nat->Nat × Nat
 | 0=>(bits h % (mask+1),bits h)
 | n+1=>leap mask (bl mask h n).1 (bl mask h n).2
noncomputable def ss (mask:Nat) (h:Int):Nat->Nat
 | 0=>0
 | n+1=>ss mask h n+(runEnd mask (bl mask h n).1-(bl mask h n).1)+1
noncomputable def blk (mask:Nat) (b:Nat × Nat):Probe:={ j:=b.1,more:=runEnd mask b.1-b.1,i:=b.1,perturb:=b.2,dummy:=none }
theorem zj4 {mask:Nat}{h:Int}{s:Nat}{b:Nat × Nat}(e:pn mask h s=blk mask b):∀d,d<=runEnd mask b.1-b.1->pn mask h (s+d)={ j:=b.1+d,more:=runEnd mask b.1-b.1-d,i:=b.1,perturb:=b.2,dummy:=none }
 | 0,_=>by rw [Nat.add_zero,e];rfl
 | d+1,hd=>by
  show adv mask (pn mask h (s+d))=_
  rw [zj4 e d (by omega)]
  unfold adv
  rw [if_pos (by show runEnd mask b.1-b.1-d > 0;omega)]
  simp only [Probe.mk.injEq,and_true]
  exact ⟨by omega,by omega⟩
theorem zj5 (mask:Nat) (h:Int):∀n,pn mask h (ss mask h n)=blk mask (bl mask h n)
 | 0=>rfl
 | n+1=>by
  have e:=zj4 (zj5 mask h n) (runEnd mask (bl mask h n).1-(bl mask h n).1) (Nat.le_refl _)
  show adv mask (pn mask h (ss mask h n+(runEnd mask (bl mask h n).1-(bl mask h n).1)))=_
  rw [e]
  unfold adv
  rw [if_neg (by show ¬(runEnd mask (bl mask h n).1-(bl mask h n).1-(runEnd mask (bl mask h n).1-(bl mask h n).1)) > 0;omega)]
  rfl
theorem zs5 (mask i:Nat):runEnd mask i-i<=9:=by unfold runEnd;split <;> omega
theorem zm8 (mask:Nat) (h:Int):∀n,ss mask h n<=10*n
 | 0=>Nat.le_refl _
 | n+1=>by have:=zm8 mask h n;have:=zs5 mask (bl mask h n).1;show ss mask h n+_+1<=_;omega
theorem zm9 (mask:Nat) (h:Int):∀n,(bl mask h n).2=bits h / 32 ^ n
 | 0=>by show bits h=_;simp
 | n+1=>by show (bl mask h n).2 / 32=_;rw [zm9 mask h n,Nat.div_div_eq_div_mul,Nat.pow_succ]
theorem zs6 (h:Int):bits h<2 ^ 64:=by
 unfold bits
 have h1:=Int.emod_nonneg h (show (2 ^ 64:Int)≠0 by decide)
 have h2:=Int.emod_lt_of_pos h (show (0:Int)<2 ^ 64 by decide)
 omega
theorem zs7 (mask:Nat) (h:Int) (n:Nat):(bl mask h (13+n)).2=0:=by
 rw [zm9]
 apply Nat.div_eq_of_lt
 have:=zs6 h
 have e:2 ^ 65<=32 ^ (13+n):=by
  rw [Nat.pow_add,show (32:Nat) ^ 13=2 ^ 65 by decide]
  exact Nat.le_mul_of_pos_right _ (Nat.pow_pos (by decide))
 have:(2:Nat) ^ 64<2 ^ 65:=by decide
 omega
theorem zna (mask:Nat) (h:Int):∀n,(bl mask h n).1<=mask
 | 0=>by have:=Nat.mod_lt (bits h) (show 0<mask+1 by omega);show bits h % (mask+1)<=mask;omega
 | n+1=>by have:=Nat.mod_lt ((bl mask h n).1*5+1+(bl mask h n).2 / 32) (show 0<mask+1 by omega);show ((bl mask h n).1*5+1+(bl mask h n).2 / 32) % (mask+1)<=mask;omega
theorem znb (mask:Nat) (h:Int):∀n,(bl mask h (13+n)).1=F n (bl mask h 13).1 % (mask+1)
 | 0=>by have:=zna mask h 13;exact (Nat.mod_eq_of_lt (by show (bl mask h 13).1<mask+1;omega)).symm
 | n+1=>by
  show ((bl mask h (13+n)).1*5+1+(bl mask h (13+n)).2 / 32) % (mask+1)=(5*F n _+1) % (mask+1)
  rw [znb mask h n,zs7,Nat.zero_div,Nat.add_zero,Nat.mul_comm (F n _ % (mask+1)) 5]
  rw [Nat.add_mod,Nat.mul_mod,Nat.mod_mod,←Nat.mul_mod,←Nat.add_mod]
theorem zs8 {mask k:Nat}(hk:mask+1=2 ^ k) (h:Int) {e:Nat}(he:e<=mask):∃n,n<mask+14/\(bl mask h n).1=e:=by
 obtain ⟨n,hn,hf⟩:=zs3 k (bl mask h 13).1 e
 refine ⟨13+n,by omega,?_⟩
 rw [znb,hk,hf,←hk]
 exact Nat.mod_eq_of_lt (by omega)
theorem zj6 {mask i:Nat}(h:i<=mask):runEnd mask i<=mask:=by unfold runEnd;split <;> omega
theorem zj7 (mask:Nat) (h:Int) (n:Nat):(pn mask h n).j<=mask/\(pn mask h n).j+(pn mask h n).more<=mask/\(pn mask h n).dummy=none:=by
 induction n with
 | zero =>
  have h1:bits h % (mask+1)<=mask:=by have:=Nat.mod_lt (bits h) (show 0<mask+1 by omega);omega
  have h2:=zj6 h1
  refine ⟨h1,?_,rfl⟩
  show bits h % (mask+1)+(runEnd mask (bits h % (mask+1))-bits h % (mask+1))<=mask
  omega
 | succ n ih =>
  obtain ⟨i1,i2,i3⟩:=ih
  show (adv mask (pn mask h n)).j<=mask/\(adv mask (pn mask h n)).j+(adv mask (pn mask h n)).more<=mask/\(adv mask (pn mask h n)).dummy=none
  unfold adv
  by_cases hm:(pn mask h n).more > 0
  ·rw [if_pos hm]
   exact ⟨by show (pn mask h n).j+1<=mask;omega,by show (pn mask h n).j+1+((pn mask h n).more-1)<=mask;omega,i3⟩
  ·rw [if_neg hm]
   have h1:(leap mask (pn mask h n).i (pn mask h n).perturb).1<=mask:=by
    have:=Nat.mod_lt ((pn mask h n).i*5+1+(pn mask h n).perturb / 32) (show 0<mask+1 by omega)
    show ((pn mask h n).i*5+1+(pn mask h n).perturb / 32) % (mask+1)<=mask
    omega
   have h2:=zj6 h1
   exact ⟨h1,by show (leap mask (pn mask h n).i (pn mask h n).perturb).1+(runEnd mask (leap mask (pn mask h n).i (pn mask h n).perturb).1-(leap mask (pn mask h n).i (pn mask h n).perturb).1)<=mask;omega,i3⟩
end TS
namespace TS
open PySem PySem.SetTable
noncomputable def Ris (xs:Array Nat):Prop:=∀i j,i<j->j<xs.size->xs.getD i 0<xs.getD j 0
theorem zs9 {xs:Array Nat}{i:Nat}(h:i<xs.size) (d e:Nat):xs.getD i d=xs.getD i e:=by simp [Array.getD,h]
theorem znc {xs:Array Nat}{i:Nat}(h:i<xs.size) (d:Nat):xs[i]? = some (xs.getD i d):=by simp [Array.getD,h]
theorem zg2 {xs:Array Nat}{i j:Nat}(h:xs[i]? = some j) (d:Nat):i<xs.size/\xs.getD i d=j:=by
 obtain ⟨h1,h2⟩:=Array.getElem?_eq_some_iff.mp h
 exact ⟨h1,by simp [Array.getD,h1,h2]⟩
theorem zta {xs:Array Nat}(hr:Ris xs) (j:Nat):∀(fuel lo hi:Nat),lo<=hi->hi<=xs.size->hi-lo<=fuel->(∀i,i<lo->xs.getD i 0<j)->(∀i,hi<=i->i<xs.size->j<=xs.getD i 0) ->
  below.go xs j fuel lo hi<=xs.size/\(∀i,i<below.go xs j fuel lo hi->xs.getD i 0<j)/\∀i,below.go xs j fuel lo hi<=i->i<xs.size->j<=xs.getD i 0:=by
 intro fuel
 induction fuel with
 | zero =>
  intro lo hi h1 h2 h3 h4 h5
  have e:lo=hi:=by omega
  subst e
  exact ⟨h2,h4,h5⟩
 | succ fuel ih =>
  intro lo hi h1 h2 h3 h4 h5
  unfold below.go
  by_cases hl:lo<hi
  ·rw [if_pos hl]
   dsimp only
   have hm1:(lo+hi) / 2<hi:=by omega
   have hm2:lo<=(lo+hi) / 2:=by omega
   have hms:(lo+hi) / 2<xs.size:=by omega
   rw [zs9 hms j 0]
   by_cases hx:xs.getD ((lo+hi) / 2) 0<j
   ·rw [if_pos hx]
    refine ih _ _ (by omega) h2 (by omega) (fun i hi'=>?_) h5
    by_cases e:i=(lo+hi) / 2
    ·rw [e];exact hx
    ·exact Nat.lt_trans (hr i _ (by omega) hms) hx
   ·rw [if_neg hx]
    refine ih _ _ hm2 (by omega) (by omega) h4 fun i hi1 hi2=>?_
    by_cases e:i=(lo+hi) / 2
    ·rw [e];omega
    ·have:=hr ((lo+hi) / 2) i (by omega) hi2
     omega
  ·rw [if_neg hl]
   have e:lo=hi:=by omega
   subst e
   exact ⟨h2,h4,h5⟩
theorem zic {xs:Array Nat}(hr:Ris xs) (j:Nat):below xs j<=xs.size/\(∀i,i<below xs j->xs.getD i 0<j)/\∀i,below xs j<=i->i<xs.size->j<=xs.getD i 0 :=
 zta hr j xs.size 0 xs.size (Nat.zero_le _) (Nat.le_refl _) (by omega) (fun i h=>absurd h (Nat.not_lt_zero _)) fun i h1 h2=>by omega
theorem zg3 {xs:Array Nat}(hr:Ris xs) {i j:Nat}(h:xs[i]? = some j):below xs j=i:=by
 obtain ⟨h1,h2⟩:=zg2 h 0
 obtain ⟨b1,b2,b3⟩:=zic hr j
 rcases Nat.lt_trichotomy (below xs j) i with hl|hl|hl
 ·have:=b3 (below xs j) (Nat.le_refl _) (by omega)
  have:=hr _ _ hl h1
  omega
 ·exact hl
 ·have:=b2 i hl
  omega
theorem zg4 {t:SetTable}(hr:Ris t.place) {i j:Nat}(h:t.place[i]? = some j):t.slot j=.live i:=by
 unfold slot
 dsimp only
 rw [zg3 hr h,if_pos (by rw [h];simp)]
theorem ztb {t:SetTable}(hd:t.dummies = #[]) {j:Nat}(h:∀i:Nat,t.place[i]?≠some j):t.slot j=.empty:=by
 unfold slot
 dsimp only
 rw [if_neg (by intro z;exact h _ (by simpa using z)),if_neg (by rw [hd];simp [has])]
noncomputable def In (t:SetTable) (j:Nat):Prop:=∃i:Nat,t.place[i]? = some j
structure TOk (t:SetTable) (es:Array (Int × Value)):Prop where
 dm:t.dummies = #[]
 sz:t.place.size=es.size
 pw:∃k,t.mask+1=2 ^ k/\3<=k
 ris:Ris t.place
 le:∀j,In t j->j<=t.mask
 ro:es.size*5<t.mask*3
 sm:t.mask<8192
 pr:∀(i:Nat) (h:Int) (v:Value),es[i]? = some (h,v)->∃n,t.place[i]? = some (pn t.mask h n).j/\∀m,m<n->In t (pn t.mask h m).j
theorem TOk.fits {t:SetTable}{es:Array (Int × Value)}(k:TOk t es):t.fits es.size=true:=by
 unfold SetTable.fits SetTable.fill
 rw [k.dm,k.sz]
 have:=k.ro
 simp
 omega
theorem TOk.gave {t:SetTable}{es:Array (Int × Value)}(k:TOk t es):t.gaveWay=false:=by
 unfold SetTable.gaveWay
 obtain ⟨n,h1,h2⟩:=k.pw
 have:(2:Nat) ^ n % 2=0:=by
  obtain ⟨m,rfl⟩:∃m,n=m+1:=⟨n-1,by omega⟩
  rw [Nat.pow_succ];simp
 simp
 omega
theorem pigeon:∀(n:Nat) (f:Nat->Option Nat) ,(∀j,j<n+1->∃i,f j=some i/\i<n)->(∀j j' i,j<n+1->j' < n+1->f j=some i->f j' = some i->j=j')->False
 | 0,f,h,_=>by obtain ⟨i,_,hi⟩:=h 0 (by omega);omega
 | n+1,f,h,inj=>by
  obtain ⟨a,ha,hal⟩:=h (n+1) (by omega)
  refine pigeon n (fun j=>(f j).map fun i=>if i=n then a else i) (fun j hj=>?_) fun j j' i l1 l2 h1 h2=>?_
  ·obtain ⟨i,hi,hil⟩:=h j (by omega)
   refine ⟨if i=n then a else i,by simp [hi],?_⟩
   split
   ·rename_i e
    rcases Nat.lt_or_ge a n with h' | h'
    ·exact h'
    ·have:a=n:=by omega
     have:=inj (n+1) j n (by omega) (by omega) (by rw [ha,this]) (by rw [hi,e])
     omega
   ·omega
  ·cases e1:f j with
   | none=>rw [e1] at h1;cases h1
   | some i1 =>
    cases e2:f j' with
    | none=>rw [e2] at h2;cases h2
    | some i2 =>
     rw [e1] at h1;rw [e2] at h2
     have h1:(if i1=n then a else i1)=i:=by simpa using h1
     have h2:(if i2=n then a else i2)=i:=by simpa using h2
     by_cases c1:i1=n <;> by_cases c2:i2=n
     ·exact inj j j' n (by omega) (by omega) (by rw [e1,c1]) (by rw [e2,c2])
     ·rw [if_pos c1] at h1;rw [if_neg c2] at h2
      have:=inj (n+1) j' i (by omega) (by omega) (by rw [ha,h1]) (by rw [e2,h2])
      omega
     ·rw [if_neg c1] at h1;rw [if_pos c2] at h2
      have:=inj (n+1) j i (by omega) (by omega) (by rw [ha,h2]) (by rw [e1,h1])
      omega
     ·rw [if_neg c1] at h1;rw [if_neg c2] at h2
      exact inj j j' i (by omega) (by omega) (by rw [e1,h1]) (by rw [e2,h2])
theorem znd {mask k:Nat}(hk:mask+1=2 ^ k) (h:Int) (P:Nat->Prop) [DecidablePred P] {e:Nat}(he:e<=mask) (hP:¬P e) :
  ∃N b,N<=ss mask h b/\b<mask+14/\¬P (pn mask h N).j/\∀m,m<N->P (pn mask h m).j:=by
 obtain ⟨b,hb,hbe⟩:=zs8 hk h he
 have h0:¬P (pn mask h (ss mask h b)).j:=by rw [zj5];show ¬P (bl mask h b).1;rw [hbe];exact hP
 have least:∀n,¬P (pn mask h n).j->∃N,N<=n/\¬P (pn mask h N).j/\∀m,m<N->P (pn mask h m).j:=by
  intro n
  induction n using Nat.strongRecOn with
  | _ n ih =>
   intro hn
   by_cases c:∃m,m<n/\¬P (pn mask h m).j
   ·obtain ⟨m,hm,hp⟩:=c
    obtain ⟨N,h1,h2⟩:=ih m hm hp
    exact ⟨N,by omega,h2⟩
   ·exact ⟨n,Nat.le_refl _,hn,fun m hm=>Decidable.byContradiction fun z=>c ⟨m,hm,z⟩⟩
 obtain ⟨N,h1,h2,h3⟩:=least _ h0
 exact ⟨N,b,h1,hb,h2,h3⟩
open Classical in
theorem TOk.empty {t:SetTable}{es:Array (Int × Value)}(k:TOk t es) (h:Int):∃N,N<10*(t.mask+14)/\¬In t (pn t.mask h N).j/\∀m,m<N->In t (pn t.mask h m).j:=by
 obtain ⟨n,h1,h2⟩:=k.pw
 have ex:∃e,e<=t.mask/\¬In t e:=by
  refine Classical.byContradiction fun hc=>?_
  have all:∀e,e<=t.mask->In t e:=fun e he=>Classical.byContradiction fun z=>hc ⟨e,he,z⟩
  refine pigeon t.mask (fun j=>if hj:In t j then some hj.choose else none) (fun j hj=>?_) fun j j' i _ _ e1 e2=>?_
  ·have hi:=all j (by omega)
   refine ⟨hi.choose,dif_pos hi,?_⟩
   have:=(zg2 hi.choose_spec 0).1
   have:=k.sz;have:=k.ro
   omega
  ·split at e1
   ·rename_i hj
    split at e2
    ·rename_i hj'
     have q1:=hj.choose_spec
     have q2:=hj'.choose_spec
     rw [Option.some.inj e1] at q1
     rw [Option.some.inj e2] at q2
     rw [q1] at q2
     exact Option.some.inj q2
    ·cases e2
   ·cases e1
 obtain ⟨e,he,hne⟩:=ex
 obtain ⟨N,b,h3,h4,h5,h6⟩:=znd h1 h (In t) he hne
 have:=zm8 t.mask h b
 exact ⟨N,by omega,h5,h6⟩
theorem ztc {t:SetTable}{es:Array (Int × Value)}(k:TOk t es) (h:Int) {N:Nat}(hN:¬In t (pn t.mask h N).j) (hl:∀m,m<N->In t (pn t.mask h m).j) (ha:Nat->Int) :
  ∀(fuel m:Nat),m<=N->N-m<fuel ->
   (∃m' i,m<=m'/\m' < N/\t.place[i]? = some (pn t.mask h m').j/\ha i=h/\(∀m'' i',m<=m''->m'' < m'->t.place[i']? = some (pn t.mask h m'').j->ha i'≠h) /\
    probe.go t ha h fuel (pn t.mask h m)=some (.candidate (pn t.mask h m').j i (pn t.mask h (m' + 1)))) ∨
   ((∀m'' i',m<=m''->m'' < N->t.place[i']? = some (pn t.mask h m'').j->ha i'≠h)/\probe.go t ha h fuel (pn t.mask h m)=some (.empty (pn t.mask h N).j none)):=by
 intro fuel
 induction fuel with
 | zero=>intro m h1 h2;omega
 | succ fuel ih =>
  intro m h1 h2
  unfold probe.go
  rcases Nat.lt_or_ge m N with hm|hm
  ·obtain ⟨i,hi⟩:=hl m hm
   rw [zg4 k.ris hi]
   dsimp only
   by_cases e:ha i=h
   ·rw [if_pos (by simpa using e)]
    exact .inl ⟨m,i,Nat.le_refl _,hm,hi,e,fun m'' i' q1 q2=>by omega,rfl⟩
   ·rw [if_neg (by simpa using e),zs4]
    show _∨(_/\probe.go t ha h fuel (pn t.mask h (m+1))=_)
    have here:∀i',t.place[i']? = some (pn t.mask h m).j->ha i'≠h:=fun i' hi'=>by
     have e1:=zg3 k.ris hi
     have e2:=zg3 k.ris hi'
     rw [e1] at e2
     rw [←e2];exact e
    rcases ih (m+1) hm (by omega) with ⟨m',i',q1,q2,q3,q4,q5,q6⟩|⟨q1,q2⟩
    ·refine .inl ⟨m',i',by omega,q2,q3,q4,fun m'' i'' r1 r2 r3=>?_,q6⟩
     by_cases c:m'' = m
     ·subst c;exact here i'' r3
     ·exact q5 m'' i'' (by omega) r2 r3
    ·refine .inr ⟨fun m'' i'' r1 r2 r3=>?_,q2⟩
     by_cases c:m'' = m
     ·subst c;exact here i'' r3
     ·exact q1 m'' i'' (by omega) r2 r3
  ·have e:m=N:=by omega
   subst e
   rw [ztb k.dm fun i hi=>hN ⟨i,hi⟩]
   exact .inr ⟨fun m'' i' q1 q2=>by omega,by rw [(zj7 t.mask h m).2.2]⟩
end TS
namespace TS
open PySem PySem.SetTable
theorem ze7 {α:Type}{xs:Array α}{p:Nat}{x:α}(hp:p<=xs.size) (i:Nat):(insertAt xs p x)[i]? = if i<p then xs[i]? else if i=p then some x else xs[i-1]?:=by
 rw [←Array.getElem?_toList,toList_insertAt]
 have hl:(xs.toList.take p).length=p:=by rw [List.length_take,Array.length_toList];omega
 by_cases h1:i<p
 ·rw [if_pos h1,List.getElem?_append_left (by omega),List.getElem?_take_of_lt h1,Array.getElem?_toList]
 ·rw [if_neg h1,List.getElem?_append_right (by omega),hl]
  by_cases h2:i=p
  ·rw [if_pos h2,h2,Nat.sub_self];rfl
  ·rw [if_neg h2,show i-p=(i-p-1)+1 by omega,List.getElem?_cons_succ,List.getElem?_drop,Array.getElem?_toList]
   congr 1;omega
theorem zd9 {α:Type}{xs:Array α}{p:Nat}{x:α}:(insertAt xs p x).size=xs.size+1:=by
 rw [←Array.length_toList,(insertAt_perm xs p x).length_eq];simp
theorem ztd (j:Nat):has #[] j=false:=by simp [has]
theorem zj8 {t:SetTable}(hd:t.dummies = #[]) (j:Nat):t.put j=({ t with place:=insertAt t.place (below t.place j) j },below t.place j):=by
 unfold put
 rw [hd,ztd]
 cases t
 simp only at hd
 subst hd
 rfl
theorem zte {t:SetTable}(hr:Ris t.place) (j:Nat) (x:Nat):In { t with place:=insertAt t.place (below t.place j) j } x↔x=j∨In t x:=by
 have hb:=(zic hr j).1
 constructor
 ·rintro ⟨i,hi⟩
  have hi:(insertAt t.place (below t.place j) j)[i]? = some x:=hi
  rw [ze7 hb] at hi
  split at hi
  ·exact .inr ⟨i,hi⟩
  ·split at hi
   ·exact .inl (Option.some.inj hi).symm
   ·exact .inr ⟨_,hi⟩
 ·rintro (rfl|⟨i,hi⟩)
  ·refine ⟨below t.place x,?_⟩
   show (insertAt t.place (below t.place x) x)[_]? = some x
   rw [ze7 hb,if_neg (Nat.lt_irrefl _),if_pos rfl]
  ·by_cases c:i<below t.place j
   ·exact ⟨i,by show (insertAt t.place (below t.place j) j)[i]? = some x;rw [ze7 hb,if_pos c];exact hi⟩
   ·exact ⟨i+1,by show (insertAt t.place (below t.place j) j)[i+1]? = some x;rw [ze7 hb,if_neg (by omega),if_neg (by omega)];exact hi⟩
theorem ztf {xs:Array Nat}(hr:Ris xs) {j:Nat}(hj:∀i:Nat,xs[i]?≠some j):Ris (insertAt xs (below xs j) j):=by
 obtain ⟨b1,b2,b3⟩:=zic hr j
 have b4:∀i,below xs j<=i->i<xs.size->j<xs.getD i 0:=fun i h1 h2=>by
  have:=b3 i h1 h2
  have:xs.getD i 0≠j:=fun e=>hj i (by rw [znc h2 0,e])
  omega
 have g:∀i,i<(insertAt xs (below xs j) j).size->(insertAt xs (below xs j) j).getD i 0=if i<below xs j then xs.getD i 0 else if i=below xs j then j else xs.getD (i-1) 0:=fun i hi=>by
  have q:=ze7 (x:=j) b1 i
  rw [znc hi 0] at q
  rw [zd9] at hi
  split at q
  ·rename_i c;rw [if_pos c];exact ((zg2 q.symm 0).2).symm
  ·rename_i c
   rw [if_neg c]
   split at q
   ·rename_i c2;rw [if_pos c2];exact Option.some.inj q
   ·rename_i c2;rw [if_neg c2];exact ((zg2 q.symm 0).2).symm
 intro a b hab hb
 rw [g a (by omega),g b hb]
 rw [zd9] at hb
 by_cases c1:a<below xs j
 ·rw [if_pos c1]
  by_cases c2:b<below xs j
  ·rw [if_pos c2];exact hr a b hab (by omega)
  ·rw [if_neg c2]
   have:=b2 a c1
   by_cases c3:b=below xs j
   ·rw [if_pos c3];exact this
   ·rw [if_neg c3]
    have:=b4 (b-1) (by omega) (by omega)
    omega
 ·rw [if_neg c1,if_neg (show ¬b<below xs j by omega),if_neg (show ¬b=below xs j by omega)]
  by_cases c3:a=below xs j
  ·rw [if_pos c3];exact b4 (b-1) (by omega) (by omega)
  ·rw [if_neg c3];exact hr (a-1) (b-1) (by omega) (by omega)
theorem TOk.put {t:SetTable}{es:Array (Int × Value)}(k:TOk t es) {h:Int}{x:Value}{N:Nat}(hN:¬In t (pn t.mask h N).j) (hl:∀m,m<N->In t (pn t.mask h m).j) (hro:(es.size+1)*5<t.mask*3) :
  TOk (t.put (pn t.mask h N).j).1 (insertAt es (t.put (pn t.mask h N).j).2 (h,x)):=by
 rw [zj8 k.dm]
 have hb:=(zic k.ris (pn t.mask h N).j).1
 have hbe:=hb
 rw [k.sz] at hbe
 have inn:=zte k.ris (pn t.mask h N).j
 refine ⟨k.dm,?_,k.pw,ztf k.ris fun i hi=>hN ⟨i,hi⟩,fun j hj=>?_,?_,k.sm,fun i h' v hi=>?_⟩
 ·show (insertAt t.place _ _).size=(insertAt es _ _).size
  rw [zd9,zd9,k.sz]
 ·rcases (inn j).mp hj with rfl|hj
  ·exact (zj7 _ _ _).1
  ·exact k.le j hj
 ·rw [zd9];exact hro
 ·rw [ze7 hbe] at hi
  show ∃n,(insertAt t.place (below t.place (pn t.mask h N).j) (pn t.mask h N).j)[i]? = some (pn t.mask h' n).j/\_
  rw [ze7 hb]
  have up:∀n,(∀m,m<n->In t (pn t.mask h' m).j)->∀m,m<n->In { t with place:=insertAt t.place (below t.place (pn t.mask h N).j) (pn t.mask h N).j } (pn t.mask h' m).j:=fun n q m hm=>(inn _).mpr (.inr (q m hm))
  split at hi
  ·rename_i c
   rw [if_pos c]
   obtain ⟨n,e1,e2⟩:=k.pr i h' v hi
   exact ⟨n,e1,up n e2⟩
  ·rename_i c
   rw [if_neg c]
   split at hi
   ·rename_i c2
    rw [if_pos c2]
    cases hi
    exact ⟨N,rfl,up N hl⟩
   ·rename_i c2
    rw [if_neg c2]
    obtain ⟨n,e1,e2⟩:=k.pr _ h' v hi
    exact ⟨n,e1,up n e2⟩
theorem TOk.plain {t:SetTable}{es:Array (Int × Value)}(k:TOk t es) (b:Bool):TOk { t with plain:=b } es:=⟨k.dm,k.sz,k.pw,k.ris,k.le,k.ro,k.sm,k.pr⟩
theorem ztg (n:Nat):∀(fuel k:Nat),n<2 ^ (k+fuel)->∃k',k<=k'/\sizeAbove.go n fuel (2 ^ k)=2 ^ k'/\n<2 ^ k'/\(k' = k∨2 ^ k'<=2*n):=by
 intro fuel
 induction fuel with
 | zero=>intro k h;exact ⟨k,Nat.le_refl _,rfl,h,.inl rfl⟩
 | succ fuel ih =>
  intro k h
  unfold sizeAbove.go
  by_cases c:2 ^ k<=n
  ·rw [if_pos c,←Nat.pow_succ]
   obtain ⟨k',h1,h2,h3,h4⟩:=ih (k+1) (by rw [show k+1+fuel=k+(fuel+1) by omega];exact h)
   refine ⟨k',by omega,h2,h3,.inr ?_⟩
   rcases h4 with rfl|h4
   ·rw [Nat.pow_succ];omega
   ·exact h4
  ·rw [if_neg c]
   exact ⟨k,Nat.le_refl _,rfl,by omega,.inl rfl⟩
theorem zne {n:Nat}(h:n<=4000):∃k,3<=k/\sizeAbove n=2 ^ k/\n<2 ^ k/\2 ^ k<=8000:=by
 obtain ⟨k',h1,h2,h3,h4⟩:=ztg n 64 3 (Nat.lt_of_le_of_lt h (by decide))
 refine ⟨k',h1,h2,h3,?_⟩
 rcases h4 with rfl|h4
 ·decide
 ·omega
noncomputable def Occ (ow:Array (Option Nat)) (j:Nat):Prop:=∃i,ow[j]? = some (some i)
instance (ow:Array (Option Nat)):DecidablePred (Occ ow):=fun j=>match h:ow[j]? with
 | some (some i)=>.isTrue ⟨i,h⟩
 | some none=>.isFalse fun hx1_=>by obtain ⟨i,z⟩:=hx1_;rw [h] at z;cases z
 | none=>.isFalse fun hx2_=>by obtain ⟨i,z⟩:=hx2_;rw [h] at z;cases z
theorem zj9 {ow:Array (Option Nat)}{j:Nat}(hj:j<ow.size):(ow.getD j (some 0)).isNone = !decide (Occ ow j):=by
 have e:ow[j]? = some ow[j]:=Array.getElem?_eq_getElem hj
 have e2:ow.getD j (some 0)=ow[j]:=by simp [Array.getD,hj]
 rw [e2]
 cases c:ow[j] with
 | none =>
  rw [decide_eq_false (fun hx3_=>by obtain ⟨i,z⟩:=hx3_;rw [e,c] at z;cases z)];rfl
 | some i =>
  rw [decide_eq_true (show Occ ow j from ⟨i,by rw [e,c]⟩)];rfl
theorem zth {P:Nat->Bool}:∀(n d:Nat),d<n->P d=true->(∀k,k<d->P k=false)->(List.range n).find? P=some d:=by
 intro n d hd hp hb
 rw [List.find?_range_eq_some]
 exact ⟨hp,by simpa using hd,fun j hj=>by simpa using hb j hj⟩
theorem zti {mask:Nat}{h:Int}{ow:Array (Option Nat)}(hs:ow.size=mask+1) {N b:Nat}(hN:¬Occ ow (pn mask h N).j) (hl:∀m,m<N->Occ ow (pn mask h m).j) (hb:N<=ss mask h b) :
  ∀(fuel n:Nat),n<=b->b-n<fuel->ss mask h n<=N->layClean.free mask ow fuel (bl mask h n).1 (bl mask h n).2=some (pn mask h N).j:=by
 intro fuel
 induction fuel with
 | zero=>intro n h1 h2;omega
 | succ fuel ih =>
  intro n h1 h2 h3
  have hil:=zna mask h n
  have hre:(bl mask h n).1<=runEnd mask (bl mask h n).1:=by unfold runEnd;split <;> omega
  have hrm:=zj6 hil
  have at':∀d,d<=runEnd mask (bl mask h n).1-(bl mask h n).1->(pn mask h (ss mask h n+d)).j=(bl mask h n).1+d:=fun d hd=>by rw [zj4 (zj5 mask h n) d hd]
  unfold layClean.free
  by_cases c:N-ss mask h n<=runEnd mask (bl mask h n).1-(bl mask h n).1
  ·have e:=at' _ c
   rw [show ss mask h n+(N-ss mask h n)=N by omega] at e
   rw [zth _ (N-ss mask h n) (by omega) (by rw [zj9 (by omega),←e,decide_eq_false hN];rfl) fun k hk=>by
    rw [zj9 (by omega),←at' k (by omega),decide_eq_true (hl _ (by omega))];rfl]
   rw [e]
  ·have hn:(List.range (runEnd mask (bl mask h n).1+1-(bl mask h n).1)).find? (fun k=>(ow.getD ((bl mask h n).1+k) (some 0)).isNone)=none:=by
    rw [List.find?_eq_none]
    intro k hk
    have hk:=List.mem_range.mp hk
    rw [zj9 (by omega),←at' k (by omega),decide_eq_true (hl _ (by omega))]
    simp
   rw [hn]
   show layClean.free mask ow fuel (bl mask h (n+1)).1 (bl mask h (n+1)).2=_
   have hnb:n≠b:=fun e=>by subst e;omega
   exact ih (n+1) (by omega) (by omega) (by show ss mask h n+_+1<=N;omega)
structure Own (mask:Nat) (ow:Array (Option Nat)) (hs:List Int):Prop where
 size:ow.size=mask+1
 pr:∀(j i:Nat),ow[j]? = some (some i)->∃h,hs[i]? = some h/\∃n,(pn mask h n).j=j/\∀m,m<n->Occ ow (pn mask h m).j
 all:∀i,i<hs.length->∃j:Nat,ow[j]? = some (some i)
 inj:∀(j j' i:Nat),ow[j]? = some (some i)->ow[j']? = some (some i)->j=j'
theorem zfz {ow:Array (Option Nat)}{j i:Nat}{x:Option Nat}(hj:j<ow.size):(ow.setIfInBounds j x)[i]? = if i=j then some x else ow[i]?:=by
 rw [Array.getElem?_setIfInBounds]
 by_cases c:j=i
 ·subst c;simp [hj]
 ·rw [if_neg c,if_neg (fun e=>c e.symm)]
theorem Own.step {mask k:Nat}(hk:mask+1=2 ^ k) {ow:Array (Option Nat)}{hs:List Int}(o:Own mask ow hs) (h:Int) (hl:hs.length<mask+1) :
  ∃j,layClean.free mask ow (turns mask) (bits h % (mask+1)) (bits h)=some j/\Own mask (ow.setIfInBounds j (some hs.length)) (hs++[h]):=by
 have ex:∃e,e<=mask/\¬Occ ow e:=by
  refine Decidable.byContradiction fun hc=>?_
  have all:∀e,e<=mask->Occ ow e:=fun e he=>Decidable.byContradiction fun z=>hc ⟨e,he,z⟩
  refine pigeon mask (fun j=>(ow[j]?).join) (fun j hj=>?_) fun j j' i l1 l2 e1 e2=>?_
  ·obtain ⟨i,hi⟩:=all j (by omega)
   obtain ⟨h',e1,_⟩:=o.pr j i hi
   have:=(List.getElem?_eq_some_iff.mp e1).1
   exact ⟨i,by rw [hi];rfl,by omega⟩
  ·obtain ⟨i1,q1⟩:=all j (by omega)
   obtain ⟨i2,q2⟩:=all j' (by omega)
   rw [q1] at e1;rw [q2] at e2
   cases e1;cases e2
   exact o.inj j j' i q1 q2
 obtain ⟨e,he,hne⟩:=ex
 obtain ⟨N,b,h3,h4,h5,h6⟩:=znd hk h (Occ ow) he hne
 have hj:=(zj7 mask h N).1
 have hjs:(pn mask h N).j<ow.size:=by rw [o.size];omega
 refine ⟨(pn mask h N).j,zti o.size h5 h6 h3 _ 0 (Nat.zero_le _) (by unfold turns;omega) (Nat.zero_le _),?_⟩
 have up:∀x,Occ ow x->Occ (ow.setIfInBounds (pn mask h N).j (some hs.length)) x:=fun x hx4_=>by
  obtain ⟨i,hi⟩:=hx4_
  by_cases c:x=(pn mask h N).j
  ·exact ⟨hs.length,by rw [zfz hjs,if_pos c]⟩
  ·exact ⟨i,by rw [zfz hjs,if_neg c];exact hi⟩
 refine ⟨by simp [o.size],fun j i hi=>?_,fun i hi=>?_,fun j j' i q1 q2=>?_⟩
 ·rw [zfz hjs] at hi
  split at hi
  ·rename_i c
   cases hi
   exact ⟨h,by simp,N,c.symm,fun m hm=>up _ (h6 m hm)⟩
  ·obtain ⟨h',e1,n,e2,e3⟩:=o.pr j i hi
   refine ⟨h',?_,n,e2,fun m hm=>up _ (e3 m hm)⟩
   rw [List.getElem?_append_left (List.getElem?_eq_some_iff.mp e1).1];exact e1
 ·rw [List.length_append,List.length_singleton] at hi
  by_cases c:i=hs.length
  ·exact ⟨(pn mask h N).j,by rw [zfz hjs,if_pos rfl,c]⟩
  ·obtain ⟨j,hj⟩:=o.all i (by omega)
   refine ⟨j,?_⟩
   rw [zfz hjs,if_neg (fun (e:j=(pn mask h N).j)=>h5 (by rw [←e];exact ⟨i,hj⟩))];exact hj
 ·rw [zfz hjs] at q1 q2
  have lt:∀x,ow[x]? = some (some i)->i<hs.length:=fun x hx=>let ⟨_,e,_⟩:=o.pr x i hx;(List.getElem?_eq_some_iff.mp e).1
  split at q1
  ·rename_i c1
   split at q2
   ·rename_i c2;rw [c1,c2]
   ·cases q1;have:=lt _ q2;omega
  ·split at q2
   ·cases q2;have:=lt _ q1;omega
   ·exact o.inj j j' i q1 q2
end TS
namespace TS
open PySem PySem.SetTable
noncomputable def zg5 (mask:Nat) (acc:Option (Array (Option Nat) × Nat)) (h:Int):Option (Array (Option Nat) × Nat):=do
 let (owner,k) ←acc
 let j ←layClean.free mask owner (turns mask) (bits h % (mask+1)) (bits h)
 pure (owner.setIfInBounds j (some k),k+1)
theorem ztj (mask:Nat) (hashes:Array Int):layClean mask hashes=(hashes.toList.foldl (zg5 mask) (some (Array.replicate (mask+1) none,0))).map (·.1):=by
 unfold layClean
 rw [←Array.foldl_toList]
 rfl
theorem znf {mask k:Nat}(hk:mask+1=2 ^ k):∀(rest done:List Int) (ow:Array (Option Nat)),Own mask ow done->done.length+rest.length<mask+1 ->
  ∃ow',rest.foldl (zg5 mask) (some (ow,done.length))=some (ow',done.length+rest.length)/\Own mask ow' (done++rest)
 | [],done,ow,o,_=>⟨ow,rfl,by rw [List.append_nil];exact o⟩
 | h :: rest,done,ow,o,hl=>by
  rw [List.length_cons] at hl
  obtain ⟨j,hj,o'⟩:=o.step hk h (by omega)
  have e:zg5 mask (some (ow,done.length)) h=some (ow.setIfInBounds j (some done.length),(done++[h]).length):=by
   unfold zg5
   simp only [Option.bind_eq_bind,Option.bind_some,hj]
   simp
  obtain ⟨ow',h1,h2⟩:=znf hk rest (done++[h]) _ o' (by simp;omega)
  refine ⟨ow',?_,by simpa using h2⟩
  rw [List.foldl_cons,e,h1]
  simp;omega
theorem ztk (mask:Nat):Own mask (Array.replicate (mask+1) none) []:=by
 have no:∀(j i:Nat),(Array.replicate (mask+1) (none:Option Nat))[j]?≠some (some i):=fun j i h=>by
  rw [Array.getElem?_replicate] at h
  split at h <;> cases h
 exact ⟨by simp,fun j i h=>absurd h (no j i),fun i h=>absurd h (Nat.not_lt_zero _),fun j j' i h _=>absurd h (no j i)⟩
theorem ztl {mask k:Nat}(hk:mask+1=2 ^ k) (hashes:Array Int) (hl:hashes.size<mask+1):∃ow,layClean mask hashes=some ow/\Own mask ow hashes.toList:=by
 obtain ⟨ow,h1,h2⟩:=znf hk hashes.toList [] _ (ztk mask) (by simpa using hl)
 refine ⟨ow,?_,by simpa using h2⟩
 rw [ztj]
 have h1:List.foldl (zg5 mask) (some (Array.replicate (mask+1) none,0)) hashes.toList=_:=h1
 rw [h1];rfl
noncomputable def lv (mask:Nat) (ow:Array (Option Nat)):List (Nat × Nat):=(List.range (mask+1)).filterMap fun j=>(ow.getD j none).map (j,·)
theorem ztm {mask:Nat}{ow:Array (Option Nat)}{hs:List Int}(o:Own mask ow hs) (p:Nat × Nat):p∈lv mask ow↔ow[p.1]? = some (some p.2):=by
 unfold lv
 rw [List.mem_filterMap]
 constructor
 ·rintro ⟨j,hj,e⟩
  have hj:=List.mem_range.mp hj
  have hjs:j<ow.size:=by rw [o.size];exact hj
  have e2:ow.getD j none=ow[j]:=by simp [Array.getD,hjs]
  rw [e2] at e
  cases c:ow[j] with
  | none=>rw [c] at e;cases e
  | some i =>
   rw [c] at e
   cases e
   show ow[j]? = some (some i)
   rw [Array.getElem?_eq_getElem hjs,c]
 ·intro h
  obtain ⟨hjs,e⟩:=Array.getElem?_eq_some_iff.mp h
  refine ⟨p.1,List.mem_range.mpr (by rw [←o.size];exact hjs),?_⟩
  have e2:ow.getD p.1 none=ow[p.1]:=by simp [Array.getD,hjs]
  rw [e2,e];rfl
theorem zng {f:Nat->Option (Nat × Nat)}(hf:∀j p,f j=some p->p.1=j):∀(n s:Nat),((List.range' s n).filterMap f).Pairwise (fun p q=>p.1<q.1)/\∀p∈(List.range' s n).filterMap f,s<=p.1
 | 0,s=>⟨.nil,fun p hp=>by simp at hp⟩
 | n+1,s=>by
  obtain ⟨h1,h2⟩:=zng hf n (s+1)
  rw [List.range'_succ]
  cases e:f s with
  | none=>rw [List.filterMap_cons_none e];exact ⟨h1,fun p hp=>by have:=h2 p hp;omega⟩
  | some q =>
   rw [List.filterMap_cons_some e]
   have hq:=hf s q e
   refine ⟨List.pairwise_cons.mpr ⟨fun p hp=>by have:=h2 p hp;omega,h1⟩,fun p hp=>?_⟩
   rcases List.mem_cons.mp hp with rfl|hp
   ·omega
   ·have:=h2 p hp;omega
theorem ztn (mask:Nat) (ow:Array (Option Nat)):(lv mask ow).Pairwise fun p q=>p.1<q.1:=by
 unfold lv
 rw [List.range_eq_range']
 refine (zng (fun j p e=>?_) _ _).1
 cases c:ow.getD j none with
 | none=>rw [c] at e;cases e
 | some i=>rw [c] at e;cases e;rfl
theorem zto:∀(l:List (Nat × Nat)) (n:Nat),(∀(a b:Nat) p q,l[a]? = some p->l[b]? = some q->p.2=q.2->a=b)->(∀p∈l,p.2<n)->(∀i,i<n->∃p∈l,p.2=i)->l.length=n:=by
 intro l n inj lt all
 rcases Nat.lt_trichotomy l.length n with h|h|h
 ·exfalso
  have key:∀i,i<n->∃a:Nat,∃p,l[a]? = some p/\p.2=i:=fun i hi=>by
   obtain ⟨p,hp,e⟩:=all i hi
   obtain ⟨a,ha⟩:=List.mem_iff_getElem?.mp hp
   exact ⟨a,p,ha,e⟩
  obtain ⟨f,hf⟩:∃f:Nat->Nat,∀i,i<n->∃p,l[f i]? = some p/\p.2=i:=⟨fun i=>if hi:i<n then (key i hi).choose else 0,fun i hi=>by dsimp only;rw [dif_pos hi];exact (key i hi).choose_spec⟩
  refine pigeon l.length (fun i=>some (f i)) (fun i hi=>⟨f i,rfl,?_⟩) fun i j a l1 l2 e1 e2=>?_
  ·obtain ⟨p,hp,_⟩:=hf i (by omega)
   exact (List.getElem?_eq_some_iff.mp hp).1
  ·obtain ⟨p,hp,hpi⟩:=hf i (by omega)
   obtain ⟨q,hq,hqj⟩:=hf j (by omega)
   cases e1
   rw [Option.some.inj e2,hp] at hq
   cases hq
   omega
 ·exact h
 ·exfalso
  refine pigeon n (fun a=>(l[a]?).map (·.2)) (fun a ha=>?_) fun a b i l1 l2 e1 e2=>?_
  ·have:a<l.length:=by omega
   exact ⟨l[a].2,by rw [List.getElem?_eq_getElem this];rfl,lt _ (List.getElem_mem this)⟩
  ·have h1:a<l.length:=by omega
   have h2:b<l.length:=by omega
   rw [List.getElem?_eq_getElem h1] at e1
   rw [List.getElem?_eq_getElem h2] at e2
   exact inj a b l[a] l[b] (List.getElem?_eq_getElem h1) (List.getElem?_eq_getElem h2) ((Option.some.inj e1).trans (Option.some.inj e2).symm)
theorem ztp {t:SetTable}{es:Array (Int × Value)}(hz:0<es.size) (hs:es.size<=1000) :
  ∃t' order es',t.relaid (es.map (·.1)) (grown es.size)=some (t',order)/\order.filterMap (es[·]?)=es'/\es'.size=es.size/\TOk t' es'/\∀e,e∈es'.toList↔e∈es.toList:=by
 have hg:grown es.size=es.size*4:=by unfold grown;rw [if_neg (by omega)]
 obtain ⟨k,hk3,hsa,hlt,hle⟩:=zne (n:=es.size*4) (by omega)
 unfold relaid
 rw [hg,hsa]
 generalize hm:2 ^ k-1=mask
 have hk:mask+1=2 ^ k:=by omega
 obtain ⟨ow,hl,o⟩:=ztl hk (es.map (·.1)) (by rw [Array.size_map];omega)
 unfold laid
 rw [hl]
 have hlen:(es.map (·.1)).toList.length=es.size:=by simp
 have mem:=ztm o
 have srt:=ztn mask ow
 have e2lt:∀p∈lv mask ow,p.2<es.size:=fun p hp=>by
  obtain ⟨h,e,_⟩:=o.pr p.1 p.2 ((mem p).mp hp)
  rw [←hlen];exact (List.getElem?_eq_some_iff.mp e).1
 have inj2:∀(a b:Nat) p q,(lv mask ow)[a]? = some p->(lv mask ow)[b]? = some q->p.2=q.2->a=b:=fun a b p q ha hb e=>by
  have m1:=(mem p).mp (List.mem_of_getElem? ha)
  have m2:=(mem q).mp (List.mem_of_getElem? hb)
  rw [e] at m1
  have e1:=o.inj _ _ _ m1 m2
  rcases Nat.lt_trichotomy a b with h|h|h
  ·have:=(List.pairwise_iff_getElem.mp srt) a b (List.getElem?_eq_some_iff.mp ha).1 (List.getElem?_eq_some_iff.mp hb).1 h
   rw [(List.getElem?_eq_some_iff.mp ha).2,(List.getElem?_eq_some_iff.mp hb).2] at this
   omega
  ·exact h
  ·have:=(List.pairwise_iff_getElem.mp srt) b a (List.getElem?_eq_some_iff.mp hb).1 (List.getElem?_eq_some_iff.mp ha).1 h
   rw [(List.getElem?_eq_some_iff.mp ha).2,(List.getElem?_eq_some_iff.mp hb).2] at this
   omega
 have len:(lv mask ow).length=es.size:=zto _ _ inj2 e2lt fun i hi=>by
  obtain ⟨j,hj⟩:=o.all i (by rw [hlen];exact hi)
  exact ⟨(j,i),(mem (j,i)).mpr hj,rfl⟩
 have fm:∀l:List (Nat × Nat),(∀p∈l,p.2<es.size)->(l.map (·.2)).filterMap (es[·]?)=l.map fun p=>es.getD p.2 (0,.none):=by
  intro l
  induction l with
  | nil=>intro _;rfl
  | cons p l ih =>
   intro h
   have hp:=h p (.head _)
   rw [List.map_cons,List.filterMap_cons_some (b:=es[p.2]) (Array.getElem?_eq_getElem hp),ih (fun q hq=>h q (.tail _ hq)),List.map_cons]
   congr 1
   simp [Array.getD,hp]
 refine ⟨_,_,_,rfl,rfl,?_⟩
 show (Array.filterMap (es[·]?) ((lv mask ow).map (·.2)).toArray).size=es.size/\TOk { mask:=mask,place:=((lv mask ow).map (·.1)).toArray,dummies:=#[],finger:=t.finger,led:=t.led,moves:=t.movedTo mask,plain:=t.plain } (Array.filterMap (es[·]?) ((lv mask ow).map (·.2)).toArray)/\_
 have efm:Array.filterMap (es[·]?) ((lv mask ow).map (·.2)).toArray=((lv mask ow).map fun p=>es.getD p.2 (0,.none)).toArray:=by
  apply Array.toList_inj.mp
  rw [Array.toList_filterMap]
  exact fm _ e2lt
 have inn:∀j,In { mask:=mask,place:=((lv mask ow).map (·.1)).toArray,dummies:=#[],finger:=t.finger,led:=t.led,moves:=t.movedTo mask,plain:=t.plain } j↔Occ ow j:=fun j=>by
  constructor
  ·rintro ⟨i,hi⟩
   have hi:(((lv mask ow).map (·.1)).toArray)[i]? = some j:=hi
   rw [List.getElem?_toArray,List.getElem?_map] at hi
   cases c:(lv mask ow)[i]? with
   | none=>rw [c] at hi;cases hi
   | some p =>
    rw [c] at hi
    have hi:p.1=j:=Option.some.inj hi
    subst hi
    exact ⟨p.2,(mem p).mp (List.mem_of_getElem? c)⟩
  ·rintro ⟨i,hi⟩
   obtain ⟨a,ha⟩:=List.mem_iff_getElem?.mp ((mem (j,i)).mpr hi)
   refine ⟨a,?_⟩
   show (((lv mask ow).map (·.1)).toArray)[a]? = some j
   rw [List.getElem?_toArray,List.getElem?_map,ha];rfl
 rw [efm]
 refine ⟨by simp [len],⟨rfl,by simp,⟨k,hk,hk3⟩,fun i j hij hj=>?_,fun j hj=>?_,?_,by show mask<8192;omega,fun i h v hi=>?_⟩,fun e=>?_⟩
 ·have hj:j<(lv mask ow).length:=by simpa using hj
  show (((lv mask ow).map (·.1)).toArray).getD i 0<(((lv mask ow).map (·.1)).toArray).getD j 0
  have h1:i<(lv mask ow).length:=by omega
  have:=(List.pairwise_iff_getElem.mp srt) i j h1 hj hij
  simpa [Array.getD,h1,hj] using this
 ·obtain ⟨i,hi⟩:=(inn j).mp hj
  have:=(Array.getElem?_eq_some_iff.mp hi).1
  rw [o.size] at this
  show j<=mask
  omega
 ·show (((lv mask ow).map fun p=>es.getD p.2 (0,.none)).toArray).size*5<mask*3
  simp [len];omega
 ·have hi:(((lv mask ow).map fun p=>es.getD p.2 (0,.none)).toArray)[i]? = some (h,v):=hi
  rw [List.getElem?_toArray,List.getElem?_map] at hi
  cases c:(lv mask ow)[i]? with
  | none=>rw [c] at hi;cases hi
  | some p =>
   rw [c] at hi
   have hi:es.getD p.2 (0,.none)=(h,v):=Option.some.inj hi
   have hp:=List.mem_of_getElem? c
   have hps:=e2lt p hp
   obtain ⟨h',e1,n,e3,e4⟩:=o.pr p.1 p.2 ((mem p).mp hp)
   have eh:h' = h:=by
    rw [Array.toList_map,List.getElem?_map,Array.getElem?_toList,Array.getElem?_eq_getElem hps] at e1
    have e1:es[p.2].1=h':=Option.some.inj e1
    rw [←e1]
    have:es.getD p.2 (0,.none)=es[p.2]:=by simp [Array.getD,hps]
    rw [←this,hi]
   subst eh
   refine ⟨n,?_,fun m hm=>(inn _).mpr (e4 m hm)⟩
   show (((lv mask ow).map (·.1)).toArray)[i]? = some _
   rw [List.getElem?_toArray,List.getElem?_map,c,e3];rfl
 ·show e∈(Array.filterMap (es[·]?) ((lv mask ow).map (·.2)).toArray).toList↔_
  rw [efm]
  show e∈(lv mask ow).map (fun p=>es.getD p.2 (0,.none))↔_
  rw [List.mem_map]
  constructor
  ·rintro ⟨p,hp,rfl⟩
   have hps:=e2lt p hp
   have:es.getD p.2 (0,.none)=es[p.2]:=by simp [Array.getD,hps]
   rw [this]
   exact Array.mem_toList_iff.mpr (Array.getElem_mem hps)
  ·intro he
   obtain ⟨i,hi,rfl⟩:=List.mem_iff_getElem.mp he
   rw [Array.length_toList] at hi
   obtain ⟨j,hj⟩:=o.all i (by rw [hlen];exact hi)
   refine ⟨(j,i),(mem (j,i)).mpr hj,?_⟩
   simp [Array.getD,hi]
end TS
namespace TS
open PySem PySem.SetTable
theorem znh {t:SetTable}{es:Array (Int × Value)}(k:TOk t es) {h:Int}{N m:Nat}(hN:¬In t (pn t.mask h N).j) (hl:∀m,m<N->In t (pn t.mask h m).j) (hb:N<10*(t.mask+14)) (hm:m<=N) {ha:Nat->Int}{p:Probe}{r:Option Met}
  (hq:t.probe ha h p=r) (hp:p=pn t.mask h m) :
   (∃m' i,m<=m'/\m' < N/\t.place[i]? = some (pn t.mask h m').j/\ha i=h/\(∀m'' i',m<=m''->m'' < m'->t.place[i']? = some (pn t.mask h m'').j->ha i'≠h)/\r=some (.candidate (pn t.mask h m').j i (pn t.mask h (m' + 1)))) ∨
   ((∀m'' i',m<=m''->m'' < N->t.place[i']? = some (pn t.mask h m'').j->ha i'≠h)/\r=some (.empty (pn t.mask h N).j none)):=by
 subst hq hp
 exact ztc k h hN hl ha _ m hm (by unfold turns;omega)
noncomputable def zaz (ks:List Int):Int:=reduceHash (Builtin.Tuple.tupleHashOf (ks.map hashInt))
section
variable {prog:Program}{w:World}{A:Around}{E:Value->Shared->Prop}{s:Shared}
noncomputable abbrev IsK (prog:Program) (w:World) (h:Heap) (ks:List Int) (b:Addr):Prop:=IsTupleKey (intKind prog w) h ks b
theorem items_int {ks:List Int}{vs:List Value}(h:ItemsAre (intKind prog w) ks vs):∀v∈vs,∃i t,v=.int i t:=by
 induction h with
 | nil=>intro v hv;simp at hv
 | cons h1 _ ih =>
  intro v hv
  rcases List.mem_cons.mp hv with rfl|hv
  ·obtain ⟨t,rfl⟩:=Value.isInt_shape h1
   exact ⟨_,t,rfl⟩
  ·exact ih v hv
theorem zni {ks:List Int}{b:Addr}{Q:Bool->Shared->Prop}(hk:IsK prog w s.heap ks b) (h:Q false s):wpAny (model prog w) A (ofAClassStatement 8 (.ref b)) Q E s:=by
 have hT:=hk.typeIs
 obtain ⟨o,items,n,ho,hc,hd,hi⟩:=hk
 unfold ofAClassStatement
 refine wpAny_bind (wpAny_typeOf hT ?_)
 dsimp only
 rw [if_pos (by decide)]
 refine wpAny_bind (wpAny_pure ?_)
 simp only [Bool.not_true,Bool.false_eq_true,if_false]
 refine wpAny_bind (wpAny_seqItems ho hd ?_)
 dsimp only
 refine wpAny_bind ?_
 rw [←Array.forIn_toList]
 refine wpAny_forIn_list _ (fun rest r s'=>r.1=none/\s' = s/\∀v∈rest,∃i t,v=.int i t) _ ?_ ?_ _ _ ⟨rfl,rfl,items_int hi⟩
 ·rintro v rest r s' ⟨hr,rfl,hall⟩
  obtain ⟨i,t,rfl⟩:=hall v List.mem_cons_self
  unfold ofAClassStatement
  refine wpAny_bind (wpAny_pure ?_)
  simp only [Bool.false_eq_true,if_false]
  exact wpAny_pure ⟨rfl,rfl,fun u hu'=>hall u (List.mem_cons_of_mem _ hu')⟩
 ·rintro ⟨r1,r2⟩ s' ⟨hr,rfl,_⟩
  simp only at hr
  subst hr
  exact wpAny_pure h
theorem ztq {ks:List Int}{b:Addr}{Q:Bool->Shared->Prop}(hk:IsK prog w s.heap ks b) (h:Q true s):wpAny (model prog w) A (hashByValue 8 (.ref b)) Q E s:=by
 have hT:=hk.typeIs
 obtain ⟨o,items,n,ho,hc,hd,hi⟩:=hk
 unfold hashByValue
 refine wpAny_bind (wpAny_specialOf hT F.slot_tuple_hash.lookup ?_)
 dsimp only
 refine wpAny_bind (wpAny_seqItems ho hd ?_)
 refine wpAny_bind ?_
 show wpAny _ _ (forIn items _ _) _ _ s
 rw [←Array.forIn_toList]
 refine wpAny_forIn_list _ (fun rest r s'=>r.1=none/\s' = s/\∀v∈rest,∃i t,v=.int i t) _ ?_ ?_ _ _ ⟨rfl,rfl,items_int hi⟩
 ·rintro v rest r s' ⟨hr,rfl,hall⟩
  obtain ⟨i,t,rfl⟩:=hall v List.mem_cons_self
  unfold hashByValue
  refine wpAny_bind (wpAny_pure ?_)
  simp only [Bool.not_true,Bool.false_eq_true,if_false]
  exact wpAny_pure ⟨rfl,rfl,fun u hu'=>hall u (List.mem_cons_of_mem _ hu')⟩
 ·rintro ⟨r1,r2⟩ s' ⟨hr,rfl,_⟩
  simp only at hr
  subst hr
  exact wpAny_pure h
theorem ztr {ks:List Int}{x:Addr}{stored:List Value}{Q:Bool->Shared->Prop}(hk:IsK prog w s.heap ks x) (hs:∀v∈stored,∃k b,v=.ref b/\IsK prog w s.heap k b) (h:Q false s) :
  wpAny (model prog w) A (searchCouldBeSeen (.ref x) stored) Q E s:=by
 unfold searchCouldBeSeen
 refine wpAny_bind ?_
 refine wpAny_forIn_list _ (fun rest r s'=>r.1=none/\s' = s/\∀v∈rest,∃k b,v=.ref b/\IsK prog w s.heap k b) _ ?_ ?_ _ _ ⟨rfl,rfl,hs⟩
 ·rintro v rest r s' ⟨hr,rfl,hall⟩
  obtain ⟨k',b,rfl,hb⟩:=hall v List.mem_cons_self
  have nx:∀u∈rest,∃k b,u=.ref b/\IsK prog w s'.heap k b:=fun u hu'=>hall u (List.mem_cons_of_mem _ hu')
  dsimp only
  split
  ·exact wpAny_pure ⟨rfl,rfl,nx⟩
  ·refine wpAny_bind (wpAny_eqIsQuiet_tuple hk ?_)
   simp only [Bool.not_true,Bool.false_eq_true,if_false]
   refine wpAny_bind (wpAny_eqIsQuiet_tuple hb ?_)
   simp only [Bool.not_true,Bool.false_eq_true,if_false]
   refine wpAny_bind (zni hk ?_)
   simp only [Bool.false_eq_true,if_false]
   refine wpAny_bind (zni hb ?_)
   simp only [Bool.false_eq_true,if_false]
   exact wpAny_pure ⟨rfl,rfl,nx⟩
 ·rintro ⟨r1,r2⟩ s' ⟨hr,rfl,_⟩
  simp only at hr
  subst hr
  exact wpAny_pure h
structure Els (es:Array (Int × Value)) (xs:List (List Int × Addr)):Prop where
 sub:∀e∈es.toList,∃p∈xs,e=(zaz p.1,.ref p.2)
 sup:∀p∈xs,(zaz p.1,Value.ref p.2)∈es.toList
 len:es.size=xs.length
theorem znj {a x:Addr}{k:List Int}{xs:List (List Int × Addr)}{o:Obj}{es:Array (Int × Value)}{ep:Nat}{t:SetTable}{adding:Bool}{Q:SetFound->Shared->Prop}(hu:A.units<cLine)
  (ho:s.heap.get? a=some o) (hd:o.data=.set es ep t) (ok:TOk t es) (el:Els es xs) (hxs:∀p∈xs,IsK prog w s.heap p.1 p.2) (hkey:IsK prog w s.heap k x) {N:Nat} (hN:¬In t (pn t.mask (zaz k) N).j) (hl:∀m,m<N->In t (pn t.mask (zaz k) m).j) (hb:N<10*(t.mask+14))
  (yes:(∃p∈xs,p.1=k)->∀r,(adding=false->r.isSome=true)->Q (.there r) s) (no:(∀p∈xs,p.1≠k)->Q (.free (pn t.mask (zaz k) N).j false) s) :
  ∀(fuel m:Nat) (stand:Option Probe),N-m<fuel->m<=N->stand.getD (t.probeStart (zaz k))=pn t.mask (zaz k) m ->
   (∀(m' i:Nat) (p:List Int × Addr),p∈xs->m' < m->t.place[i]? = some (pn t.mask (zaz k) m').j->es[i]? = some (zaz p.1,.ref p.2)->p.1≠k) ->
   wpAny (model prog w) A (setSearchFrom a (.ref x) (zaz k) adding fuel stand) Q E s:=by
 intro fuel
 induction fuel with
 | zero=>intro m stand h1;omega
 | succ fuel ih =>
  intro m stand h1 h2 h3 h4
  unfold setSearchFrom
  refine wpAny_bind (wpAny_setState_of ho hd ok.fits ?_)
  dsimp only
  rw [ok.gave]
  simp only [Bool.false_eq_true,if_false]
  have at_i:∀i j,t.place[i]? = some j->∃p∈xs,es[i]? = some (zaz p.1,Value.ref p.2):=fun i j hi=>by
   have hs:i<es.size:=by rw [←ok.sz];exact (zg2 hi 0).1
   have hm:es[i]∈es.toList:=Array.mem_toList_iff.mpr (Array.getElem_mem hs)
   obtain ⟨p,hp,e⟩:=el.sub _ hm
   exact ⟨p,hp,by rw [Array.getElem?_eq_getElem hs,e]⟩
  split
  ·rename_i met hq
   rcases znh ok hN hl hb h2 hq h3 with ⟨m',i,q1,q2,q3,q4,q5,q6⟩|⟨q1,q2⟩
   ·cases q6
    dsimp only
    obtain ⟨p,hp,hei⟩:=at_i i _ q3
    have seen:wpAny (model prog w) A (searchCouldBeSeen (.ref x) ((es.filter (·.1 == zaz k)).toList.map (·.2))) (fun b s'=>b=false/\s' = s) E s:=by
     refine ztr hkey (fun v hv=>?_) ⟨rfl,rfl⟩
     obtain ⟨e,he,rfl⟩:=List.mem_map.mp hv
     have he:e∈es.toList:=by
      rw [Array.toList_filter] at he
      exact (List.mem_filter.mp he).1
     obtain ⟨p,hp,rfl⟩:=el.sub _ he
     exact ⟨p.1,p.2,rfl,hxs p hp⟩
    have sameMem:t.sameMemory t.moves t.mask=some true:=by simp [sameMemory]
    have next:p.1≠k->∀(m'' i':Nat) (p':List Int × Addr),p'∈xs->m'' < m' + 1->t.place[i']? = some (pn t.mask (zaz k) m'').j->es[i']? = some (zaz p'.1,.ref p'.2)->p'.1≠k:=fun hne m'' i' p' hp' l1 l2 l3 e=>by
     rcases Nat.lt_or_ge m'' m with c|c
     ·exact h4 m'' i' p' hp' c l2 l3 e
     ·by_cases c2:m'' = m'
      ·subst c2
       have e1:=zg3 ok.ris q3
       have e2:=zg3 ok.ris l2
       rw [e1] at e2
       subst e2
       rw [hei] at l3
       have e3:=Option.some.inj l3
       injection e3 with e4 e5
       injection e5 with e5
       have i1:=hxs p hp
       have i2:=hxs p' hp'
       rw [←e5] at i2
       exact hne ((i1.inj i2).trans e)
      ·refine q5 m'' i' c (by omega) l2 ?_
       show ((es[i']?).map (·.1)).getD 0=_
       rw [l3,e];rfl
    rw [hei]
    dsimp only
    split
    ·refine wpAny_bind (wpAny_mono seen (fun b s' e=>?_) fun _ _ z=>z)
     obtain ⟨rfl,rfl⟩:=e
     simp only [Bool.false_eq_true,if_false]
     refine wpAny_bind (wpAny_holding (wpAny_eqBool_tuple hu (hxs p hp) hkey ?_))
     refine wpAny_bind (wpAny_setState_of ho hd ok.fits ?_)
     dsimp only
     by_cases hkk:p.1=k
     ·rw [decide_eq_true hkk]
      cases adding with
      | true=>exact wpAny_pure (yes ⟨p,hp,hkk⟩ none (fun z=>by cases z))
      | false =>
       simp only [Bool.false_and,Bool.false_eq_true,if_false]
       rw [sameMem]
       dsimp only
       rw [if_pos rfl,zg4 ok.ris q3]
       dsimp only
       rw [hei]
       dsimp only
       refine wpAny_bind ?_
       unfold isSame
       simp only [beq_self_eq_true,if_true]
       refine wpAny_pure (wpAny_bind (wpAny_pure ?_))
       simp only [if_true]
       exact wpAny_pure (yes ⟨p,hp,hkk⟩ (some i) fun _=>rfl)
     ·rw [decide_eq_false hkk]
      simp only [Bool.and_false,Bool.false_eq_true,if_false]
      rw [sameMem]
      dsimp only
      rw [if_pos rfl,zg4 ok.ris q3]
      dsimp only
      rw [hei]
      dsimp only
      refine wpAny_bind ?_
      unfold isSame
      simp only [beq_self_eq_true,if_true]
      refine wpAny_pure (wpAny_bind (wpAny_pure ?_))
      simp only [if_true]
      exact ih (m' + 1) _ (by omega) (by omega) rfl (next hkk)
    ·refine wpAny_bind (wpAny_holding (wpAny_eqBool_tuple hu (hxs p hp) hkey ?_))
     refine wpAny_bind (wpAny_setState_of ho hd ok.fits ?_)
     dsimp only
     by_cases hkk:p.1=k
     ·rw [decide_eq_true hkk]
      cases adding with
      | true=>exact wpAny_pure (yes ⟨p,hp,hkk⟩ none (fun z=>by cases z))
      | false =>
       simp only [Bool.false_and,Bool.false_eq_true,if_false]
       rw [sameMem]
       dsimp only
       rw [if_pos rfl,zg4 ok.ris q3]
       dsimp only
       rw [hei]
       dsimp only
       refine wpAny_bind ?_
       unfold isSame
       simp only [beq_self_eq_true,if_true]
       refine wpAny_pure (wpAny_bind (wpAny_pure ?_))
       simp only [if_true]
       exact wpAny_pure (yes ⟨p,hp,hkk⟩ (some i) fun _=>rfl)
     ·rw [decide_eq_false hkk]
      simp only [Bool.and_false,Bool.false_eq_true,if_false]
      rw [sameMem]
      dsimp only
      rw [if_pos rfl,zg4 ok.ris q3]
      dsimp only
      rw [hei]
      dsimp only
      refine wpAny_bind ?_
      unfold isSame
      simp only [beq_self_eq_true,if_true]
      refine wpAny_pure (wpAny_bind (wpAny_pure ?_))
      simp only [if_true]
      exact ih (m' + 1) _ (by omega) (by omega) rfl (next hkk)
   ·cases q2
    dsimp only
    refine wpAny_pure (no fun p hp e=>?_)
    obtain ⟨i,hi,hie⟩:=List.mem_iff_getElem.mp (el.sup p hp)
    rw [Array.length_toList] at hi
    have hei:es[i]? = some (zaz p.1,.ref p.2):=by rw [Array.getElem?_eq_getElem hi,←hie];simp
    obtain ⟨n,e1,e2⟩:=ok.pr i _ _ hei
    rw [e] at e1 e2
    have hn:n<N:=by
     rcases Nat.lt_trichotomy n N with c|c|c
     ·exact c
     ·subst c;exact absurd ⟨i,e1⟩ hN
     ·exact absurd (e2 N c) hN
    rcases Nat.lt_or_ge n m with c|c
    ·exact h4 n i p hp c e1 hei e
    ·refine q1 n i c hn e1 ?_
     show ((es[i]?).map (·.1)).getD 0=_
     rw [hei,e];rfl
  ·rename_i hq
   exfalso
   rcases znh ok hN hl hb h2 rfl h3 with ⟨m',i,q1,q2,q3,q4,q5,q6⟩|⟨q1,q2⟩
   ·exact hq _ q6
   ·exact hq _ q2
end
end TS
namespace TS
open PySem PySem.SetTable
noncomputable def zts (o:Obj) (xs:List (List Int × Addr)):Prop:=o.ExactSet/\∃es ep t,o.data=.set es ep t/\TOk t es/\Els es xs
noncomputable def TSet (a:Addr) (xs:List (List Int × Addr)) (h:Heap):Prop:=∃o,h.get? a=some o/\zts o xs
section
variable {prog:Program}{w:World}{A:Around}{E:Value->Shared->Prop}{s:Shared}{a x:Addr}{k:List Int}{xs:List (List Int × Addr)}
theorem TSet.typeIs (h:TSet a xs s.heap):s.TypeIs (.ref a) "set":=let ⟨o,ho,hc,_⟩:=h;⟨o,ho,hc.1⟩
theorem TSet.noDict (h:TSet a xs s.heap):∀b,Value.ref a=.ref b->∃ob,s.heap.get? b=some ob/\ob.dict=none:=fun b e=>by
 injection e with e;subst e;exact let ⟨o,ho,hc,_⟩:=h;⟨o,ho,hc.2.1⟩
theorem znk (x:Addr) (es:Array (Int × Value)):byScan (.ref x) es=false:=by simp [byScan,Value.scannable]
theorem setFind_t {Q:Option Nat->Shared->Prop}(hu:A.units<cLine) (hT:TSet a xs s.heap) (hxs:∀p∈xs,IsK prog w s.heap p.1 p.2) (hkey:IsK prog w s.heap k x)
  (h:∀r:Option Nat,r.isSome=decide (k∈xs.map (·.1))->Q r s):wpAny (model prog w) A (setFind a (.ref x) (zaz k)) Q E s:=by
 obtain ⟨o,ho,hex,es,ep,t,hd,ok,el⟩:=hT
 obtain ⟨N,hb,hN,hl⟩:=ok.empty (zaz k)
 unfold setFind setFindIn
 refine wpAny_bind (wpAny_setState_of ho hd ok.fits ?_)
 dsimp only
 rw [znk]
 simp only [Bool.false_eq_true,if_false]
 refine wpAny_bind ?_
 unfold setSearch
 have hm:=ok.sm
 refine znj hu ho hd ok el hxs hkey hN hl hb (fun hy r hr=>?_) (fun hn=>?_) 100000 0 none (by omega) (Nat.zero_le _) rfl (fun m' i p _ hm'=>by omega)
 ·obtain ⟨p,hp,e⟩:=hy
  exact wpAny_pure (h r (by rw [hr rfl,decide_eq_true (List.mem_map.mpr ⟨p,hp,e⟩)]))
 ·refine wpAny_pure (h none ?_)
  rw [decide_eq_false fun z=>?_]
  ·rfl
  ·obtain ⟨p,hp,e⟩:=List.mem_map.mp z;exact hn p hp e
theorem ztt {es:Array (Int × Value)}{p:Nat}(el:Els es xs):Els (insertAt es p (zaz k,.ref x)) (xs++[(k,x)]):=by
 have pm:=insertAt_perm es p (zaz k,Value.ref x)
 rw [Array.toList_push] at pm
 refine ⟨fun e he=>?_,fun q hq=>?_,?_⟩
 ·rcases List.mem_append.mp (pm.mem_iff.mp he) with he|he
  ·obtain ⟨q,hq,e1⟩:=el.sub e he;exact ⟨q,List.mem_append_left _ hq,e1⟩
  ·rw [List.mem_singleton] at he;subst he;exact ⟨(k,x),by simp,rfl⟩
 ·refine pm.mem_iff.mpr ?_
  rcases List.mem_append.mp hq with hq|hq
  ·exact List.mem_append_left _ (el.sup q hq)
  ·rw [List.mem_singleton] at hq;subst hq;simp
 ·rw [zd9,el.len];simp
theorem setAdd_t {Q:Bool->Shared->Prop}(hu:A.units<cLine) (hT:TSet a xs s.heap) (hxs:∀p∈xs,IsK prog w s.heap p.1 p.2) (hkey:IsK prog w s.heap k x) (hz:xs.length<1000)
  (old:k∈xs.map (·.1)->Q false s) (new:k ∉ xs.map (·.1)->∀h',Heap.SameBut a s.heap h'->TSet a (xs++[(k,x)]) h'->Q true { s with heap:=h' }):wpAny (model prog w) A (setAddHashed a (.ref x) (zaz k)) Q E s:=by
 obtain ⟨o,ho,hex,es,ep,t,hd,ok,el⟩:=hT
 obtain ⟨N,hb,hN,hl⟩:=ok.empty (zaz k)
 have hm:=ok.sm
 unfold setAddHashed setAddHashedIn
 refine wpAny_holding (wpAny_bind (wpAny_setState_of ho hd ok.fits ?_))
 dsimp only
 rw [znk]
 simp only [Bool.false_eq_true,if_false]
 refine wpAny_bind ?_
 unfold setSearch
 refine znj hu ho hd ok el hxs hkey hN hl hb (fun hy r hr=>?_) (fun hn=>?_) 100000 0 none (by omega) (Nat.zero_le _) rfl (fun m' i p _ hm'=>by omega)
 ·obtain ⟨p,hp,e⟩:=hy
  exact wpAny_pure (old (List.mem_map.mpr ⟨p,hp,e⟩))
 ·dsimp only
  have hnew:=new fun z=>by obtain ⟨p,hp,e⟩:=List.mem_map.mp z;exact hn p hp e
  refine wpAny_bind (wpAny_setState_of ho hd ok.fits ?_)
  have els:=ztt (k:=k) (x:=x) (p:=(t.put (pn t.mask (zaz k) N).j).2) el
  have hm1:(t.put (pn t.mask (zaz k) N).j).1.mask=t.mask:=rfl
  have hf1:(t.put (pn t.mask (zaz k) N).j).1.fill=es.size+1:=by rw [zj8 ok.dm];show (insertAt t.place _ _).size+t.dummies.size=_;rw [zd9,ok.dm,ok.sz];rfl
  have hp1:(t.put (pn t.mask (zaz k) N).j).1.place.size=es.size+1:=by rw [zj8 ok.dm];show (insertAt t.place _ _).size=_;rw [zd9,ok.sz]
  have hsz:(insertAt es (t.put (pn t.mask (zaz k) N).j).2 (zaz k,Value.ref x)).size=es.size+1:=zd9
  have put:=fun q=>ok.put (x:=.ref x) hN hl q
  generalize t.put (pn t.mask (zaz k) N).j=tp at *
  obtain ⟨t1,p⟩:=tp
  dsimp only at *
  have step:∀b:Bool,wpAny (model prog w) A (do
    storeSet a (insertAt es p (zaz k,Value.ref x)) (if b=true then t1 else { t1 with plain:=false })
    if (if b=true then t1 else { t1 with plain:=false }).tooFull=true then do
     setRelay a (grown (es.size+1))
     pure true
    else pure true) Q E s:=by
   intro b
   generalize ht2:(if b=true then t1 else { t1 with plain:=false })=t2
   have hm2:t2.mask=t.mask:=by rw [←ht2];split <;> exact hm1
   have hp2:t2.place.size=es.size+1:=by rw [←ht2];split <;> exact hp1
   have hf2:t2.fill=es.size+1:=by rw [←ht2];split <;> exact hf1
   have put2:(es.size+1)*5<t.mask*3->TOk t2 (insertAt es p (zaz k,.ref x)):=fun q=>by
    rw [←ht2];split
    ·exact put q
    ·exact (put q).plain false
   refine wpAny_bind (wpAny_storeSet_of ho hd ?_ (by rw [hsz];have:=el.len;rw [sizeLine_eq];omega))
   have hg:(s.heap.update a (Obj.putSet (insertAt es p (zaz k,.ref x)) t2)).get? a=some { o with data:=.set (insertAt es p (zaz k,.ref x)) (ep+1) t2 }:=by
    have:=Heap.get?_update_self (Obj.putSet (insertAt es p (zaz k,.ref x)) t2) ho (by rw [putSet_of _ _ hd];rfl)
    rw [putSet_of _ _ hd] at this;exact this
   have hsb1:=Heap.SameBut.update s.heap a (Obj.putSet (insertAt es p (zaz k,.ref x)) t2)
   by_cases full:t2.tooFull=true
   ·rw [if_pos full]
    refine wpAny_bind ?_
    unfold setRelay
    have hsl:es.size=xs.length:=el.len
    obtain ⟨kk,s1,s2,s3,s4⟩:=zne (n:=grown (es.size+1)) (by unfold grown;rw [if_neg (by omega)];omega)
    have hfit:t2.fits (insertAt es p (zaz k,Value.ref x)).size=true:=by
     have hro:=ok.ro
     obtain ⟨n,e1,e2⟩:=ok.pw
     have:2 ^ 3<=2 ^ n:=Nat.pow_le_pow_right (by decide) e2
     unfold SetTable.fits
     rw [hf2,hm2,hp2,hsz]
     simp
     omega
    obtain ⟨t3,order,es3,r1,r2,r3,r4,r5⟩:=ztp (t:=t2) (es:=insertAt es p (zaz k,Value.ref x)) (by omega) (by omega)
    rw [hsz] at r1
    refine wpAny_bind (wpAny_setState_of (s:={ s with heap:=s.heap.update a (Obj.putSet (insertAt es p (zaz k,.ref x)) t2) }) hg rfl hfit ?_)
    dsimp only
    rw [if_neg (by rw [s2,sizeLine_eq];omega)]
    refine wpAny_bind ?_
    rw [r1]
    show wpAny _ _ (if ((order.filterMap ((insertAt es p (zaz k,Value.ref x))[·]?)).size != (insertAt es p (zaz k,Value.ref x)).size)=true then _ else _) _ _ _
    rw [r2,if_neg (by rw [r3];simp)]
    refine wpAny_pure ?_
    dsimp only
    refine wpAny_storeSet_of (s:={ s with heap:=s.heap.update a (Obj.putSet (insertAt es p (zaz k,.ref x)) t2) }) hg rfl ?_ (by rw [r3,hsz,sizeLine_eq];omega)
    have hg2:((s.heap.update a (Obj.putSet (insertAt es p (zaz k,.ref x)) t2)).update a (Obj.putSet es3 t3)).get? a=some { o with data:=.set es3 (ep+1+1) t3 }:=by
     have:=Heap.get?_update_self (Obj.putSet es3 t3) hg (by rw [putSet_of es3 t3 (o:={ o with data:=.set (insertAt es p (zaz k,.ref x)) (ep+1) t2 }) rfl];rfl)
     rw [putSet_of es3 t3 (o:={ o with data:=.set (insertAt es p (zaz k,.ref x)) (ep+1) t2 }) rfl] at this;exact this
    refine wpAny_pure (hnew _ (hsb1.trans (Heap.SameBut.update _ a _)) ⟨_,hg2,hex,_,_,_,rfl,r4,⟨fun e he=>els.sub e ((r5 e).mp he),fun q hq=>(r5 _).mpr (els.sup q hq),by rw [r3];exact els.len⟩⟩)
   ·rw [if_neg full]
    refine wpAny_pure (hnew _ hsb1 ⟨_,hg,hex,_,_,_,rfl,put2 ?_,els⟩)
    unfold SetTable.tooFull at full
    rw [hf2,hm2] at full
    simp at full
    exact full
  split
  ·refine wpAny_bind (ztq hkey ?_)
   exact step true
  ·refine wpAny_bind (wpAny_pure ?_)
   exact step true
end
end TS
namespace BF
noncomputable def lx:List Nat->List Nat->Prop
 | a :: u,b :: v=>a<b∨(a=b/\lx u v)
 | _,_=>False
noncomputable def sl (u v:List Nat):Prop:=u.length<v.length∨(u.length=v.length/\lx u v)
noncomputable def le (u v:List Nat):Prop:=sl u v∨u=v
theorem znl:∀u,¬lx u u
 | [],h=>h
 | a :: u,h=>by rcases h with h|⟨_,h⟩;omega;exact znl u h
theorem znm:∀{u v w},lx u v->lx v w->lx u w
 | [],_,_,h,_=>h.elim
 | _ :: _,[],_,h,_=>h.elim
 | _ :: _,_ :: _,[],_,h=>h.elim
 | a :: u,b :: v,c :: w,h,g=>by
  rcases h with h|⟨h,h'⟩ <;> rcases g with g|⟨g,g'⟩
  ·exact .inl (by omega)
  ·exact .inl (by omega)
  ·exact .inl (by omega)
  ·exact .inr ⟨by omega,znm h' g'⟩
theorem zka (u:List Nat):¬sl u u:=fun h=>by
 rcases h with h|⟨_,h⟩
 ·omega
 ·exact znl u h
theorem zf0 {u v w:List Nat}(h:sl u v) (g:sl v w):sl u w:=by
 rcases h with h|⟨h,h'⟩ <;> rcases g with g|⟨g,g'⟩
 ·exact .inl (by omega)
 ·exact .inl (by omega)
 ·exact .inl (by omega)
 ·exact .inr ⟨by omega,znm h' g'⟩
theorem ztu {u v w:List Nat}(h:sl u v) (g:le v w):sl u w:=by
 rcases g with g|rfl
 ·exact zf0 h g
 ·exact h
theorem le_trans {u v w:List Nat}(h:le u v) (g:le v w):le u w:=by
 rcases h with h|rfl
 ·exact .inl (ztu h g)
 ·exact g
theorem ztv {u v:List Nat}(h:le u v):u.length<=v.length:=by
 rcases h with (h|⟨h,_⟩)|rfl <;> omega
theorem znn:∀{u v:List Nat}(c d:Nat),u.length=v.length->lx u v->lx (u++[c]) (v++[d])
 | [],_,_,_,_,h=>h.elim
 | _ :: _,[],_,_,_,h=>h.elim
 | a :: u,b :: v,c,d,hl,h=>by
  rcases h with h|⟨h,h'⟩
  ·exact .inl h
  ·exact .inr ⟨h,znn c d (by simpa using hl) h'⟩
theorem zkb {u v:List Nat}(c d:Nat) (h:sl u v):sl (u++[c]) (v++[d]):=by
 rcases h with h|⟨h,h'⟩
 ·exact .inl (by simpa using h)
 ·exact .inr ⟨by simpa using h,znn c d h h'⟩
theorem zno:∀(u:List Nat) {c d:Nat},c<d->lx (u++[c]) (u++[d])
 | [],_,_,h=>.inl h
 | _ :: u,_,_,h=>.inr ⟨rfl,zno u h⟩
theorem zid (u:List Nat) {c d:Nat}(h:c<d):sl (u++[c]) (u++[d]):=.inr ⟨by simp,zno u h⟩
theorem ztw {u v:List Nat}(a:Nat) (h:le u v):le (u++[a]) (v++[a]):=by
 rcases h with h|rfl
 ·exact .inl (zkb a a h)
 ·exact .inr rfl
noncomputable abbrev P:=Nat × Nat
section
variable (A:Nat) (step:P->Nat->Option P) (fail:P->Nat->Bool)
noncomputable def walk:P->List Nat->Option P
 | p,[]=>some p
 | p,a :: w=>(step p a).bind fun q=>walk q w
noncomputable def Fails (p:P) (w:List Nat):Prop:=∃u b q,w=u++[b]/\b<A/\(∀a∈u,a<A)/\walk step p u=some q/\fail q b=true
noncomputable def Least (p:P) (w:List Nat):Prop:=Fails A step fail p w/\∀v,Fails A step fail p v->¬sl v w
end
section
variable {A:Nat}{step:P->Nat->Option P}{fail:P->Nat->Bool}
theorem zie:∀(p:P) (u:List Nat) (a:Nat),walk step p (u++[a])=(walk step p u).bind fun q=>step q a
 | p,[],a=>by show (step p a).bind _=step p a;cases step p a <;> rfl
 | p,b :: u,a=>by
  show (step p b).bind _=((step p b).bind _).bind _
  cases step p b with
  | none=>rfl
  | some q=>exact zie q u a
structure Bf (A:Nat) (step:P->Nat->Option P) (fail:P->Nat->Bool) (p0:P) (ps:List P) (ws:List (List Nat)) (i c:Nat):Prop where
 len:ws.length=ps.length
 z:ps[0]? = some p0/\ws[0]? = some []
 wk:∀(k:Nat) q w,ps[k]? = some q->ws[k]? = some w->walk step p0 w=some q/\∀a∈w,a<A
 inc:∀(k l:Nat) u v,k<l->ws[k]? = some u->ws[l]? = some v->sl u v
 cl:∀(k:Nat) q w a q',((k<i/\a<A)∨(k=i/\a<c))->ps[k]? = some q->ws[k]? = some w->step q a=some q'->∃(l:Nat) (u:List Nat),ps[l]? = some q'/\ws[l]? = some u/\le u (w++[a])
 nf:∀(k:Nat) q a,((k<i/\a<A)∨(k=i/\a<c))->ps[k]? = some q->fail q a=false
 top:∀(k:Nat) w u,ws[k]? = some w->ws[i]? = some u->sl w (u++[c])
 nd:ps.Nodup
theorem Bf.start (p0:P):Bf A step fail p0 [p0] [[]] 0 0:=by
 have one:∀(k:Nat) w,([[]]:List (List Nat))[k]? = some w->k=0/\w=[]:=fun k w h=>by
  cases k with
  | zero=>exact ⟨rfl,by simpa using h.symm⟩
  | succ k=>simp at h
 refine ⟨rfl,⟨rfl,rfl⟩,fun k q w h1 h2=>?_,fun k l u v hkl h1 h2=>?_,fun k q w a q' h=>?_,fun k q a h=>?_,fun k w u h1 h2=>?_,by simp⟩
 ·obtain ⟨rfl,rfl⟩:=one k w h2
  have:p0=q:=by simpa using h1
  subst this
  exact ⟨rfl,fun a ha=>by simp at ha⟩
 ·have:=(one k u h1).1;have:=(one l v h2).1;omega
 ·omega
 ·omega
 ·obtain ⟨rfl,rfl⟩:=one k w h1
  obtain ⟨_,rfl⟩:=one 0 u h2
  exact .inl (by simp)
section
variable {p0 q q':P}{ps:List P}{ws:List (List Nat)}{w:List Nat}{i c:Nat}
theorem get_snoc {α:Type}{l:List α}{x y:α}{k:Nat}(h:(l++[x])[k]? = some y):l[k]? = some y∨(k=l.length/\y=x):=by
 rcases Nat.lt_trichotomy k l.length with hk|hk|hk
 ·rw [List.getElem?_append_left hk] at h;exact .inl h
 ·subst hk;rw [List.getElem?_append_right (Nat.le_refl _)] at h;exact .inr ⟨rfl,by simpa using h.symm⟩
 ·rw [List.getElem?_eq_none (by simp;omega)] at h;cases h
theorem get_left {α:Type}{l:List α}{x y:α}{k:Nat}(h:l[k]? = some y):(l++[x])[k]? = some y:=by
 rw [List.getElem?_append_left (List.getElem?_eq_some_iff.mp h).1];exact h
theorem Bf.push (b:Bf A step fail p0 ps ws i c) (hc:c<A) (hq:ps[i]? = some q) (hw:ws[i]? = some w) (hf:fail q c=false) (hs:step q c=some q') (hn:q' ∉ ps):Bf A step fail p0 (ps++[q']) (ws++[w++[c]]) i (c+1):=by
 have hiL:=(List.getElem?_eq_some_iff.mp hq).1
 refine ⟨by simp [b.len],⟨get_left b.z.1,get_left b.z.2⟩,fun k r u h1 h2=>?_,fun k l u v hkl h1 h2=>?_,fun k r u a r' h h1 h2 h3=>?_,fun k r a h h1=>?_,fun k u v h1 h2=>?_,?_⟩
 ·rcases get_snoc h1 with g1|⟨e1,rfl⟩ <;> rcases get_snoc h2 with g2|⟨e2,rfl⟩
  ·exact b.wk k r u g1 g2
  ·have:=(List.getElem?_eq_some_iff.mp g1).1;have:=b.len;omega
  ·have:=(List.getElem?_eq_some_iff.mp g2).1;have:=b.len;omega
  ·obtain ⟨h1,h2⟩:=b.wk i q w hq hw
   refine ⟨by rw [zie,h1];exact hs,fun a ha=>?_⟩
   rcases List.mem_append.mp ha with ha|ha
   ·exact h2 a ha
   ·have:a=c:=by simpa using ha
    omega
 ·rcases get_snoc h1 with g1|⟨e1,rfl⟩ <;> rcases get_snoc h2 with g2|⟨e2,rfl⟩
  ·exact b.inc k l u v hkl g1 g2
  ·exact b.top k u w g1 hw
  ·have:=(List.getElem?_eq_some_iff.mp g2).1;omega
  ·omega
 ·have hk:k<ps.length:=by omega
  have g1:ps[k]? = some r:=by rw [List.getElem?_append_left hk] at h1;exact h1
  have g2:ws[k]? = some u:=by rw [List.getElem?_append_left (by rw [b.len];exact hk)] at h2;exact h2
  by_cases hkc:k=i/\a=c
  ·obtain ⟨rfl,rfl⟩:=hkc
   rw [hq] at g1;cases g1
   rw [hw] at g2;cases g2
   rw [hs] at h3;cases h3
   exact ⟨ps.length,w++[a],by rw [List.getElem?_append_right (Nat.le_refl _)];simp,by rw [←b.len,List.getElem?_append_right (Nat.le_refl _)];simp,.inr rfl⟩
  ·obtain ⟨l,v,e1,e2,e3⟩:=b.cl k r u a r' (by omega) g1 g2 h3
   exact ⟨l,v,get_left e1,get_left e2,e3⟩
 ·have hk:k<ps.length:=by omega
  have g1:ps[k]? = some r:=by rw [List.getElem?_append_left hk] at h1;exact h1
  by_cases hkc:k=i/\a=c
  ·obtain ⟨rfl,rfl⟩:=hkc
   rw [hq] at g1;cases g1
   exact hf
  ·exact b.nf k r a (by omega) g1
 ·have g2:ws[i]? = some v:=by rw [List.getElem?_append_left (by rw [b.len];exact hiL)] at h2;exact h2
  rw [hw] at g2;cases g2
  rcases get_snoc h1 with g1|⟨e1,rfl⟩
  ·exact zf0 (b.top k u w g1 hw) (zid w (Nat.lt_succ_self c))
  ·exact zid w (Nat.lt_succ_self c)
 ·rw [List.nodup_append]
  exact ⟨b.nd,by simp,fun x hx y hy=>by have:y=q':=by simpa using hy
                                        subst this;exact fun e=>hn (e ▸ hx)⟩
theorem Bf.skip (b:Bf A step fail p0 ps ws i c) (hc:c<A) (hq:ps[i]? = some q) (hw:ws[i]? = some w) (hf:fail q c=false) (hs:∀q',step q c=some q'->q'∈ps):Bf A step fail p0 ps ws i (c+1):=by
 refine ⟨b.len,b.z,b.wk,b.inc,fun k r u a r' h h1 h2 h3=>?_,fun k r a h h1=>?_,fun k u v h1 h2=>?_,b.nd⟩
 ·by_cases hkc:k=i/\a=c
  ·obtain ⟨rfl,rfl⟩:=hkc
   rw [hq] at h1;cases h1
   rw [hw] at h2;cases h2
   obtain ⟨l,hl⟩:=List.mem_iff_getElem?.mp (hs r' h3)
   have hll:=(List.getElem?_eq_some_iff.mp hl).1
   have hwl:l<ws.length:=by rw [b.len];exact hll
   have hv:ws[l]? = some ws[l]:=List.getElem?_eq_getElem hwl
   exact ⟨l,_,hl,hv,.inl (b.top l _ w hv hw)⟩
  ·exact b.cl k r u a r' (by omega) h1 h2 h3
 ·by_cases hkc:k=i/\a=c
  ·obtain ⟨rfl,rfl⟩:=hkc
   rw [hq] at h1;cases h1
   exact hf
  ·exact b.nf k r a (by omega) h1
 ·exact zf0 (b.top k u v h1 h2) (zid v (Nat.lt_succ_self c))
theorem Bf.next (b:Bf A step fail p0 ps ws i A):Bf A step fail p0 ps ws (i+1) 0:=by
 refine ⟨b.len,b.z,b.wk,b.inc,fun k r u a r' h h1 h2 h3=>?_,fun k r a h h1=>?_,fun k u v h1 h2=>?_,b.nd⟩
 ·exact b.cl k r u a r' (by omega) h1 h2 h3
 ·exact b.nf k r a (by omega) h1
 ·have hl:=(List.getElem?_eq_some_iff.mp h2).1
  have hi:ws[i]? = some ws[i]:=List.getElem?_eq_getElem (by omega)
  exact zf0 (b.top k u _ h1 hi) (zkb A 0 (b.inc i (i+1) _ v (by omega) hi h2))
theorem Bf.key (b:Bf A step fail p0 ps ws i c) (u:List Nat) (hu:∀a∈u,a<A):∀q,walk step p0 u=some q->∃u1 u2 k w' q1,u=u1++u2/\ps[k]? = some q1/\ws[k]? = some w'/\walk step p0 u1=some q1/\le w' u1/\((u2=[]/\q1=q)∨i<=k):=by
 have gen:∀(n:Nat) (u:List Nat),u.length=n->(∀a∈u,a<A)->∀q,walk step p0 u=some q->∃u1 u2 k w' q1,u=u1++u2/\ps[k]? = some q1/\ws[k]? = some w'/\walk step p0 u1=some q1/\le w' u1/\((u2=[]/\q1=q)∨i<=k):=by
  intro n
  induction n with
  | zero =>
   intro u hl hu q hq
   have:u=[]:=List.length_eq_zero_iff.mp hl
   subst this
   cases hq
   exact ⟨[],[],0,[],p0,rfl,b.z.1,b.z.2,rfl,.inr rfl,.inl ⟨rfl,rfl⟩⟩
  | succ n ih =>
   intro u hl hu q hq
   obtain ⟨u',a,rfl⟩:∃u' a,u=u'++[a]:=by
    have hne:u≠[]:=fun e=>by subst e;simp at hl
    exact ⟨u.dropLast,u.getLast hne,(List.dropLast_concat_getLast hne).symm⟩
   rw [zie] at hq
   cases hq':walk step p0 u' with
   | none=>rw [hq'] at hq;cases hq
   | some q1 =>
    rw [hq'] at hq
    have hq:step q1 a=some q:=hq
    obtain ⟨u1,u2,k,w',q2,e0,e1,e2,e3,e4,e5⟩:=ih u' (by simpa using hl) (fun x hx=>hu x (List.mem_append_left _ hx)) q1 hq'
    by_cases hk:i<=k
    ·exact ⟨u1,u2++[a],k,w',q2,by rw [e0,List.append_assoc],e1,e2,e3,e4,.inr hk⟩
    ·rcases e5 with ⟨rfl,rfl⟩|e5
     ·rw [List.append_nil] at e0
      subst e0
      obtain ⟨l,v,g1,g2,g3⟩:=b.cl k q2 w' a q (.inl ⟨by omega,hu a (by simp)⟩) e1 e2 hq
      exact ⟨u'++[a],[],l,v,q,by simp,g1,g2,by rw [zie,hq'];exact hq,le_trans g3 (ztw a e4),.inl ⟨rfl,rfl⟩⟩
     ·exact absurd e5 hk
 exact gen u.length u rfl hu
theorem Bf.found (b:Bf A step fail p0 ps ws i c) (hc:c<A) (hq:ps[i]? = some q) (hw:ws[i]? = some w) (hf:fail q c=true):Least A step fail p0 (w++[c]):=by
 obtain ⟨hwk,hwa⟩:=b.wk i q w hq hw
 refine ⟨⟨w,c,q,rfl,hc,hwa,hwk,hf⟩,?_⟩
 rintro v ⟨u,d,r,rfl,hd,hu,hr,hfr⟩ hs
 obtain ⟨u1,u2,k,w',q1,e0,e1,e2,e3,e4,e5⟩:=b.key u hu r hr
 have wle:i<=k->le w w':=fun hk=>by
  rcases Nat.lt_or_ge i k with h|h
  ·exact .inl (b.inc i k w w' h hw e2)
  ·have:i=k:=by omega
   subst this
   rw [hw] at e2;cases e2;exact .inr rfl
 have fin:i<=k->False:=fun hk=>by
  have h1:le w u1:=le_trans (wle hk) e4
  have hl:=ztv h1
  have hlu:u.length=u1.length+u2.length:=by rw [e0,List.length_append]
  by_cases hlen:w.length<u.length
  ·rcases hs with h|⟨h,_⟩ <;> (simp at h;omega)
  ·have hu2:u2=[]:=List.length_eq_zero_iff.mp (by omega)
   subst hu2
   rw [List.append_nil] at e0
   subst e0
   rcases h1 with h1|rfl
   ·exact zka _ (zf0 hs (zkb c d h1))
   ·have hqr:q=r:=by rw [hwk] at hr;exact Option.some.inj hr
    subst hqr
    have hdc:c<=d:=by
     rcases Nat.lt_or_ge d c with h|h
     ·have:=b.nf i q d (.inr ⟨rfl,h⟩) hq
      rw [hfr] at this;cases this
     ·exact h
    rcases Nat.lt_or_ge c d with h|h
    ·exact zka _ (zf0 hs (zid w h))
    ·have:c=d:=by omega
     subst this
     exact zka _ hs
 rcases e5 with ⟨rfl,rfl⟩|e5
 ·by_cases hk:i<=k
  ·exact fin hk
  ·have:=b.nf k q1 d (.inl ⟨by omega,hd⟩) e1
   rw [hfr] at this;cases this
 ·exact fin e5
theorem Bf.none (b:Bf A step fail p0 ps ws ps.length 0):∀v,¬Fails A step fail p0 v:=by
 rintro v ⟨u,d,r,rfl,hd,hu,hr,hfr⟩
 obtain ⟨u1,u2,k,w',q1,e0,e1,e2,e3,e4,e5⟩:=b.key u hu r hr
 have hk:=(List.getElem?_eq_some_iff.mp e1).1
 rcases e5 with ⟨rfl,rfl⟩|e5
 ·have:=b.nf k q1 d (.inl ⟨hk,hd⟩) e1
  rw [hfr] at this;cases this
 ·omega
end
noncomputable def Fn (A:Nat) (step:P->Nat->Option P) (fail:P->Nat->Bool) (n:Nat) (p:P):Prop:=∃w,Fails A step fail p w/\w.length=n
noncomputable def Ds (A:Nat) (step:P->Nat->Option P) (fail:P->Nat->Bool) (p:P) (n:Nat):Prop:=Fn A step fail n p/\∀m,m<n->¬Fn A step fail m p
theorem Ds.uniq {p:P}{n m:Nat}(h:Ds A step fail p n) (g:Ds A step fail p m):n=m:=by
 rcases Nat.lt_trichotomy n m with c|c|c
 ·exact absurd h.1 (g.2 n c)
 ·exact c
 ·exact absurd g.1 (h.2 m c)
theorem fails_cons {p q:P}{a:Nat}{w:List Nat}(ha:a<A) (hs:step p a=some q) (h:Fails A step fail q w):Fails A step fail p (a :: w):=by
 obtain ⟨u,b,r,rfl,h1,h2,h3,h4⟩:=h
 refine ⟨a :: u,b,r,rfl,h1,fun x hx=>?_,by show (step p a).bind _=_;rw [hs];exact h3,h4⟩
 rcases List.mem_cons.mp hx with rfl|hx
 ·exact ha
 ·exact h2 x hx
theorem fails_inv {p:P}{a:Nat}{w:List Nat}(h:Fails A step fail p (a :: w)):(w=[]/\a<A/\fail p a=true)∨∃q,a<A/\step p a=some q/\Fails A step fail q w:=by
 obtain ⟨u,b,r,e,h1,h2,h3,h4⟩:=h
 cases u with
 | nil =>
  cases e
  cases h3
  exact .inl ⟨rfl,h1,h4⟩
 | cons x u =>
  cases e
  cases hs:step p a with
  | none=>rw [show walk step p (a :: u)=(step p a).bind _ from rfl,hs] at h3;cases h3
  | some q =>
   rw [show walk step p (a :: u)=(step p a).bind _ from rfl,hs] at h3
   exact .inr ⟨q,h2 a (by simp),rfl,u,b,r,rfl,h1,fun x hx=>h2 x (by simp [hx]),h3,h4⟩
theorem fails_ne {p:P}:¬Fails A step fail p []:=by
 rintro ⟨u,b,r,e,_⟩
 simp at e
theorem Fn.one {p:P}:Fn A step fail 1 p↔∃a,a<A/\fail p a=true:=by
 constructor
 ·rintro ⟨w,h,hl⟩
  cases w with
  | nil=>simp at hl
  | cons a w =>
   have:w=[]:=List.length_eq_zero_iff.mp (by simpa using hl)
   subst this
   rcases fails_inv h with ⟨_,h1,h2⟩|⟨q,_,_,h3⟩
   ·exact ⟨a,h1,h2⟩
   ·exact absurd h3 fails_ne
 ·rintro ⟨a,h1,h2⟩
  exact ⟨[a],⟨[],a,p,rfl,h1,fun x hx=>by simp at hx,rfl,h2⟩,rfl⟩
theorem Fn.zero {p:P}:¬Fn A step fail 0 p:=by
 rintro ⟨w,h,hl⟩
 have:w=[]:=List.length_eq_zero_iff.mp hl
 subst this
 exact fails_ne h
theorem Fn.succ {p:P}{n:Nat}:Fn A step fail (n+2) p↔∃a q,a<A/\step p a=some q/\Fn A step fail (n+1) q:=by
 constructor
 ·rintro ⟨w,h,hl⟩
  cases w with
  | nil=>simp at hl
  | cons a w =>
   rcases fails_inv h with ⟨e,_⟩|⟨q,h1,h2,h3⟩
   ·subst e;simp at hl
   ·exact ⟨a,q,h1,h2,w,h3,by simpa using hl⟩
 ·rintro ⟨a,q,h1,h2,w,h3,hl⟩
  exact ⟨a :: w,fails_cons h1 h2 h3,by simp [hl]⟩
theorem Ds.one {p:P}:Ds A step fail p 1↔∃a,a<A/\fail p a=true:=by
 constructor
 ·exact fun h=>Fn.one.mp h.1
 ·refine fun h=>⟨Fn.one.mpr h,fun m hm=>?_⟩
  have:m=0:=by omega
  subst this;exact Fn.zero
theorem ztx {Q:Nat->Prop}{n:Nat}(h:Q n):∃m,m<=n/\Q m/\∀k,k<m->¬Q k:=by
 induction n using Nat.strongRecOn with
 | _ n ih =>
  by_cases c:∃k,k<n/\Q k
  ·obtain ⟨k,hk,q⟩:=c
   obtain ⟨m,h1,h2⟩:=ih k hk q
   exact ⟨m,by omega,h2⟩
  ·exact ⟨n,Nat.le_refl _,h,fun k hk q=>c ⟨k,hk,q⟩⟩
theorem Ds.of {p:P}{n:Nat}(h:Fn A step fail n p):∃m,m<=n/\Ds A step fail p m:=by
 obtain ⟨m,h1,h2,h3⟩:=ztx (Q:=fun n=>Fn A step fail n p) h
 exact ⟨m,h1,h2,h3⟩
theorem Ds.round {p:P}{n:Nat}(hn:1<=n):Ds A step fail p (n+1)↔(¬∃m,m<=n/\Ds A step fail p m)/\∃a q m,a<A/\step p a=some q/\m<=n/\Ds A step fail q m:=by
 constructor
 ·intro h
  refine ⟨fun hx1_=>by obtain ⟨m,hm,d⟩:=hx1_;have:=h.uniq d;omega,?_⟩
  obtain ⟨k,rfl⟩:∃k,n=k+1:=⟨n-1,by omega⟩
  obtain ⟨a,q,h1,h2,h3⟩:=Fn.succ.mp h.1
  obtain ⟨m,hm,d⟩:=Ds.of h3
  exact ⟨a,q,m,h1,h2,hm,d⟩
 ·rintro ⟨h0,a,q,m,h1,h2,h3,h4⟩
  have hm:m≠0:=fun e=>by subst e;exact Fn.zero h4.1
  obtain ⟨k,rfl⟩:∃k,m=k+1:=⟨m-1,by omega⟩
  have hf:Fn A step fail (k+2) p:=Fn.succ.mpr ⟨a,q,h1,h2,h4.1⟩
  obtain ⟨j,hj,d⟩:=Ds.of hf
  have:¬j<=n:=fun hjn=>h0 ⟨j,hjn,d⟩
  have e:j=n+1:=by omega
  rw [←e];exact d
theorem Least.len {p:P}{w:List Nat}{n:Nat}(h:Least A step fail p w) (d:Ds A step fail p n):w.length=n:=by
 rcases Nat.lt_trichotomy w.length n with c|c|c
 ·exact absurd ⟨w,h.1,rfl⟩ (d.2 _ c)
 ·exact c
 ·obtain ⟨v,hv,hl⟩:=d.1
  exact absurd (.inl (by omega)) (h.2 v hv)
theorem Least.cons {p q:P}{a n:Nat}{w:List Nat}(d:Ds A step fail p (n+1)) (hn:1<=n) (ha:a<A) (hs:step p a=some q) (dq:Ds A step fail q n) (hb:∀b q',b<a->step p b=some q'->¬Ds A step fail q' n) (h:Least A step fail q w):Least A step fail p (a :: w):=by
 have hl:=h.len dq
 refine ⟨fails_cons ha hs h.1,fun v hv hsl=>?_⟩
 have hvl:v.length=n+1:=by
  rcases hsl with h' | ⟨h',_⟩
  ·exact absurd ⟨v,hv,rfl⟩ (d.2 v.length (by rw [List.length_cons] at h';omega))
  ·rw [List.length_cons] at h';omega
 cases v with
 | nil=>simp at hvl
 | cons b v =>
  rcases hsl with h' | ⟨_,h'⟩
  ·rw [hvl,List.length_cons] at h';omega
  ·rcases fails_inv hv with ⟨e,_⟩|⟨q',h1,h2,h3⟩
   ·subst e;simp at hvl;omega
   ·have hvl':v.length=n:=by simpa using hvl
    have dq':Ds A step fail q' n:=⟨⟨v,h3,hvl'⟩,fun m hm ⟨u,hu,hul⟩=>d.2 (m+1) (by omega) ⟨b :: u,fails_cons h1 h2 hu,by simp [hul]⟩⟩
    rcases h' with h' | ⟨e,h'⟩
    ·exact hb b q' h' h2 dq'
    ·subst e
     rw [hs] at h2;cases h2
     exact h.2 v h3 (.inr ⟨by omega,h'⟩)
end
theorem few {n:Nat}:∀(l:List Nat),l.Nodup->(∀x∈l,x<n)->l.length<=n:=by
 intro l hd hl
 rcases Nat.lt_or_ge n l.length with h|h
 ·exfalso
  refine TS.pigeon n (fun a=>l[a]?) (fun a ha=>?_) fun a b i l1 l2 e1 e2=>?_
  ·have:a<l.length:=by omega
   exact ⟨l[a],List.getElem?_eq_getElem this,hl _ (List.getElem_mem this)⟩
  ·have h1:a<l.length:=by omega
   exact (List.getElem?_inj h1 hd).mp (e1.trans e2.symm)
 ·exact h
theorem few2 {n m:Nat}(l:List P) (hd:l.Nodup) (hl:∀x∈l,x.1<n/\x.2<m):l.length<=n*m:=by
 have:=few (n:=n*m) (l.map fun x=>x.1*m+x.2) (by
  unfold List.Nodup
  rw [List.pairwise_map]
  refine List.Pairwise.imp_of_mem (fun {x y} hx hy hne e=>hne ?_) hd
  ·skip
   obtain ⟨h1,h2⟩:=hl x hx
   obtain ⟨h3,h4⟩:=hl y hy
   have e1:x.2=y.2:=by
    have a1:(x.1*m+x.2) % m=x.2:=by rw [Nat.mul_comm,Nat.mul_add_mod];exact Nat.mod_eq_of_lt h2
    have a2:(y.1*m+y.2) % m=y.2:=by rw [Nat.mul_comm,Nat.mul_add_mod];exact Nat.mod_eq_of_lt h4
    rw [←a1,←a2];exact congrArg (· % m) e
   have e2:x.1=y.1:=by
    have:x.1*m=y.1*m:=by omega
    exact Nat.eq_of_mul_eq_mul_right (by omega) this
   exact Prod.ext e2 e1) (fun z hz=>by
  obtain ⟨x,hx,rfl⟩:=List.mem_map.mp hz
  obtain ⟨h1,h2⟩:=hl x hx
  calc x.1*m+x.2<x.1*m+m:=by omega
   _=(x.1+1)*m:=by rw [Nat.add_mul,Nat.one_mul]
   _<=n*m:=Nat.mul_le_mul_right m h1)
 simpa using this
end BF
namespace SP
open PySem PySem.W PyProof.Rows
inductive Ok (lt:Nat->Nat->Bool) (n:Nat) {α:Type} (G:α->Prop):KasT α->Prop where
 | ret {a:α} (h:G a):Ok lt n G (.ret a)
 | ask {i j:Nat} {k:Bool->KasT α} (hi:i<n) (hj:j<n) (h:Ok lt n G (k (lt i j))):Ok lt n G (.ask i j k)
theorem Ok.bind {lt:Nat->Nat->Bool}{n:Nat}{α β:Type}{G:β->Prop}{G':α->Prop}{t:KasT α}{f:α->KasT β}(h:Ok lt n G' t) (hf:∀a,G' a->Ok lt n G (f a)):Ok lt n G (t.bind f):=by
 induction h with
 | ret h=>exact hf _ h
 | ask hi hj _ ih=>exact .ask hi hj ih
theorem Ok.wp {lt:Nat->Nat->Bool}{n:Nat}{α:Type}{G:α->Prop}{t:KasT α}{cmp:Nat->Nat->(Bool->Shared->Prop)->Shared->Prop}{Q:α->Shared->Prop}{s:Shared}(h:Ok lt n G t)
  (hc:∀i j C,i<n->j<n->C (lt i j) s->cmp i j C s) (hq:∀a,G a->Q a s):t.kasWp cmp Q s:=by
 induction h with
 | ret h=>exact hq _ h
 | ask hi hj _ ih=>exact hc _ _ _ hi hj ih
section
variable {r:Nat->Int}{n:Nat}
noncomputable def lt (r:Nat->Int) (i j:Nat):Bool:=decide (r i<r j)
noncomputable def at' (r:Nat->Int) (p:Array Nat) (k:Nat):Int:=r (p.getD k 0)
noncomputable def Pm (n:Nat) (p:Array Nat):Prop:=p.Perm (List.range n).toArray
noncomputable def Up (r:Nat->Int) (p:Array Nat) (m:Nat):Prop:=∀i j,i<j->j<m->at' r p i<at' r p j
noncomputable def Inj (r:Nat->Int) (n:Nat):Prop:=∀i j,i<n->j<n->r i=r j->i=j
theorem Pm.size {p:Array Nat}(h:Pm n p):p.size=n:=by
 have:=h.size_eq;simpa using this
theorem Pm.lt {p:Array Nat}(h:Pm n p) {k:Nat}(hk:k<n):p.getD k 0<n:=by
 have hs:=h.size
 have e:p.getD k 0=p[k]'(by omega):=by simp [Array.getD,hs,hk]
 have:=(Array.perm_iff_toList_perm.mp h).mem_iff (a:=p[k]'(by omega))
 rw [e]
 have h1:p[k]'(by omega)∈p.toList:=by simp
 simpa using this.mp h1
theorem Pm.inj {p:Array Nat}(h:Pm n p) (hr:Inj r n) {i j:Nat}(hi:i<n) (hj:j<n) (e:at' r p i=at' r p j):i=j:=by
 have hs:=h.size
 have e1:=hr _ _ (h.lt hi) (h.lt hj) e
 have ei:p.getD i 0=p[i]'(by omega):=by simp [Array.getD,hs,hi]
 have ej:p.getD j 0=p[j]'(by omega):=by simp [Array.getD,hs,hj]
 rw [ei,ej] at e1
 have nd:p.toList.Nodup:=(Array.perm_iff_toList_perm.mp h).nodup_iff.mpr (by simpa using List.nodup_range)
 have:p.toList[i]'(by simp;omega)=p.toList[j]'(by simp;omega):=by simpa using e1
 exact (List.getElem_inj nd).mp this
theorem Pm.lt_of {p:Array Nat}(h:Pm n p) (hr:Inj r n) {i j:Nat}(hi:i<n) (hj:j<n) (hij:i≠j) (e:¬at' r p j<at' r p i):at' r p i<at' r p j:=by
 rcases Int.lt_or_eq_of_le (Int.not_lt.mp e) with z|z
 ·exact z
 ·exact absurd (h.inj hr hi hj z) hij
theorem zif {p q:Array Nat}{i j:Nat}(h:p[i]? = q[j]?):at' r p i=at' r q j:=by
 unfold at'
 have:p.getD i 0=q.getD j 0:=by simp only [Array.getD_eq_getD_getElem?,h]
 rw [this]
theorem Up.more {p:Array Nat}{m:Nat}(u:Up r p m) (hm:0<m) (h:at' r p (m-1)<at' r p m):Up r p (m+1):=fun i j hij hj=>by
 by_cases e:j=m
 ·subst e
  by_cases e2:i=j-1
  ·rw [e2];exact h
  ·exact Int.lt_trans (u i (j-1) (by omega) (by omega)) h
 ·exact u i j hij (by omega)
theorem asc {p:Array Nat}(hp:Pm n p) (hr:Inj r n):∀(f m:Nat),m+f=n->1<=m->Up r p m->Ok (lt r) n (fun m'=>m<=m'/\m'<=n/\Up r p m'/\(m' < n->at' r p m' < at' r p (m' - 1))) (kas_asc p f m)
 | 0,m,e,h1,u=>.ret ⟨Nat.le_refl _,by omega,u,fun z=>by omega⟩
 | f+1,m,e,h1,u=>by
  refine .ask (hp.lt (by omega)) (hp.lt (by omega)) ?_
  by_cases c:at' r p m<at' r p (m-1)
  ·rw [if_pos (show lt r _ _=true from decide_eq_true c)]
   exact .ret ⟨Nat.le_refl _,by omega,u,fun _=>c⟩
  ·rw [if_neg (show ¬lt r _ _=true by rw [show lt r _ _=false from decide_eq_false c];simp)]
   have ih:=asc hp hr f (m+1) (by omega) (by omega) (u.more (by omega) (hp.lt_of hr (by omega) (by omega) (by omega) c))
   have:=Ok.bind (f:=KasT.ret) ih (fun a ha=>Ok.ret (G:=fun m'=>m<=m'/\m'<=n/\Up r p m'/\(m' < n->at' r p m' < at' r p (m' - 1))) ⟨by omega,ha.2.1,ha.2.2.1,ha.2.2.2⟩)
   have eb:∀{α:Type} (t:KasT α),t.bind KasT.ret=t:=fun t=>by
    induction t with
    | ret a=>rfl
    | ask i j k ih=>show KasT.ask i j (fun b=>(k b).bind KasT.ret)=_;congr 1;funext b;exact ih b
   rw [eb] at this
   exact this
noncomputable def Dn (r:Nat->Int) (p:Array Nat) (m:Nat):Prop:=∀i j,i<j->j<m->at' r p j<at' r p i
theorem znp {p:Array Nat}(hp:Pm n p) (hr:Inj r n):∀(f m:Nat),m+f=n->1<=m->Dn r p m->Ok (lt r) n (fun z=>∃m',z=(p,m',0)/\1<=m'/\m'<=n/\Dn r p m') (kas_desc f p m 0)
 | 0,m,e,h1,u=>.ret ⟨m,rfl,h1,by omega,u⟩
 | f+1,m,e,h1,u=>by
  refine .ask (hp.lt (by omega)) (hp.lt (by omega)) ?_
  by_cases c:at' r p m<at' r p (m-1)
  ·rw [if_pos (show lt r _ _=true from decide_eq_true c),if_neg (by omega)]
   refine znp hp hr f (m+1) (by omega) (by omega) fun i j hij hj=>?_
   by_cases e:j=m
   ·subst e
    by_cases e2:i=j-1
    ·rw [e2];exact c
    ·exact Int.lt_trans c (u i (j-1) (by omega) (by omega))
   ·exact u i j hij (by omega)
  ·rw [if_neg (show ¬lt r _ _=true by rw [show lt r _ _=false from decide_eq_false c];simp)]
   refine .ask (hp.lt (by omega)) (hp.lt (by omega)) ?_
   rw [if_pos (show lt r _ _=true from decide_eq_true (hp.lt_of hr (by omega) (by omega) (by omega) c))]
   exact .ret ⟨m,rfl,h1,by omega,u⟩
theorem znq {p:Array Nat}(hp:Pm n p) (i j:Nat):Pm n (kas_rev p i j):=(mirror_perm p i j _).trans hp
theorem zty {p:Array Nat}(hp:Pm n p) {m:Nat}(hm:m<=n) (d:Dn r p m):Up r (kas_rev p 0 m) m:=fun i j hij hj=>by
 have h:∀k,k<m->at' r (kas_rev p 0 m) k=at' r p (m-1-k):=fun k hk=>zif (by
  unfold kas_rev
  rw [getElem?_mirror_all (by rw [hp.size];exact hm),if_pos ⟨Nat.zero_le _,hk⟩]
  congr 1;omega)
 rw [h i (by omega),h j hj]
 exact d _ _ (by omega) (by omega)
noncomputable def ztz (r:Nat->Int) (n:Nat) (z:Nat × Array Nat):Prop:=1<=z.1/\z.1<=n/\Pm n z.2/\Up r z.2 z.1
theorem zt0 {p:Array Nat}(hp:Pm n p) (hr:Inj r n) (h1:1<=n):Ok (lt r) n (ztz r n) (kas_count n p):=by
 unfold kas_count
 refine (asc hp hr (n-1) 1 (by omega) (by omega) fun i j hij hj=>by omega).bind fun m ⟨g1,g2,g3,g4⟩=>?_
 by_cases e:m=n
 ·rw [if_pos (by simpa using e)]
  exact .ret ⟨g1,g2,hp,g3⟩
 ·rw [if_neg (by simpa using e)]
  by_cases e1:m > 1
  ·rw [if_pos e1]
   refine .ask (hp.lt (by omega)) (hp.lt (by omega)) ?_
   rw [if_pos (show lt r _ _=true from decide_eq_true (g3 0 (m-1) (by omega) (by omega)))]
   exact .ret ⟨g1,g2,hp,g3⟩
  ·rw [if_neg e1]
   have em:m=1:=by omega
   subst em
   unfold kas_descPart
   refine (znp hp hr (n-2) 2 (by omega) (by omega) fun i j hij hj=>?_).bind fun z ⟨m',ez,k1,k2,k3⟩=>?_
   ·have:i=0/\j=1:=by omega
    rw [this.1,this.2]
    exact g4 (by omega)
   ·subst ez
    rw [if_neg (show ¬(0:Nat) > 0 by omega)]
    unfold kas_tail3
    refine (asc (znq hp 0 m') hr (n-m') m' (by omega) k1 (zty hp k2 k3)).bind fun k ⟨q1,q2,q3,_⟩=>?_
    exact .ret ⟨by show 1<=k;omega,q2,znq hp 0 m',q3⟩
theorem place {p:Array Nat}(hp:Pm n p) {k:Nat}(hk:k<n) (u:Up r p k):∀(f l h:Nat),h-l<=f->l<=h->h<=k->(∀i,i<l->at' r p i<=at' r p k)->(∀i,h<=i->i<k->at' r p k<at' r p i) ->
  Ok (lt r) n (fun l'=>l'<=k/\(∀i,i<l'->at' r p i<=at' r p k)/\∀i,l'<=i->i<k->at' r p k<at' r p i) (kas_place p k f l h)
 | 0,l,h,e,hlh,hh,a,b=>by
  have:l=h:=by omega
  subst this
  exact .ret ⟨hh,a,b⟩
 | f+1,l,h,e,hlh,hh,a,b=>by
  unfold kas_place
  by_cases c:l ≥ h
  ·rw [if_pos c]
   have:l=h:=by omega
   subst this
   exact .ret ⟨hh,a,b⟩
  ·rw [if_neg c]
   refine .ask (hp.lt hk) (hp.lt (by omega)) ?_
   by_cases d:at' r p k<at' r p ((l+h) / 2)
   ·rw [if_pos (show lt r _ _=true from decide_eq_true d)]
    refine place hp hk u f l _ (by omega) (by omega) (by omega) a fun i hi hik=>?_
    by_cases z:i=(l+h) / 2
    ·rw [z];exact d
    ·exact Int.lt_trans d (u _ _ (by omega) hik)
   ·rw [if_neg (show ¬lt r _ _=true by rw [show lt r _ _=false from decide_eq_false d];simp)]
    refine place hp hk u f _ h (by omega) (by omega) hh (fun i hi=>?_) b
    by_cases z:i=(l+h) / 2
    ·rw [z];exact Int.not_lt.mp d
    ·exact Int.le_trans (Int.le_of_lt (u i ((l+h) / 2) (by omega) (by omega))) (Int.not_lt.mp d)
theorem bin (hr:Inj r n):∀(f:Nat) (p:Array Nat) (k:Nat),Pm n p->k+f=n->Up r p k->Ok (lt r) n (fun q=>Pm n q/\Up r q n) (kas_bin f p k)
 | 0,p,k,hp,e,u=>.ret ⟨hp,fun i j a b=>u i j a (by omega)⟩
 | f+1,p,k,hp,e,u=>by
  unfold kas_bin
  refine (place hp (by omega) u k 0 k (by omega) (by omega) (Nat.le_refl _) (fun i hi=>by omega) fun i h1 h2=>by omega).bind fun l ⟨hl,a,b⟩=>?_
  refine bin hr f _ (k+1) ((bubble_perm p k _).trans hp) (by omega) fun i j hij hj=>?_
  have g:∀x,x<=k->at' r (bubble p k (k-l)) x=if x=l then at' r p k else if l<x then at' r p (x-1) else at' r p x:=fun x hx=>by
   have h:=getElem?_bubble (xs:=p) (src:=k) (by rw [hp.size];omega) (k-l) (by omega) x
   have e1:k-(k-l)=l:=by omega
   rw [e1] at h
   by_cases z:x=l
   ·rw [if_pos z] at h ⊢;exact zif h
   ·rw [if_neg z] at h ⊢
    by_cases z2:l<x
    ·rw [if_pos ⟨z2,hx⟩] at h;rw [if_pos z2];exact zif h
    ·rw [if_neg (by omega)] at h;rw [if_neg z2];exact zif h
  have a':∀x,x<l->at' r p x<at' r p k:=fun x hx=>hp.lt_of hr (by omega) (by omega) (by omega) (Int.not_lt.mpr (a x hx))
  rw [g i (by omega),g j (by omega)]
  by_cases z1:i=l
  ·rw [if_pos z1,if_neg (by omega),if_pos (by omega)];exact b _ (by omega) (by omega)
  ·rw [if_neg z1]
   by_cases z2:l<i
   ·rw [if_pos z2,if_neg (by omega),if_pos (by omega)];exact u _ _ (by omega) (by omega)
   ·rw [if_neg z2]
    by_cases z3:j=l
    ·rw [if_pos z3];exact a' i (by omega)
    ·rw [if_neg z3]
     by_cases z4:l<j
     ·rw [if_pos z4]
      exact Int.lt_trans (a' i (by omega)) (b (j-1) (by omega) (by omega))
     ·rw [if_neg z4];exact u i j hij (by omega)
theorem sort (hr:Inj r n) (h1:1<=n):Ok (lt r) n (fun q=>Pm n q/\Up r q n) (kas_sort n):=by
 unfold kas_sort
 refine (zt0 (Array.Perm.refl _) hr h1).bind fun z ⟨g1,g2,g3,g4⟩=>?_
 by_cases e:z.1<n
 ·rw [if_pos e]
  have em:max z.1 1=z.1:=by omega
  rw [em]
  exact bin hr _ _ _ g3 (by omega) g4
 ·rw [if_neg e]
  have:z.1=n:=by omega
  exact .ret ⟨g3,by rw [←this];exact g4⟩
end
end SP
namespace SP
open PySem PySem.W PyProof.Rows PySem.Calls
noncomputable abbrev Pr:=Int × Int
theorem gD {α:Type}{l:List α}{i:Nat}{d:α}(h:i<l.length):l.getD i d=l[i]:=by simp [h]
noncomputable def plt (p q:Pr):Bool:=decide (p.1<q.1) || (decide (p.1=q.1) && decide (p.2<q.2))
theorem zea (p q:Pr):plt p q=true↔p.1<q.1∨(p.1=q.1/\p.2<q.2):=by unfold plt;simp
theorem zkc (p:Pr):plt p p=false:=by
 cases h:plt p p
 ·rfl
 ·have:=(zea p p).mp h;omega
theorem znr {p q r:Pr}(h1:plt p q=true) (h2:plt q r=true):plt p r=true:=by
 rw [zea] at *;omega
theorem zkd (p q:Pr) (h:p≠q):plt p q=true∨plt q p=true:=by
 rw [zea,zea]
 by_cases h1:p.1=q.1
 ·by_cases h2:p.2=q.2
  ·exact absurd (Prod.ext h1 h2) h
  ·omega
 ·omega
noncomputable def IsP (h:Heap) (v:Value) (p:Pr):Prop:=∃a o t1 t2 n,v=.ref a/\h.get? a=some o/\o.cls=.type "tuple"/\o.data=.seq #[.int p.1 t1,.int p.2 t2] n
theorem IsP.kept {h h':Heap}{v:Value}{p:Pr}(x:IsP h v p) (k:∀b o,o.cls=.type "tuple"->h.get? b=some o->h'.get? b=some o):IsP h' v p :=
 let ⟨a,o,t1,t2,n,e,ho,c,d⟩:=x;⟨a,o,t1,t2,n,e,k a o c ho,c,d⟩
inductive TR (R:Value->Pr->Prop):List Value->List Pr->Prop where
 | nil:TR R [] []
 | cons {v:Value} {p:Pr} {vs:List Value} {ps:List Pr}:R v p->TR R vs ps->TR R (v :: vs) (p :: ps)
noncomputable abbrev Tp (h:Heap):=TR (IsP h)
theorem TR.length {R:Value->Pr->Prop}{vs:List Value}{ps:List Pr}(t:TR R vs ps):vs.length=ps.length:=by
 induction t with
 | nil=>rfl
 | cons _ _ ih=>simp [ih]
theorem TR.imp {R R':Value->Pr->Prop}{vs:List Value}{ps:List Pr}(t:TR R vs ps) (k:∀v p,R v p->R' v p):TR R' vs ps:=by
 induction t with
 | nil=>exact .nil
 | cons x _ ih=>exact .cons (k _ _ x) ih
theorem TR.get {R:Value->Pr->Prop}{vs:List Value}{ps:List Pr}(t:TR R vs ps):∀{i:Nat},i<ps.length->R (vs.getD i .none) (ps.getD i (0,0)):=by
 induction t with
 | nil=>intro i hi;simp at hi
 | cons x _ ih =>
  intro i hi
  cases i with
  | zero=>simpa using x
  | succ j=>simpa using ih (i:=j) (by simpa using hi)
theorem tups {h:Heap}{vs:List Value}{ps:List Pr}(t:Tp h vs ps):∃fs:List Value,KatTups h vs fs/\fs.length=ps.length/\∀v∈fs,∃i k,v=.int i k:=by
 induction t with
 | nil=>exact ⟨[],.nil,rfl,fun v hv=>by simp at hv⟩
 | @cons v p vs ps x _ ih =>
  obtain ⟨fs,h1,h2,h3⟩:=ih
  obtain ⟨a,o,t1,t2,n,rfl,ho,c,d⟩:=x
  refine ⟨.int p.1 t1 :: fs,KatTups.cons ho c d rfl h1,by simp [h2],fun v hv=>?_⟩
  rcases List.mem_cons.mp hv with e|hv
  ·exact ⟨_,_,e⟩
  ·exact h3 v hv
section
variable {prog:Program}{w:World}{A:Around}{E:Value->Shared->Prop}{s:Shared}
theorem zt1 {vs:List Value}{ps:List Pr}{Q:SortKind->Shared->Prop}(t:Tp s.heap vs ps) (hne:0<ps.length) (h:Q (tuples' true) s):wpAny (model prog w) A (keyKind' vs.toArray) Q E s:=by
 obtain ⟨fs,h1,h2,h3⟩:=tups t
 refine kat_kind (T:=.type "int") h1 (by omega) (fun v hv=>?_) rfl h
 obtain ⟨i,k,rfl⟩:=h3 v hv
 intro A Q E s _ q
 exact wpAny_pure q
theorem zt2 {u v:Value}{p q:Pr}{Q:Bool->Shared->Prop}(hu:IsP s.heap u p) (hv:IsP s.heap v q) (h:Q (plt p q) s):wpAny (model prog w) A (keyLt' (tuples' true) u v) Q E s:=by
 obtain ⟨a,o,t1,t2,n,rfl,ho,c,d⟩:=hu
 obtain ⟨b,o',u1,u2,m,rfl,ho',c',d'⟩:=hv
 refine kat_lt ho d ho' d' ?_
 show KatLex prog w A true _ Q [(.int p.1 t1,.int q.1 u1),(.int p.2 t2,.int q.2 u2)] 0 s
 refine kat_cons (wpAny_eqBool_int ?_)
 by_cases e1:p.1=q.1
 ·rw [show (p.1 == q.1)=true by simpa using e1]
  refine kat_yes (kat_cons (wpAny_eqBool_int ?_))
  by_cases e2:p.2=q.2
  ·rw [show (p.2 == q.2)=true by simpa using e2]
   refine kat_yes (kat_nil ?_)
   have:plt p q=false:=by rw [show p=q from Prod.ext e1 e2];exact zkc q
   rw [this] at h
   exact h
  ·rw [show (p.2 == q.2)=false by simpa using e2]
   refine kat_no ?_
   show wpAny (model prog w) A (oneLt' false _ _) Q _ s
   refine kat_one _ _ (wpAny_lt_int ?_)
   have:plt p q=decide (p.2<q.2):=by unfold plt;simp [e1]
   rw [this] at h
   exact h
 ·rw [show (p.1 == q.1)=false by simpa using e1]
  refine kat_no ?_
  show wpAny (model prog w) A (oneLt' true _ _) Q _ s
  refine oneLt_int ?_
  have:plt p q=decide (p.1<q.1):=by unfold plt;simp [e1]
  rw [this] at h
  exact h
end
noncomputable def rk (ps:List Pr) (i:Nat):Int:=(ps.countP (fun q=>plt q (ps.getD i (0,0))):Nat)
theorem zns {ps:List Pr}{p q:Pr}(hp:p∈ps) (h:plt p q=true):ps.countP (fun z=>plt z p)<ps.countP (fun z=>plt z q):=by
 obtain ⟨l,r,rfl⟩:=List.append_of_mem hp
 have m:∀k:List Pr,k.countP (fun z=>plt z p)<=k.countP (fun z=>plt z q):=fun k=>List.countP_mono_left fun z _ hz=>znr hz h
 have m1:=m l
 have m2:=m r
 simp only [List.countP_append,List.countP_cons,zkc,h]
 simp only [Bool.false_eq_true,if_false,if_true]
 omega
theorem zig {ps:List Pr}{i j:Nat}(hi:i<ps.length) (hj:j<ps.length):lt (rk ps) i j=plt (ps.getD i (0,0)) (ps.getD j (0,0)):=by
 have mi:ps.getD i (0,0)∈ps:=by rw [gD hi];exact List.getElem_mem hi
 have mj:ps.getD j (0,0)∈ps:=by rw [gD hj];exact List.getElem_mem hj
 unfold lt rk
 cases h:plt (ps.getD i (0,0)) (ps.getD j (0,0)) with
 | true=>have:=zns mi h;exact decide_eq_true (by omega)
 | false =>
  refine decide_eq_false ?_
  by_cases e:ps.getD i (0,0)=ps.getD j (0,0)
  ·rw [e];omega
  ·rcases zkd _ _ e with z|z
   ·rw [z] at h;cases h
   ·have:=zns mj z;omega
theorem zt3 {ps:List Pr}(nd:ps.Nodup):Inj (rk ps) ps.length:=fun i j hi hj e=>by
 have h1:=zig hi hj
 have h2:=zig hj hi
 unfold lt at h1 h2
 rw [e] at h1 h2
 simp only [Int.lt_irrefl,decide_false] at h1 h2
 have:ps.getD i (0,0)=ps.getD j (0,0):=by
  by_cases z:ps.getD i (0,0)=ps.getD j (0,0)
  ·exact z
  ·rcases zkd _ _ z with y|y
   ·rw [y] at h1;cases h1
   ·rw [y] at h2;cases h2
 rw [gD hi,gD hj] at this
 exact (List.getElem_inj nd).mp this
noncomputable def ple (p q:Pr):Bool:=!plt q p
noncomputable def sortP (ps:List Pr):List Pr:=ps.mergeSort ple
theorem zt4 (a b c:Pr) (h1:ple a b=true) (h2:ple b c=true):ple a c=true:=by
 unfold ple at *
 simp only [Bool.not_eq_true'] at *
 have e1:=zea b a
 have e2:=zea c b
 have e3:=zea c a
 rw [h1] at e1;rw [h2] at e2
 cases h:plt c a
 ·rfl
 ·rw [h] at e3
  have e1:¬(b.1<a.1∨(b.1=a.1/\b.2<a.2)):=fun z=>Bool.false_ne_true (e1.mpr z)
  have e2:¬(c.1<b.1∨(c.1=b.1/\c.2<b.2)):=fun z=>Bool.false_ne_true (e2.mpr z)
  have e3:=e3.mp rfl
  omega
theorem zt5 (a b:Pr):(ple a b || ple b a)=true:=by
 unfold ple
 have e1:=zea b a
 have e2:=zea a b
 cases h1:plt b a
 ·rfl
 ·cases h2:plt a b
  ·rfl
  ·exfalso;have:=e1.mp h1;have:=e2.mp h2;omega
theorem zt6 (a b:Pr) (h1:ple a b=true) (h2:ple b a=true):a=b:=by
 unfold ple at *
 simp only [Bool.not_eq_true'] at *
 by_cases e:a=b
 ·exact e
 ·rcases zkd a b e with z|z
  ·rw [z] at h2;cases h2
  ·rw [z] at h1;cases h1
theorem znt (l:List Pr):(sortP l).Pairwise fun a b=>ple a b=true:=List.pairwise_mergeSort zt4 zt5 l
theorem sortP_perm (l:List Pr):(sortP l).Perm l:=List.mergeSort_perm l ple
theorem zke {a l:List Pr}(h:a.Perm l) (s:a.Pairwise fun x y=>ple x y=true):a=sortP l :=
 List.Perm.eq_of_pairwise (fun a b _ _=>zt6 a b) s (znt l) (h.trans (sortP_perm l).symm)
theorem sortP_eq {a b:List Pr}(h:a.Perm b):sortP a=sortP b:=zke ((sortP_perm a).trans h) (znt a)
theorem zt7 {ps:List Pr}(nd:ps.Nodup) {q:Array Nat}(hp:Pm ps.length q) (u:Up (rk ps) q ps.length):q.toList.map (fun i=>ps.getD i (0,0))=sortP ps:=by
 have hq:=Array.perm_iff_toList_perm.mp hp
 refine zke ?_ ?_
 ·have h1:=hq.map (fun i=>ps.getD i (0,0))
  have e:(List.range ps.length).map (fun i=>ps.getD i (0,0))=ps:=by
   apply List.ext_getElem
   ·simp
   ·intro i h1 h2
    simp [h2]
  have e2:((List.range ps.length).toArray).toList=List.range ps.length:=by simp
  rw [e2] at h1
  rw [e] at h1
  exact h1
 ·rw [List.pairwise_map,List.pairwise_iff_getElem]
  intro i j hi hj hij
  have hs:=hp.size
  have hi':i<ps.length:=by simpa [hs] using hi
  have hj':j<ps.length:=by simpa [hs] using hj
  have h1:=u i j hij hj'
  have g:∀k (hk:k<q.toList.length),q.toList[k]=q.getD k 0:=fun k hk=>by
   have hk:k<q.size:=by simpa using hk
   simp [Array.getD,hk]
  rw [g,g]
  have l1:=zig (ps:=ps) (hp.lt hi') (hp.lt hj')
  have l2:lt (rk ps) (q.getD i 0) (q.getD j 0)=true:=decide_eq_true h1
  rw [l2] at l1
  unfold ple
  cases h:plt (ps.getD (q.getD j 0) (0,0)) (ps.getD (q.getD i 0) (0,0))
  ·rfl
  ·have:=znr l1.symm h;rw [zkc] at this;cases this
section
variable {prog:Program}{w:World}{A:Around}{E:Value->Shared->Prop}{s:Shared}
theorem zt8 {a:Addr}{vs:List Value}{ps:List Pr}{n:Nat}{P:PySem.Fin->Shared->Prop}(ho:s.heap.get? a=some (seqObj "list" vs.toArray n)) (t:Tp s.heap vs ps) {R0:Value->Pr->Prop} (t0:TR R0 vs ps) (nd:ps.Nodup) (h64:ps.length<64)
  (h:∀out:List Value,TR R0 out (sortP ps)->P (.done (.ret .none)) { s with heap:=sortedHeap s.heap a vs out.toArray }):wpAny (model prog w) A (Builtin.«list.sort» ⟨[.ref a],[]⟩) P E s:=by
 have hl:=t.length
 have old:∀(f:Array Value->Array Value) (b:Addr) (o:Obj),o.cls=.type "tuple"->s.heap.get? b=some o->(((s.heap.update a (Obj.mapSeq f)).push (seqObj "tuple" vs.toArray 0)).push (seqObj "list" #[] 0)).get? b=some o:=fun f b o c e=>by
  have hb:b≠a:=fun z=>by rw [z,ho] at e;cases e;injection c with c;exact absurd c (by decide)
  exact Heap.get?_push_of_some _ (Heap.get?_push_of_some _ ((Heap.get?_update_other _ _ (Ne.symm hb)).trans e))
 obtain ⟨c1,g1⟩:∃c1,(s.heap.update a (Obj.mapSeq fun _=>(#[]:Array Value))).get? a=some (seqObj "list" #[] c1):=⟨_,get?_update_seq ho fun _=>#[]⟩
 have g3:(((s.heap.update a (Obj.mapSeq fun _=>(#[]:Array Value))).push (seqObj "tuple" vs.toArray 0)).push (seqObj "list" #[] 0)).get? a=some (seqObj "list" #[] c1):=Heap.get?_push_of_some _ (Heap.get?_push_of_some _ g1)
 have fits:∀k,k<64->k<=sizeLine:=fun k hk=>by rw [sizeLine_eq];omega
 rw [list_sort_plain]
 have hA:vs.toArray.size<=sizeLine:=by rw [List.size_toArray];exact fits _ (by omega)
 have hC:vs.toArray.toList.length<=sizeLine:=fits _ (by simpa [hl] using h64)
 refine wpAny_bind (listItems_at ho rfl (wpAny_bind (listUpdate_at ho rfl ?_ hA (Nat.zero_le _))))
 refine wpAny_bind (seqEpoch_at g1 rfl (wpAny_bind (wpAny_newTuple ?_ hC)))
 refine wpAny_bind (wpAny_newList (wpAny_holding ?_) (Nat.zero_le _))
 show wpAny (model prog w) A _ P E { s with heap:=((s.heap.update a (Obj.mapSeq fun _=>(#[]:Array Value))).push (seqObj "tuple" vs.toArray 0)).push (seqObj "list" #[] 0) }
 dsimp only
 have done:∀(out:Array Value) (st:SortSt),(arrOf st).map (·.2)=out->failedOf st=none->out.size=vs.length->TR R0 out.toList (sortP ps) ->
   wpAny (model prog w) A (do
    let touched:=(←seqEpoch a) != c1
    Builtin.List.listUpdate (.ref a) fun _=>(arrOf st).map (·.2)
    if let some e:=failedOf st then rule "list.sort.comparison-raised";throw e
    if touched then rule "list.sort.modified";raiseError "ValueError" "list modified during sort"
    ret .none) P E { s with heap:=((s.heap.update a (Obj.mapSeq fun _=>(#[]:Array Value))).push (seqObj "tuple" vs.toArray 0)).push (seqObj "list" #[] 0) }:=fun out st e1 e2 e3 e4=>by
  rw [e1,e2]
  refine wpAny_bind (seqEpoch_at g3 rfl (wpAny_bind (listUpdate_at g3 rfl ?_ (Nat.zero_le _) (by show out.size<=_;have:=fits vs.length (by omega);omega))))
  simp only [bne_self_eq_false,Bool.false_eq_true,if_false]
  have:=h out.toList e4
  rw [Array.toArray_toList] at this
  exact wpAny_pure this
 by_cases h2:vs.toArray.size<2
 ·rw [if_pos h2,if_pos h2]
  refine wpAny_bind (wpAny_pure ?_)
  rw [StateT.run_pure]
  refine wpAny_bind (wpAny_pure ?_)
  refine done vs.toArray (SortSt.mk' general' (vs.toArray.zip vs.toArray) #[] 7 none) ?_ rfl (by simp) ?_
  ·apply Array.toList_inj.mp
   show ((vs.toArray.zip vs.toArray).map (·.2)).toList=vs
   rw [Array.toList_map]
   have:=pairsOf_toList vs
   unfold pairsOf at this
   rw [this,List.map_snd_zip (Nat.le_refl _)]
  ·have:sortP ps=ps:=by
    refine (zke (List.Perm.refl _) ?_).symm
    rw [List.size_toArray] at h2
    rw [List.pairwise_iff_getElem]
    intro i j hi hj hij
    omega
   rw [this]
   exact t0
 ·rw [if_neg h2,if_neg h2]
  rw [List.size_toArray] at h2
  have t':Tp (((s.heap.update a (Obj.mapSeq fun _=>(#[]:Array Value))).push (seqObj "tuple" vs.toArray 0)).push (seqObj "list" #[] 0)) vs ps:=t.imp fun v p x=>x.kept (old _)
  refine wpAny_bind (zt1 (s:={ s with heap:=_ }) t' (by omega) ?_)
  refine wpAny_bind (wpAny_mono (kat_run (ks:=vs) (vs:=vs) (κ:=tuples' true) (E:=E) (Q:=fun st s'=>s' = { s with heap:=((s.heap.update a (Obj.mapSeq fun _=>(#[]:Array Value))).push (seqObj "tuple" vs.toArray 0)).push (seqObj "list" #[] 0) }/\∃q:Array Nat,Pm ps.length q/\Up (rk ps) q ps.length/\arrOf st=q.map (kas_item (vs.toArray.zip vs.toArray))/\failedOf st=none)
   (G:=fun q s'=>s' = { s with heap:=((s.heap.update a (Obj.mapSeq fun _=>(#[]:Array Value))).push (seqObj "tuple" vs.toArray 0)).push (seqObj "list" #[] 0) }/\Pm ps.length q/\Up (rk ps) q ps.length) rfl (by omega) (by omega) (fun p st' s' a1 a2 a3 a4=>⟨a4.1,p,a4.2.1,a4.2.2,a2,a3⟩) ?_) ?_ fun _ _ e=>e)
  ·rw [hl]
   refine (sort (zt3 nd) (by omega)).wp (fun i j C hi hj hC=>?_) fun q hq=>⟨rfl,hq⟩
   refine zt2 (p:=ps.getD i (0,0)) (q:=ps.getD j (0,0)) (t'.get hi) (t'.get hj) ?_
   rw [←zig hi hj]
   exact hC
  ·rintro ⟨⟨⟩,st⟩ s' ⟨rfl,q,hq,hu,ha,hf⟩
   have hout:=kat_snds (ks:=vs) (vs:=vs) rfl ha
   refine done _ st hout hf (by rw [List.size_toArray,List.length_map,Array.length_toList,hq.size,hl]) ?_
   have eo:=zt7 nd hq hu
   rw [←eo]
   show TR R0 (q.toList.map fun i=>vs.getD i Value.none) _
   have gen:∀l:List Nat,(∀i∈l,i<ps.length)->TR R0 (l.map fun i=>vs.getD i Value.none) (l.map fun i=>ps.getD i (0,0)):=fun l=>by
    induction l with
    | nil=>intro _;exact .nil
    | cons i l ih=>intro hm;exact   .cons (t0.get (hm i (by simp))) (ih fun k hk=>hm k (by simp [hk]))
   refine gen _ fun i hi=>?_
   have:=(Array.perm_iff_toList_perm.mp hq).mem_iff (a:=i)
   simpa using this.mp hi
end
end SP
namespace L2
open PySem PySem.Spec PyProof.Rows
noncomputable abbrev Key:=Sum Int Str
noncomputable def zf1:Key->Value->Bool
 | .inl k,v=>Value.isInt k v
 | .inr x,v=>Value.isStrOf x v
noncomputable def zt9 (w:World):Key->Int
 | .inl k=>hashInt k
 | .inr x=>hashStr w x
theorem zeb:∀{k:Key}{v:Value},zf1 k v=true->(∃i t,k=Sum.inl i/\v=Value.int i t)∨(∃x t,k=Sum.inr x/\v=Value.str x t)
 | .inl i,v,h=>by
  obtain ⟨t,e⟩:=Value.isInt_shape (k:=i) (v:=v) h
  exact .inl ⟨i,t,rfl,e⟩
 | .inr x,v,h=>by
  obtain ⟨t,e⟩:=Value.isStrOf_shape (x:=x) (v:=v) h
  exact .inr ⟨x,t,rfl,e⟩
theorem zua (i:Int) (t:Tok):zf1 (.inl i) (.int i t)=true:=by simp [zf1,Value.isInt]
theorem zub (x:Str) (t:Tok):zf1 (.inr x) (.str x t)=true:=by simp [zf1,Value.isStrOf]
theorem zuc (a b:Int):decide ((Sum.inl a:Key)=Sum.inl b)=(a == b):=by
 by_cases e:a=b
 ·subst e;simp
 ·have h:¬(Sum.inl a:Key)=Sum.inl b:=fun q=>e (Sum.inl.inj q)
  rw [decide_eq_false h]
  exact (beq_eq_false_iff_ne.mpr e).symm
theorem zud (a b:Str):decide ((Sum.inr a:Key)=Sum.inr b)=decide (a=b):=by
 by_cases e:a=b
 ·subst e;simp
 ·have h:¬(Sum.inr a:Key)=Sum.inr b:=fun q=>e (Sum.inr.inj q)
  rw [decide_eq_false h,decide_eq_false e]
theorem zue (a:Int) (b:Str):decide ((Sum.inl a:Key)=Sum.inr b)=false:=decide_eq_false (fun q=>nomatch q)
theorem zuf (a:Str) (b:Int):decide ((Sum.inr a:Key)=Sum.inl b)=false:=decide_eq_false (fun q=>nomatch q)
noncomputable def zca (prog:Program) (w:World):PySem.KeyKind prog w Key where
 is:=zf1
 hash:=zt9 w
 inj:=fun v a b ha hb=>by
  rcases zeb ha with ⟨i,t,rfl,rfl⟩|⟨x,t,rfl,rfl⟩
  ·rcases zeb hb with ⟨j,u,rfl,e⟩|⟨y,u,rfl,e⟩
   ·injection e with e1 _;rw [e1]
   ·exact nomatch e
  ·rcases zeb hb with ⟨j,u,rfl,e⟩|⟨y,u,rfl,e⟩
   ·exact nomatch e
   ·injection e with e1 _;rw [e1]
 byValue:=fun k v h=>by
  rcases zeb h with ⟨i,t,rfl,rfl⟩|⟨x,t,rfl,rfl⟩ <;> rfl
 pyHash:=fun hv h=>by
  rcases zeb hv with ⟨i,t,rfl,rfl⟩|⟨x,t,rfl,rfl⟩
  ·exact wpAny_pyHash_int h
  ·exact wpAny_pyHash_str h
 eqBool:=fun hu hv h=>by
  rcases zeb hu with ⟨i,t,rfl,rfl⟩|⟨x,t,rfl,rfl⟩
  ·rcases zeb hv with ⟨j,u,rfl,rfl⟩|⟨y,u,rfl,rfl⟩
   ·rw [zuc] at h;exact wpAny_eqBool_int h
   ·rw [zue] at h;exact SeqAt.EqAt.int_str i t y u _ _ _ _ h
  ·rcases zeb hv with ⟨j,u,rfl,rfl⟩|⟨y,u,rfl,rfl⟩
   ·rw [zuf] at h;exact SeqAt.EqAt.str_int x t j u _ _ _ _ h
   ·rw [zud] at h;exact wpAny_eqBool_str h
 «strs»:=fun k x t v h=>by
  rcases zeb h with ⟨i,u,rfl,e⟩|⟨y,u,rfl,e⟩
  ·exact nomatch e
  ·injection e with e1 _
   subst e1
   cases v <;> rfl
theorem zug (prog:Program) (w:World) (i:Int) (t:Tok):(zca prog w).is (.inl i) (.int i t)=true:=zua i t
theorem zuh (prog:Program) (w:World) (x:Str) (t:Tok):(zca prog w).is (.inr x) (.str x t)=true:=zub x t
end L2
namespace L2
open PySem PySem.Spec PyProof.Rows
inductive V where
 | non|bl (b:Bool)|int (i:Int)|str (x:Str)|byt (b:Array UInt8)|flt (b:UInt64)|ref (a:Addr)|ty (n:String)
 deriving DecidableEq
noncomputable def RelV:V->Value->Prop
 | .non,u=>u=Value.none
 | .bl b,u=>u=Value.bool b
 | .int i,u=>∃t,u=Value.int i t
 | .str x,u=>∃t,u=Value.str x t
 | .byt b,u=>∃t,u=Value.bytes b t
 | .flt b,u=>∃t,u=Value.float b t
 | .ref a,u=>u=Value.ref a
 | .ty n,u=>u=Value.type n
noncomputable abbrev Vals:List V->List Value->Prop:=Paired RelV
theorem Vals.length {xs:List V}{us:List Value}(r:Vals xs us):xs.length=us.length:=Paired.length r
theorem Vals.get:∀{xs:List V}{us:List Value}{i:Nat}{x:V},Vals xs us->xs[i]? = some x->∃u,us[i]? = some u/\RelV x u
 | _,_,_,_,.nil,e=>by simp at e
 | _,_,0,_,.cons r _,e=>by simp at e;subst e;exact ⟨_,rfl,r⟩
 | _,_,i+1,x,.cons _ t,e=>by
  obtain ⟨u,h1,h2⟩:=Vals.get (i:=i) (x:=x) t (by simpa using e)
  exact ⟨u,by simpa using h1,h2⟩
theorem Vals.set {x:V}{u:Value}(r:RelV x u):∀{xs:List V}{us:List Value}(i:Nat),Vals xs us->Vals (xs.set i x) (us.set i u)
 | _,_,_,.nil=>.nil
 | _,_,0,.cons _ t=>.cons r t
 | _,_,i+1,.cons q t=>.cons q (Vals.set r i t)
theorem Vals.append:∀{xs ys:List V}{us ws:List Value},Vals xs us->Vals ys ws->Vals (xs++ys) (us++ws)
 | _,_,_,_,.nil,s=>s
 | _,_,_,_,.cons r t,s=>.cons r (Vals.append t s)
theorem Vals.drop:∀{xs:List V}{us:List Value}(n:Nat),Vals xs us->Vals (xs.drop n) (us.drop n)
 | _,_,0,r=>r
 | _,_,_+1,.nil=>.nil
 | _,_,n+1,.cons _ t=>Vals.drop n t
noncomputable def RelO:Option V->Option Value->Prop
 | some v,some u=>RelV v u
 | none,none=>True
 | _,_=>False
noncomputable def KV {κ:Type}:List (κ × V)->List (κ × Value)->Prop:=Paired fun (p:κ × V) (q:κ × Value)=>p.1=q.1/\RelV p.2 q.2
noncomputable def kV:Key->V
 | .inl i=>.int i
 | .inr x=>.str x
inductive HO where
 | lst (xs:List V)
 | tup (xs:List V)
 | dK (kvs:List (Key × V))|dT (kvs:List (List Key × V))
 | set (S:Int->Bool) (n:Nat)
 | ins (C dx:Addr) (fs:List (Str × V))
 | own (x:Addr)
 | xd (fs:List (Str × V))
 | met (f x:Addr)
 | rng (lo hi:Int)
 | frz (o:Obj) (u:HO)
 | tbl (ps:Array Value)
 | ext (φ:Heap->Prop)
noncomputable abbrev Hp:=Addr->Option HO
noncomputable def upd (H:Hp) (a:Addr) (o:HO):Hp:=fun b=>if b=a then some o else H b
theorem zb7 {H:Hp}{a:Addr}{o:HO}:upd H a o a=some o:=by unfold upd;rw [if_pos rfl]
theorem zas {H:Hp}{a b:Addr}{o:HO}(h:b≠a):upd H a o b=H b:=by unfold upd;rw [if_neg h]
theorem zcw {H:Hp}{a b:Addr}{o u:HO}(h:H a=some o) (h':H b=some u) (d:o≠u):a≠b:=by
 intro e;subst e;rw [h] at h';exact d (Option.some.inj h')
theorem zbp {H:Hp}{a b:Addr}{o:HO}(h:H a=some o) (h':H b=none):a≠b:=by
 intro e;subst e;rw [h] at h';cases h'
section
variable (P:Program) (w:World)
noncomputable def ObjOk (H:Hp) (h:Heap) (a:Addr):HO->Prop
 | .lst xs=>xs.length<=sizeLine/\∃(its:List Value) (n:Nat),Vals xs its/\h.get? a=some { cls:=.type "list",data:=.seq its.toArray n }
 | .tup xs=>xs.length<=sizeLine/\∃its:List Value,Vals xs its/\IsTup h a its.toArray
 | .dK kvs=>kvs.length<=sizeLine/\(a == sysModules)=false/\∃vs,KV kvs vs/\h.DictOf (zca P w) a vs
 | .dT kvs=>kvs.length<=sizeLine/\(a == sysModules)=false/\∃xs:List (List Key × Addr × Value),
   Paired (fun (p:List Key × V) (q:List Key × Addr × Value)=>p.1=q.1/\H q.2.1=some (.tup (p.1.map kV))/\RelV p.2 q.2.2) kvs xs /\
   ∃o es ep,h.get? a=some o/\o.ExactDict/\o.data=.dict es ep/\es.toList=xs.map (entryOfKey (tupleKind (zca P w)))/\(xs.map (·.1)).Nodup
 | .set S n=>h.SetOf (intKind P w) a S n
 | .ins C dx fs=>H dx=some (.own a)/\fs.length<=1000/\dx≠a/\h.get? a=some (PySem.W.instObj C dx) /\
   ∃mA,h.Ns1 dx mA/\(∀f,RelO (fs.lookup f) (mA f))/\PySem.Within mA (fs.map (·.1))
 | .own _=>∃o,h.get? a=some o
 | .xd fs=>∃mA,h.Ns1 a mA/\∀f,RelO (fs.lookup f) (mA f)
 | .rng lo hi=>∃t u v,h.get? a=some { cls:=.type "range",data:=.fields #[.int lo t,.int hi u,.int 1 v] }
 | .frz o u=>h.get? a=some o/\ObjOk H h a u
 | .tbl ps=>h.get? a=some { cls:=.none,data:=.fields ps }
 | .met f x=>h.get? a=some (PySem.W.methodObj (.ref f) (.ref x))
 | .ext φ=>φ h/\(∃o,h.get? a=some o)/\∀h1 h2:Heap,φ h1->(∀o,h1.get? a=some o->h2.get? a=some o)->φ h2
noncomputable def HOk (H:Hp) (h:Heap):Prop:=∀a o,H a=some o->ObjOk P w H h a o
end
section
variable {P:Program}{w:World}{H H':Hp}{h h':Heap}{a:Addr}{o:HO}
theorem ObjOk.lt (x:ObjOk P w H h a o):a<h.objs.size:=by
 cases o with
 | lst xs=>obtain ⟨_,_,_,_,e⟩:=x;exact Heap.lt_size e
 | tup xs=>obtain ⟨_,_,_,p⟩:=x;exact p.lt
 | dK kvs=>obtain ⟨_,_,_,_,o,_,_,e,_⟩:=x;exact Heap.lt_size e
 | dT kvs=>obtain ⟨_,_,_,_,o,_,_,e,_⟩:=x;exact Heap.lt_size e
 | set S n=>obtain ⟨o,_,_,_,e,_⟩:=x;exact Heap.lt_size e
 | ins C dx fs=>obtain ⟨_,_,_,e,_⟩:=x;exact Heap.lt_size e
 | own y=>obtain ⟨_,e⟩:=x;exact Heap.lt_size e
 | xd fs=>obtain ⟨_,⟨_,_,_,e,_⟩,_⟩:=x;exact Heap.lt_size e
 | rng lo hi=>obtain ⟨_,_,_,e⟩:=x;exact Heap.lt_size e
 | frz ob u=>obtain ⟨e,_⟩:=x;exact Heap.lt_size e
 | tbl ps=>exact Heap.lt_size (show h.get? a=some _ from x)
 | met f y=>exact Heap.lt_size (show h.get? a=some _ from x)
 | ext φ=>obtain ⟨_,⟨_,e⟩,_⟩:=x;exact Heap.lt_size e
theorem Paired.mapP {α β:Type}{F G:α->β->Prop}:∀{l₁:List α}{l₂:List β},Paired F l₁ l₂->(∀a b,F a b->G a b)->Paired G l₁ l₂
 | _,_,.nil,_=>.nil
 | _,_,.cons r t,f=>.cons (f _ _ r) (Paired.mapP t f)
theorem ObjOk.stay (x:ObjOk P w H h a o) (k:∀b u,(b=a∨H b=some (.own a))->h.get? b=some u->h'.get? b=some u)
  (ho:∀b,H b=some (.own a)->H' b=some (.own a)) (ht:∀b xs,H b=some (.tup xs)->H' b=some (.tup xs)):ObjOk P w H' h' a o:=by
 induction o with
 | lst xs=>obtain ⟨z,its,n,r,e⟩:=x;exact ⟨z,its,n,r,k _ _ (.inl rfl) e⟩
 | tup xs=>obtain ⟨z,its,r,ob,e,c⟩:=x;exact ⟨z,its,r,ob,k _ _ (.inl rfl) e,c⟩
 | dK kvs=>obtain ⟨z,y,vs,r,ob,es,ep,e,c⟩:=x;exact ⟨z,y,vs,r,ob,es,ep,k _ _ (.inl rfl) e,c⟩
 | dT kvs =>
  obtain ⟨z,y,xs,r,ob,es,ep,e,c⟩:=x
  exact ⟨z,y,xs,Paired.mapP r fun p q z=>⟨z.1,ht _ _ z.2.1,z.2.2⟩,ob,es,ep,k _ _ (.inl rfl) e,c⟩
 | set S n=>obtain ⟨ob,es,ep,t,e,c⟩:=x;exact ⟨ob,es,ep,t,k _ _ (.inl rfl) e,c⟩
 | ins C dx fs =>
  obtain ⟨d,z,ne,e,mA,⟨od,es,ep,e2,c⟩,r⟩:=x
  exact ⟨ho _ d,z,ne,k _ _ (.inl rfl) e,mA,⟨od,es,ep,k _ _ (.inr d) e2,c⟩,r⟩
 | own y=>obtain ⟨ob,e⟩:=x;exact ⟨ob,k _ _ (.inl rfl) e⟩
 | xd fs=>obtain ⟨mA,⟨od,es,ep,e,c⟩,r⟩:=x;exact ⟨mA,⟨od,es,ep,k _ _ (.inl rfl) e,c⟩,r⟩
 | rng lo hi=>obtain ⟨t,u,v,e⟩:=x;exact ⟨t,u,v,k _ _ (.inl rfl) e⟩
 | frz ob u ih=>obtain ⟨e,q⟩:=x;exact ⟨k _ _ (.inl rfl) e,ih q⟩
 | tbl ps =>
  have e:h.get? a=some { cls:=.none,data:=.fields ps }:=x
  show h'.get? a=some { cls:=.none,data:=.fields ps }
  exact k a _ (.inl rfl) e
 | met f y =>
  have e:h.get? a=some (PySem.W.methodObj (.ref f) (.ref y)):=x
  show h'.get? a=some (PySem.W.methodObj (.ref f) (.ref y))
  exact k a _ (.inl rfl) e
 | ext φ=>obtain ⟨p,⟨o,e⟩,st⟩:=x;exact ⟨st _ _ p fun o q=>k _ _ (.inl rfl) q,⟨o,k _ _ (.inl rfl) e⟩,st⟩
theorem HOk.lt (x:HOk P w H h) (e:H a=some o):a<h.objs.size:=(x a o e).lt
theorem HOk.fresh (x:HOk P w H h) (e:h.objs.size<=a):H a=none:=by
 cases q:H a with
 | none=>rfl
 | some u=>exact absurd (Nat.lt_of_lt_of_le (x.lt q) e) (Nat.lt_irrefl _)
theorem HOk.kept (x:HOk P w H h) (k:∀b u,h.get? b=some u->h'.get? b=some u):HOk P w H h':=fun a o e =>
 (x a o e).stay (fun b u _ q=>k b u q) (fun _ q=>q) fun _ _ q=>q
theorem HOk.laid (x:HOk P w H h) (k:∀b u,h.get? b=some u->h'.get? b=some u) (hp:h.objs.size<=a) (new:ObjOk P w (upd H a o) h' a o):HOk P w (upd H a o) h':=fun b u e=>by
 have hn:=x.fresh hp
 by_cases hb:b=a
 ·subst hb;rw [zb7] at e;cases e;exact new
 ·rw [zas hb] at e
  exact (x b u e).stay (fun c v _ q=>k c v q) (fun c q=>by rw [zas (zbp q hn)];exact q) fun c xs q=>by rw [zas (zbp q hn)];exact q
end
noncomputable def Rd (H:Hp) (a:Addr) (u:HO):Prop:=H a=some u∨∃o,H a=some (.frz o u)
theorem Rd.ok {P:Program}{w:World}{H:Hp}{h:Heap}{a:Addr}{u:HO}(r:Rd H a u) (x:HOk P w H h):ObjOk P w H h a u:=by
 rcases r with r|⟨o,r⟩
 ·exact x a u r
 ·obtain ⟨_,q⟩:=x a _ r
  exact q
noncomputable def Mut:Option HO->Prop
 | some (.lst _)=>True
 | some (.dK _)=>True
 | some (.dT _)=>True
 | some (.set _ _)=>True
 | some (.ins _ _ _)=>True
 | some (.ext _)=>True
 | _=>False
section
variable {P:Program}{w:World}{H:Hp}{h h':Heap}{x e:Addr}{o':HO}
theorem HOk.write (ok:HOk P w H h) (mu:Mut (H x)) (he:e=x∨H e=some (.own x)) (k:∀b u,b≠e->h.get? b=some u->h'.get? b=some u) (heo:∃u,h'.get? e=some u)
  (new:ObjOk P w (upd H x o') h' x o'):HOk P w (upd H x o') h':=fun b u q=>by
 have nown:∀c y,H c=some (.own y)->c≠x:=fun c y r z=>by subst z;rw [r] at mu;exact mu
 have ntup:∀c xs,H c=some (.tup xs)->c≠x:=fun c xs r z=>by subst z;rw [r] at mu;exact mu
 by_cases hb:b=x
 ·subst hb;rw [zb7] at q;cases q;exact new
 ·rw [zas hb] at q
  by_cases hbe:b=e
  ·have q':H b=some (.own x):=by
    rcases he with z|z
    ·exact absurd (hbe.trans z) hb
    ·rw [hbe];exact z
   rw [q] at q';cases q'
   obtain ⟨v,hv⟩:=heo
   exact ⟨v,by rw [hbe];exact hv⟩
  ·refine (ok b u q).stay (fun c v hc r=>k c v ?_ r) (fun c r=>by rw [zas (nown c b r)];exact r) fun c xs r=>by rw [zas (ntup c xs r)];exact r
   rcases hc with rfl|hc
   ·exact hbe
   ·rintro rfl
    rcases he with z|z
    ·exact nown c b hc z
    ·rw [hc] at z;cases z;exact hb rfl
end
structure Un (fs ex:List Addr) (H H':Hp) (h h':Heap):Prop where
 keep:∀b o,h.get? b=some o->H b=none->b ∉ fs->b ∉ ex->h'.get? b=some o
 slot:∀b o,h.get? b=some o->H b=none->b∈fs->b ∉ ex->∃sl,h'.get? b=some { o with slots:=sl }
 free:∀b o,h.get? b=some o->H b=none->b ∉ ex->H' b=none
 there:∀b o,h.get? b=some o->b ∉ ex->∃o',h'.get? b=some o'
 tups:∀b xs,H b=some (.tup xs)->H' b=some (.tup xs)
 frzs:∀b o u,H b=some (.frz o u)->H' b=some (.frz o u)
 tbls:∀b ps,H b=some (.tbl ps)->∃more,H' b=some (.tbl (ps++more))
section
variable {fs fs' ex ex':List Addr}{H H1 H2:Hp}{h h1 h2 h':Heap}{a x e:Addr}{o:HO}
theorem Un.any (u:Un fs ex H H1 h h1) {b:Addr}{ob:Obj}(q:h.get? b=some ob) (n:H b=none) (hx:b ∉ ex):∃sl,h1.get? b=some { ob with slots:=sl }:=by
 by_cases hb:b∈fs
 ·exact u.slot b ob q n hb hx
 ·exact ⟨ob.slots,u.keep b ob q n hb hx⟩
theorem Un.kept (k:∀b u,h.get? b=some u->h'.get? b=some u):Un fs ex H H h h' :=
 ⟨fun b ob q _ _ _=>k b ob q,fun b ob q _ _ _=>⟨ob.slots,k b ob q⟩,fun _ _ _ n _=>n,fun b ob q _=>⟨ob,k b ob q⟩,fun _ _ q=>q,fun _ _ _ q=>q,fun _ ps q=>⟨#[],by rw [q];simp⟩⟩
theorem Un.refl:Un fs ex H H h h:=Un.kept fun _ _ q=>q
theorem Un.laid (k:∀b u,h.get? b=some u->h'.get? b=some u) (hp:h.objs.size<=a) (hn:H a=none):Un fs ex H (upd H a o) h h' where
 keep:=fun b u q _ _ _=>k b u q
 slot:=fun b u q _ _ _=>⟨u.slots,k b u q⟩
 free:=fun b u q n _=>by rw [zas (Nat.ne_of_lt (Nat.lt_of_lt_of_le (Heap.lt_size q) hp))];exact n
 there:=fun b u q _=>⟨u,k b u q⟩
 tups:=fun b xs q=>by rw [zas (zbp q hn)];exact q
 frzs:=fun b u xs q=>by rw [zas (zbp q hn)];exact q
 tbls:=fun b ps q=>⟨#[],by rw [zas (zbp q hn),q];simp⟩
theorem Un.write (mu:Mut (H x)) (he:e=x∨H e=some (.own x)) (k:∀b u,b≠e->h.get? b=some u->h'.get? b=some u) (heo:∃u,h'.get? e=some u):Un fs ex H (upd H x o) h h':=by
 have hx:∀b,H b=none->b≠x:=fun b n z=>by subst z;rw [n] at mu;exact mu
 have hb:∀b,H b=none->b≠e:=fun b n z=>by
  subst z
  rcases he with r|r
  ·exact hx b n r
  ·rw [n] at r;cases r
 have hm:∀b u,H b=some u->¬Mut (some u)->b≠x:=fun b u q nm z=>by subst z;rw [q] at mu;exact nm mu
 refine ⟨fun b u q n _ _=>k b u (hb b n) q,fun b u q n _ _=>⟨u.slots,k b u (hb b n) q⟩,fun b u q n _=>by rw [zas (hx b n)];exact n,fun b u q _=>?_,
  fun b xs q=>by rw [zas (hm b _ q fun z=>z)];exact q,fun b u xs q=>by rw [zas (hm b _ q fun z=>z)];exact q,fun b ps q=>⟨#[],by rw [zas (hm b _ q fun z=>z),q];simp⟩⟩
 by_cases hbe:b=e
 ·subst hbe;exact heo
 ·exact ⟨u,k b u hbe q⟩
end
noncomputable def trk (h:Heap) (H:Hp):List Addr:=(List.range h.objs.size).filter fun a=>(H a).isSome
noncomputable def zec (h:Heap) (H:Hp):Heap:=PySem.W.hideAll h (trk h H)
theorem zui (h:Heap) (H:Hp):(zec h H).objs.size=h.objs.size:=PySem.W.hideAll_size _ _
theorem zuj {h:Heap}{H:Hp}{b:Addr}{o:Obj}(e:h.get? b=some o) (n:H b=none):(zec h H).get? b=some o :=
 PySem.W.hideAll_get _ e fun hm=>by
  have q:(H b).isSome=true:=(List.mem_filter.mp hm).2
  rw [n] at q;simp at q
theorem zuk {h:Heap}{H:Hp}{b:Addr}{o:Obj}(e:(zec h H).get? b=some o):h.get? b=some o/\H b=none:=by
 have e':h.get? b=some o:=PySem.W.of_hideAll (trk h H) e
 refine ⟨e',?_⟩
 cases q:H b with
 | none=>rfl
 | some x =>
  have hm:b∈trk h H:=List.mem_filter.mpr ⟨List.mem_range.mpr (Heap.lt_size e'),by simp [q]⟩
  have z:(zec h H).get? b=none:=PySem.W.hideAll_none (trk h H) hm
  rw [z] at e;cases e
noncomputable def zul (g h:Heap) (L:Addr):List (Addr × Obj):=(List.range h.objs.size).filterMap fun a=>if a=L∨(g.get? a).isSome=true then none else (h.get? a).map fun o=>(a,o)
noncomputable def rest (g h:Heap) (L d:Addr):List (Addr × Obj):=(zul g h L).filter fun p=>decide (p.1≠d)
end L2
namespace L2
open PySem PySem.Spec PyProof.Rows
structure Mod (K:PySem.W.Frag) (mg:Str->Option Value) (base:Heap):Prop where
 kin:K.In base
 glob:base.Ns mainGlobals mg
 blt:∃mb,base.Ns builtinsNs mb/\∀x:Str,x≠"__name__"->mb x=bootBuiltins x
 nolimit:base.NoLimit
structure Cx where
 prog:Program
 w:World
 K:PySem.W.Frag
 mg:Str->Option Value
 base:Heap
 A:Around
 N:List Str
 s₀:Shared
 H₀:Hp
 env:Env
 outer:List Env
 stack:List Env
 ex:List Addr
 fn:Str->Bool
 calm:Bool
 pn:List (Addr × Obj)
 xe:Value->Shared->Prop
noncomputable def frs (l:List Env):List Addr:=l.filterMap (·.frame)
noncomputable abbrev Cx.fs (X:Cx):List Addr:=frs X.outer
noncomputable def Vis (sc:Scope) (x:Str):Prop:=sc.names.lookup x=some .local∨sc.names.lookup x=some .cell∨sc.names.lookup x=some .free
noncomputable def Loc (sc:Scope) (x:Str):Prop:=sc.names.lookup x=some .local∨sc.names.lookup x=some .cell
noncomputable def zum (env:Env) (h:Heap) (m:Str->Option Value) (x:Str) (u:Value):Prop :=
 (env.kindOf x=some .local/\m x=some u)∨((env.kindOf x=some .cell∨env.kindOf x=some .free)/\∃c,env.cells.lookup x=some c/\h.IsCell c (some u))
structure Cx.Ok (X:Cx):Prop where
 mod:Mod X.K X.mg X.base
 kind:X.env.scope.kind=.function
 glob:X.env.globals=mainGlobals
 blt:X.env.builtins=builtinsNs
 above:X.s₀.heap.objs.size<=X.env.locals
 inj:∀x y c,X.env.cells.lookup x=some c->X.env.cells.lookup y=some c->x=y
 has:∀x,(X.env.kindOf x=some .cell∨X.env.kindOf x=some .free)->∃c,X.env.cells.lookup x=some c
 cab:∀x c,X.fn x=true->X.env.cells.lookup x=some c->X.s₀.heap.objs.size<=c
 hd:X.calm=true->X.A.handled=none
 frames:X.A.frames=some X.stack
 stk:X.stack=X.outer∨(X.stack=X.env :: X.outer/\X.env.frame=some X.env.locals)
 exf:∀b∈X.ex,b≠X.env.locals/\∀x c,X.env.cells.lookup x=some c->c≠b
 bs:∀b o,X.base.get? b=some o->X.s₀.heap.get? b=some o/\X.H₀ b=none
 bsz:X.base.objs.size<=X.s₀.heap.objs.size
 noex:∀b o,X.base.get? b=some o->b ∉ X.ex
 exfs:∀b∈X.ex,b ∉ X.fs
 funs:X.s₀.heap.FunFrames X.base X.outer
 frf:∀b∈X.fs,X.H₀ b=none
structure Inv (X:Cx) (pins:List (Addr × Obj)) (σ:List (Option V)) (H:Hp) (s:Shared):Prop where
 ok:X.Ok
 os:s.os=X.s₀.os
 bare:AllBare s.gens
 base:Un X.fs X.ex X.H₀ H X.s₀.heap s.heap
 loc:∃m,s.heap.Ns X.env.locals m/\∀(i:Nat) (x:Str) (v:V),X.N[i]? = some x->σ[i]? = some (some v)->Vis X.env.scope x->∃u,RelV v u/\zum X.env s.heap m x u
 cell:∀x c,X.env.cells.lookup x=some c->∃v,s.heap.IsCell c v
 free:H X.env.locals=none
 freeC:∀x c,X.env.cells.lookup x=some c->H c=none
 pin:∀p∈X.pn++pins,s.heap.get? p.1=some p.2/\H p.1=none/\p.1≠X.env.locals/\p.1 ∉ X.fs/\∀v,p.2.data≠.cell v
 hok:HOk X.prog X.w H s.heap
 len:σ.length=X.N.length
section
variable {X:Cx}{pins:List (Addr × Obj)}{σ:List (Option V)}{H H':Hp}{s:Shared}{h':Heap}
theorem Cx.Ok.nofr (ok:X.Ok) {b:Addr}{o:Obj}(e:X.base.get? b=some o):b ∉ X.fs:=fun hb=>by
 have:=(ok.funs.mem hb).1
 rw [e] at this;cases this
theorem Inv.bs (I:Inv X pins σ H s):∀b o,X.base.get? b=some o->s.heap.get? b=some o/\H b=none:=fun b o e =>
 ⟨I.base.keep b o (I.ok.bs b o e).1 (I.ok.bs b o e).2 (I.ok.nofr e) (I.ok.noex b o e),I.base.free b o (I.ok.bs b o e).1 (I.ok.bs b o e).2 (I.ok.noex b o e)⟩
theorem Inv.bk (I:Inv X pins σ H s):∀b o,X.base.get? b=some o->s.heap.get? b=some o:=fun b o e=>(I.bs b o e).1
theorem Inv.mod (I:Inv X pins σ H s):Mod X.K X.mg X.base:=I.ok.mod
theorem Inv.kIn (I:Inv X pins σ H s):X.K.In s.heap:=I.ok.mod.kin.keeps I.bk
theorem Inv.nolimit (I:Inv X pins σ H s):s.heap.NoLimit:=I.ok.mod.nolimit.keeps I.bk
theorem Inv.lt (I:Inv X pins σ H s):X.env.locals<s.heap.objs.size:=let ⟨_,hn,_⟩:=I.loc;hn.lt
theorem Inv.sz (I:Inv X pins σ H s):X.s₀.heap.objs.size<=s.heap.objs.size:=Nat.le_trans I.ok.above (Nat.le_of_lt I.lt)
theorem Inv.nofs (I:Inv X pins σ H s) {a:Addr}(h:s.heap.objs.size<=a):a ∉ X.fs:=fun hb=>by
 obtain ⟨_,o,ho,_⟩:=I.ok.funs.mem hb
 exact absurd (Nat.lt_of_lt_of_le (Heap.lt_size ho) (Nat.le_trans I.sz h)) (Nat.lt_irrefl _)
theorem Inv.cne (I:Inv X pins σ H s):∀x c,X.env.cells.lookup x=some c->c≠X.env.locals:=fun x c e z=>by
 obtain ⟨v,o,ho,hd⟩:=I.cell x c e
 obtain ⟨m,⟨o',es,ep,ho',hd',_⟩,_⟩:=I.loc
 rw [z,ho'] at ho;cases ho;rw [hd'] at hd;cases hd
theorem Inv.funs (I:Inv X pins σ H s):s.heap.FunFrames X.base X.outer:=by
 have all:∀(l:List Env),(∀b∈frs l,b∈X.fs)->X.s₀.heap.FunFrames X.base l->s.heap.FunFrames X.base l:=by
  intro l
  induction l with
  | nil=>intro _ _;trivial
  | cons env r ih =>
   intro hs hl
   obtain ⟨hk,⟨L,o,hf,hn,ho,hd⟩,hr⟩:=hl
   have hL:L∈X.fs:=hs L (by unfold frs;rw [List.filterMap_cons,hf];exact List.mem_cons_self)
   obtain ⟨sl,e⟩:=I.base.slot L o ho (I.ok.frf L hL) hL fun z=>I.ok.exfs L z hL
   exact ⟨hk,⟨L,_,hf,hn,e,hd⟩,ih (fun b hb=>hs b (by unfold frs;rw [List.filterMap_cons,hf];exact List.mem_cons_of_mem _ hb)) hr⟩
 exact all X.outer (fun _ hb=>hb) I.ok.funs
theorem Inv.stack (I:Inv X pins σ H s):s.heap.FunFrames X.base X.stack:=by
 rcases I.ok.stk with e|⟨e,hf⟩
 ·rw [e];exact I.funs
 ·rw [e]
  obtain ⟨m,hn,_⟩:=I.loc
  refine .cons (by rw [I.ok.kind];decide) hf hn ?_ I.funs
  exact Heap.get?_none_of_le (Nat.le_trans I.ok.bsz I.ok.above)
theorem Inv.stkSub (I:Inv X pins σ H s):∀b∈frs X.stack,b∈X.env.locals :: X.fs:=fun b hb=>by
 rcases I.ok.stk with e|⟨e,hf⟩
 ·rw [e] at hb;exact List.mem_cons_of_mem _ hb
 ·rw [e] at hb
  unfold frs at hb
  rw [List.filterMap_cons,hf] at hb
  exact hb
theorem Inv.stkFree (I:Inv X pins σ H s):∀b∈frs X.stack,H b=none:=fun b hb=>by
 rcases List.mem_cons.mp (I.stkSub b hb) with e|hb
 ·rw [e];exact I.free
 ·obtain ⟨_,o,ho,_⟩:=I.ok.funs.mem hb
  exact I.base.free b o ho (I.ok.frf b hb) fun z=>I.ok.exfs b z hb
theorem Inv.step {g':Array GenState}{t':Nat}{d':Drawn}{ch:List Addr}(I:Inv X pins σ H s)
  (hch:∀b∈ch,(b∈X.ex∨X.s₀.heap.objs.size<=b)/\b≠X.env.locals/\(∀x c,X.env.cells.lookup x=some c->c≠b)/\∀p∈X.pn++pins,p.1≠b)
  (keep:∀b o,b≠X.env.locals->b ∉ X.fs->b ∉ ch->s.heap.get? b=some o->H b=none->h'.get? b=some o)
  (slot:∀b o,b≠X.env.locals->b∈X.fs->b ∉ ch->s.heap.get? b=some o->H b=none->∃sl,h'.get? b=some { o with slots:=sl }) (free:∀b o,b ∉ ch->s.heap.get? b=some o->H b=none->H' b=none)
  (there:∀b o,b ∉ ch->s.heap.get? b=some o->∃o',h'.get? b=some o')
  (tups:∀b xs,H b=some (.tup xs)->H' b=some (.tup xs)) (frzs:∀b o u,H b=some (.frz o u)->H' b=some (.frz o u)) (tbls:∀b ps,H b=some (.tbl ps)->∃more,H' b=some (.tbl (ps++more)))
  (ns:∀m,s.heap.Ns X.env.locals m->h'.Ns X.env.locals m) (hok:HOk X.prog X.w H' h') (hg:AllBare g') :
  Inv X pins σ H' { s with heap:=h',gens:=g',drawn:=d',toks:=t' }:=by
 have neL:∀b o,X.s₀.heap.get? b=some o->b≠X.env.locals:=fun b o e=>Nat.ne_of_lt (Nat.lt_of_lt_of_le (Heap.lt_size e) I.ok.above)
 have neC:∀b o,X.s₀.heap.get? b=some o->b ∉ X.ex->b ∉ ch:=fun b o e hx hb=>by
  rcases (hch b hb).1 with z|z
  ·exact hx z
  ·exact absurd (Nat.lt_of_lt_of_le (Heap.lt_size e) z) (Nat.lt_irrefl _)
 have cellK:∀x c,X.env.cells.lookup x=some c->∀v,s.heap.IsCell c v->h'.IsCell c v:=fun x c e v hx1_=>by
  obtain ⟨o,ho,hd⟩:=hx1_
  have nch:c ∉ ch:=fun z=>(hch c z).2.2.1 x c e rfl
  by_cases hc:c∈X.fs
  ·obtain ⟨sl,q⟩:=slot c o (I.cne x c e) hc nch ho (I.freeC x c e)
   exact ⟨_,q,hd⟩
  ·exact ⟨o,keep c o (I.cne x c e) hc nch ho (I.freeC x c e),hd⟩
 refine ⟨I.ok,I.os,hg,⟨fun b o e n hb hx=>?_,fun b o e n hb hx=>?_,fun b o e n hx=>?_,fun b o e hx=>?_,fun b xs e=>tups b xs (I.base.tups b xs e),fun b o xs e=>frzs b o xs (I.base.frzs b o xs e),fun b ps e=>?_⟩,?_,fun x c e=>?_,?_,fun x c e=>?_,fun p hp=>?_,hok,I.len⟩
 ·exact keep b o (neL b o e) hb (neC b o e hx) (I.base.keep b o e n hb hx) (I.base.free b o e n hx)
 ·obtain ⟨sl,e1⟩:=I.base.slot b o e n hb hx
  obtain ⟨sl',e2⟩:=slot b _ (neL b o e) hb (neC b o e hx) e1 (I.base.free b o e n hx)
  exact ⟨sl',e2⟩
 ·obtain ⟨o',e1⟩:=I.base.there b o e hx
  exact free b o' (neC b o e hx) e1 (I.base.free b o e n hx)
 ·obtain ⟨o',e1⟩:=I.base.there b o e hx
  exact there b o' (neC b o e hx) e1
 ·obtain ⟨m1,e1⟩:=I.base.tbls b ps e
  obtain ⟨m2,e2⟩:=tbls b _ e1
  exact ⟨m1++m2,by rw [e2,Array.append_assoc]⟩
 ·obtain ⟨m,hn,hl⟩:=I.loc
  refine ⟨m,ns m hn,fun i x v e1 e2 e3=>?_⟩
  obtain ⟨u,r,l⟩:=hl i x v e1 e2 e3
  refine ⟨u,r,?_⟩
  rcases l with l|⟨k,c,e,z⟩
  ·exact .inl l
  ·exact .inr ⟨k,c,e,cellK x c e _ z⟩
 ·obtain ⟨v,z⟩:=I.cell x c e
  exact ⟨v,cellK x c e v z⟩
 ·obtain ⟨m,⟨o,_,_,ho,_⟩,_⟩:=I.loc
  exact free _ o (fun z=>(hch _ z).2.1 rfl) ho I.free
 ·obtain ⟨v,o,ho,hd⟩:=I.cell x c e
  exact free c o (fun z=>(hch c z).2.2.1 x c e rfl) ho (I.freeC x c e)
 ·obtain ⟨e,n,ne,nf,d⟩:=I.pin p hp
  have nch:p.1 ∉ ch:=fun z=>(hch p.1 z).2.2.2 p hp rfl
  exact ⟨keep p.1 p.2 ne nf nch e n,free p.1 p.2 nch e n,ne,nf,d⟩
theorem Inv.un {t':Nat}(I:Inv X pins σ H s) (u:Un X.fs [] H H' s.heap h') (hok:HOk X.prog X.w H' h'):Inv X pins σ H' { s with heap:=h',toks:=t' }:=by
 obtain ⟨m,⟨o,es,ep,ho,r⟩,_⟩:=id I.loc
 obtain ⟨sl,hL⟩:=u.any ho I.free (by simp)
 exact I.step (g':=s.gens) (d':=s.drawn) (ch:=[]) (fun _ z=>nomatch z) (fun b o _ hb _ e n=>u.keep b o e n hb (by simp)) (fun b o _ hb _ e n=>u.slot b o e n hb (by simp)) (fun b o _ e n=>u.free b o e n (by simp)) (fun b o _ e=>u.there b o e (by simp)) u.tups u.frzs u.tbls (fun m' hm=>by
  obtain ⟨o',es',ep',ho',r'⟩:=hm
  rw [ho] at ho';cases ho'
  exact ⟨_,es',ep',hL,r'⟩) hok I.bare
theorem Inv.call {g':Array GenState}{t':Nat}{d':Drawn}{ch:List Addr}(I:Inv X pins σ H s) (u:Un (frs X.stack) ch H H' s.heap h') (hok:HOk X.prog X.w H' h') (hg:AllBare g')
  (hch:∀b∈ch,(b∈X.ex∨X.s₀.heap.objs.size<=b)/\b≠X.env.locals/\(∀x c,X.env.cells.lookup x=some c->c≠b)/\∀p∈X.pn++pins,p.1≠b) :
  Inv X pins σ H' { s with heap:=h',gens:=g',drawn:=d',toks:=t' }:=by
 obtain ⟨m,⟨o,es,ep,ho,r⟩,_⟩:=id I.loc
 obtain ⟨sl,hL⟩:=u.any ho I.free fun z=>(hch _ z).2.1 rfl
 exact I.step (ch:=ch) hch (fun b o hL hb hc e n=>u.keep b o e n (fun z=>(List.mem_cons.mp (I.stkSub b z)).elim hL hb) hc) (fun b o _ _ hc e n=>u.any e n hc) (fun b o hc e n=>u.free b o e n hc) (fun b o hc e=>u.there b o e hc) u.tups u.frzs u.tbls (fun m' hm=>by
  obtain ⟨o',es',ep',ho',r'⟩:=hm
  rw [ho] at ho';cases ho'
  exact ⟨_,es',ep',hL,r'⟩) hok hg
theorem Inv.turned {t':Nat}{it:Addr}(I:Inv X pins σ H s) (k:∀b o,b≠it->s.heap.get? b=some o->h'.get? b=some o) (hn:H it=none) (hL:it≠X.env.locals)
  (h1:it∈X.ex∨X.s₀.heap.objs.size<=it) (h2:∀x c,X.env.cells.lookup x=some c->c≠it) (h3:∀p∈X.pn++pins,p.1≠it):Inv X pins σ H { s with heap:=h',toks:=t' }:=by
 have nit:∀b u,H b=some u->b≠it:=fun b u e z=>by rw [z,hn] at e;cases e
 refine I.step (g':=s.gens) (d':=s.drawn) (ch:=[it]) (fun b hb=>?_) (fun b o _ _ hc e _=>k b o (fun z=>hc (by simp [z])) e) (fun b o _ _ hc e _=>⟨o.slots,k b o (fun z=>hc (by simp [z])) e⟩) (fun _ _ _ _ n=>n)
  (fun b o hc e=>⟨o,k b o (fun z=>hc (by simp [z])) e⟩) (fun _ _ e=>e) (fun _ _ _ e=>e) (fun b ps e=>⟨#[],by rw [e];simp⟩) (fun m hm=>?_) (fun b u e=>?_) I.bare
 ·have e:b=it:=by simpa using hb
  subst e
  exact ⟨h1,hL,h2,h3⟩
 ·obtain ⟨o,es,ep,ho,r⟩:=hm
  exact ⟨o,es,ep,k _ o (Ne.symm hL) ho,r⟩
 ·refine (I.hok b u e).stay (fun c v hc q=>k c v ?_ q) (fun _ q=>q) fun _ _ q=>q
  rcases hc with z|z
  ·rw [z];exact nit b u e
  ·exact nit c _ z
theorem Inv.tok (I:Inv X pins σ H s) (t:Nat):Inv X pins σ H { s with toks:=t }:=I.un (h':=s.heap) (t':=t) Un.refl I.hok
theorem Inv.kept {t':Nat}(I:Inv X pins σ H s) (k:∀b u,s.heap.get? b=some u->h'.get? b=some u):Inv X pins σ H { s with heap:=h',toks:=t' }:=I.un (Un.kept k) (I.hok.kept k)
theorem Inv.laid {a:Addr}{o:HO}{t':Nat}(I:Inv X pins σ H s) (k:∀b u,s.heap.get? b=some u->h'.get? b=some u) (hp:s.heap.objs.size<=a) (new:ObjOk X.prog X.w (upd H a o) h' a o) :
  Inv X pins σ (upd H a o) { s with heap:=h',toks:=t' }:=I.un (Un.laid k hp (I.hok.fresh hp)) (I.hok.laid k hp new)
theorem Inv.write {x e:Addr}{o:HO}{t':Nat}(I:Inv X pins σ H s) (mu:Mut (H x)) (he:e=x∨H e=some (.own x)) (k:∀b u,b≠e->s.heap.get? b=some u->h'.get? b=some u) (heo:∃u,h'.get? e=some u)
  (new:ObjOk X.prog X.w (upd H x o) h' x o):Inv X pins σ (upd H x o) { s with heap:=h',toks:=t' }:=I.un (Un.write mu he k heo) (I.hok.write mu he k heo new)
theorem Inv.pins_of {pins':List (Addr × Obj)}(I:Inv X pins σ H s) (h:∀p∈pins',s.heap.get? p.1=some p.2/\H p.1=none/\p.1≠X.env.locals/\p.1 ∉ X.fs/\∀v,p.2.data≠.cell v):Inv X pins' σ H s :=
 ⟨I.ok,I.os,I.bare,I.base,I.loc,I.cell,I.free,I.freeC,fun p hp=>(List.mem_append.mp hp).elim (fun z=>I.pin p (List.mem_append_left _ z)) (h p),I.hok,I.len⟩
theorem znu {N:List Str}(hN:N.Nodup) {i j:Nat}{x:Str}(a:N[i]? = some x) (b:N[j]? = some x):i=j:=by
 obtain ⟨h1,e1⟩:=List.getElem?_eq_some_iff.mp a
 obtain ⟨h2,e2⟩:=List.getElem?_eq_some_iff.mp b
 exact (List.getElem_inj hN).mp (e1.trans e2.symm)
theorem zkf {M:Model}{A:Around}{E:Value->Shared->Prop}{i:Nat}{x:Str}{v:V}{u:Value}{Q:Unit->Shared->Prop}(I:Inv X pins σ H s) (hN:X.N.Nodup) (hi:X.N[i]? = some x) (hx:Loc X.env.scope x) (r:RelV v u)
  (h:∀s',Inv X pins (σ.set i (some v)) H s'->(∃a,Heap.SameBut a s.heap s'.heap/\(a=X.env.locals∨X.env.cells.lookup x=some a))->Q () s') (hf:X.fn x=true∨X.env.scope.names.lookup x=some .local:=by first|exact .inl rfl|exact .inr rfl|assumption):wpAny M A (storeName X.env x u) Q E s:=by
 obtain ⟨m,hn,hl⟩:=id I.loc
 have hcls:(X.env.scope.kind == .class || (X.env.scope.kind == .module && X.env.locals != X.env.globals))=false:=by rw [I.ok.kind];rfl
 have hiσ:i<σ.length:=by rw [I.len];exact (List.getElem?_eq_some_iff.mp hi).1
 have cne:=I.cne
 have tracked:∀{a:Addr} {h':Heap},(∃o,s.heap.get? a=some o/\H a=none)->Heap.SameBut a s.heap h'->HOk X.prog X.w H h':=fun {a h'} ha hs b ob e=>by
  obtain ⟨_,_,hfree⟩:=ha
  refine (I.hok b ob e).stay (fun c w' hc q=>(hs.2 c ?_).trans q) (fun _ q=>q) fun _ _ q=>q
  rintro rfl
  rcases hc with rfl|hc
  ·rw [hfree] at e;cases e
  ·rw [hfree] at hc;cases hc
 rcases hx with hk|hk
 ·refine wpAny_storeName_local hk hn (fun h' hn' hs=>?_) hcls
  obtain ⟨oL,_,_,hoL,_⟩:=id hn
  refine h _ ⟨I.ok,I.os,I.bare,⟨fun b o e n hb hx=>?_,fun b o e n hb hx=>?_,I.base.free,fun b o e hx=>?_,I.base.tups,I.base.frzs,I.base.tbls⟩,⟨_,hn',fun j y v' e1 e2 e3=>?_⟩,fun y c e=>?_,I.free,I.freeC,fun p hp=>?_,tracked ⟨oL,hoL,I.free⟩ hs,by simpa using I.len⟩ ⟨_,hs,.inl rfl⟩
  ·exact (hs.2 b (Nat.ne_of_lt (Nat.lt_of_lt_of_le (Heap.lt_size e) I.ok.above))).trans (I.base.keep b o e n hb hx)
  ·obtain ⟨sl,e1⟩:=I.base.slot b o e n hb hx
   exact ⟨sl,(hs.2 b (Nat.ne_of_lt (Nat.lt_of_lt_of_le (Heap.lt_size e) I.ok.above))).trans e1⟩
  ·obtain ⟨o',e1⟩:=I.base.there b o e hx
   exact ⟨o',(hs.2 b (Nat.ne_of_lt (Nat.lt_of_lt_of_le (Heap.lt_size e) I.ok.above))).trans e1⟩
  ·by_cases hj:j=i
   ·subst hj
    rw [hi] at e1;cases e1
    rw [List.getElem?_set_self hiσ] at e2
    cases e2
    exact ⟨u,r,.inl ⟨hk,by simp⟩⟩
   ·rw [List.getElem?_set_ne (Ne.symm hj)] at e2
    obtain ⟨u',r',q⟩:=hl j y v' e1 e2 e3
    refine ⟨u',r',?_⟩
    rcases q with ⟨k,e⟩|⟨k,c,e,z⟩
    ·refine .inl ⟨k,?_⟩
     have:y≠x:=fun e=>hj (znu hN e1 (e ▸ hi))
     simp [this,e]
    ·exact .inr ⟨k,c,e,z.sameBut hs (cne y c e)⟩
  ·obtain ⟨w',z⟩:=I.cell y c e
   exact ⟨w',z.sameBut hs (cne y c e)⟩
  ·obtain ⟨e,n,ne,nf,d⟩:=I.pin p hp
   exact ⟨(hs.2 p.1 ne).trans e,n,ne,nf,d⟩
 ·have hfn:X.fn x=true:=by
   rcases hf with z|z
   ·exact z
   ·rw [z] at hk;cases hk
  obtain ⟨c,hc⟩:=I.ok.has x (.inl hk)
  obtain ⟨w',z⟩:=I.cell x c hc
  refine wpAny_storeName_cell I.ok.kind hk hc z (fun h' hc' hs=>?_)
  obtain ⟨oc,hoc,hocd⟩:=id z
  refine h { s with heap:=h' } ⟨I.ok,I.os,I.bare,⟨fun b o e n hb hx=>?_,fun b o e n hb hx=>?_,I.base.free,fun b o e hx=>?_,I.base.tups,I.base.frzs,I.base.tbls⟩,⟨m,hn.sameBut hs (Ne.symm (cne x c hc)),fun j y v' e1 e2 e3=>?_⟩,fun y c' e=>?_,I.free,I.freeC,fun p hp=>?_,tracked ⟨oc,hoc,I.freeC x c hc⟩ hs,by simpa using I.len⟩ ⟨c,hs,.inr hc⟩
  ·exact (hs.2 b (Nat.ne_of_lt (Nat.lt_of_lt_of_le (Heap.lt_size e) (I.ok.cab x c hfn hc)))).trans (I.base.keep b o e n hb hx)
  ·obtain ⟨sl,e1⟩:=I.base.slot b o e n hb hx
   exact ⟨sl,(hs.2 b (Nat.ne_of_lt (Nat.lt_of_lt_of_le (Heap.lt_size e) (I.ok.cab x c hfn hc)))).trans e1⟩
  ·obtain ⟨o',e1⟩:=I.base.there b o e hx
   exact ⟨o',(hs.2 b (Nat.ne_of_lt (Nat.lt_of_lt_of_le (Heap.lt_size e) (I.ok.cab x c hfn hc)))).trans e1⟩
  ·by_cases hj:j=i
   ·subst hj
    rw [hi] at e1;cases e1
    rw [List.getElem?_set_self hiσ] at e2
    cases e2
    exact ⟨u,r,.inr ⟨.inl hk,c,hc,hc'⟩⟩
   ·rw [List.getElem?_set_ne (Ne.symm hj)] at e2
    obtain ⟨u',r',q⟩:=hl j y v' e1 e2 e3
    refine ⟨u',r',?_⟩
    rcases q with q|⟨k,c',e,z'⟩
    ·exact .inl q
    ·refine .inr ⟨k,c',e,z'.sameBut hs ?_⟩
     rintro rfl
     exact hj (znu hN e1 (I.ok.inj _ _ _ e hc ▸ hi))
  ·by_cases hcc:c' = c
   ·subst hcc;exact ⟨_,hc'⟩
   ·obtain ⟨w2,z2⟩:=I.cell y c' e
    exact ⟨w2,z2.sameBut hs hcc⟩
  ·obtain ⟨e,n,ne,nf,d⟩:=I.pin p hp
   refine ⟨(hs.2 p.1 ?_).trans e,n,ne,nf,d⟩
   intro q
   rw [q,hoc] at e
   have q':oc=p.2:=Option.some.inj e
   exact d w' (by rw [←q'];exact hocd)
theorem zkg {M:Model}{A:Around}{E:Value->Shared->Prop}{i:Nat}{x:Str}{v:V}{u:Value}{Q:Unit->Shared->Prop}(I:Inv X pins σ H s) (hN:X.N.Nodup) (hi:X.N[i]? = some x) (hx:Loc X.env.scope x) (r:RelV v u)
  (h:∀s',Inv X pins (σ.set i (some v)) H s'->Q () s') (hf:X.fn x=true∨X.env.scope.names.lookup x=some .local:=by first|exact .inl rfl|exact .inr rfl|assumption):wpAny M A (storeName X.env x u) Q E s :=
 zkf I hN hi hx r (fun s' I' _=>h s' I') hf
theorem Inv.call' {s':Shared}{ch:List Addr}(I:Inv X pins σ H s) (ho:s'.os=s.os) (u:Un (frs X.stack) ch H H' s.heap s'.heap) (hok:HOk X.prog X.w H' s'.heap) (hg:AllBare s'.gens)
  (hch:∀b∈ch,(b∈X.ex∨X.s₀.heap.objs.size<=b)/\b≠X.env.locals/\(∀x c,X.env.cells.lookup x=some c->c≠b)/\∀p∈X.pn++pins,p.1≠b):Inv X pins σ H' s':=by
 obtain ⟨h',g',d',t',o'⟩:=s'
 have e:o' = s.os:=ho
 subst e
 exact I.call (g':=g') (t':=t') (d':=d') u hok hg hch
end
noncomputable abbrev XK:=Value->Option Addr->Hp->Prop
noncomputable abbrev St:=List (Option V)
noncomputable abbrev VK:=V->Hp->Prop
noncomputable abbrev TE:=St->Hp->VK->Prop
noncomputable abbrev TT:=St->Hp->(Bool->Hp->Prop)->Prop
noncomputable abbrev TA:=St->Hp->(List V->Hp->Prop)->Prop
structure Ends where
 nx:St->Hp->Prop
 rt:VK
 bk:St->Hp->Prop:=fun _ _=>False
 ct:St->Hp->Prop:=fun _ _=>False
noncomputable abbrev TS:=Ends->St->Hp->Prop
noncomputable def EP (X:Cx) (pins:List (Addr × Obj)) (σ:St) (Q:VK) (u:Value) (s':Shared):Prop:=∃v H',Inv X pins σ H' s'/\RelV v u/\Q v H'
noncomputable def TP (X:Cx) (pins:List (Addr × Obj)) (σ:St) (Q:Bool->Hp->Prop) (b:Bool) (s':Shared):Prop:=∃H',Inv X pins σ H' s'/\Q b H'
noncomputable def AP (X:Cx) (pins:List (Addr × Obj)) (σ:St) (Q:List V->Hp->Prop) (us:List Value) (s':Shared):Prop:=∃vs H',Inv X pins σ H' s'/\Vals vs us/\Q vs H'
noncomputable def SP (X:Cx) (pins:List (Addr × Obj)) (D:Ends) (f:Flow) (s':Shared):Prop :=
 match f with
 | .next=>∃σ' H',Inv X pins σ' H' s'/\D.nx σ' H'
 | .brk=>∃σ' H',Inv X pins σ' H' s'/\D.bk σ' H'
 | .cont=>∃σ' H',Inv X pins σ' H' s'/\D.ct σ' H'
 | .ret u=>∃v σ' H',Inv X pins σ' H' s'/\RelV v u/\D.rt v H'
noncomputable def PE (X:Cx) (e:Expr) (t:TE):Prop :=
 ∀(pins:List (Addr × Obj)) (s:Shared) (σ:St) (H:Hp) (Q:VK),Inv X pins σ H s->t σ H Q->wpAny (model X.prog X.w) X.A (eval e X.env) (EP X pins σ Q) X.xe s
noncomputable def PT (X:Cx) (e:Expr) (t:TT):Prop :=
 ∀(pins:List (Addr × Obj)) (s:Shared) (σ:St) (H:Hp) (Q:Bool->Hp->Prop),Inv X pins σ H s->t σ H Q->wpAny (model X.prog X.w) X.A (isTrue e X.env (eval e X.env)) (TP X pins σ Q) X.xe s
noncomputable def PW (X:Cx) (e:Expr) (t:TT):Prop :=
 ∀(whole:Sem Value) (pins:List (Addr × Obj)) (s:Shared) (σ:St) (H:Hp) (Q:Bool->Hp->Prop),Inv X pins σ H s->t σ H Q->wpAny (model X.prog X.w) X.A (isTrue e X.env whole) (TP X pins σ Q) X.xe s
theorem PW.pt {X:Cx}{e:Expr}{t:TT}(h:PW X e t):PT X e t:=h _
noncomputable def PA (X:Cx) (es:List Expr) (t:TA):Prop :=
 ∀(pos:Pos) (pins:List (Addr × Obj)) (s:Shared) (σ:St) (H:Hp) (Q:List V->Hp->Prop),Inv X pins σ H s->t σ H Q->wpAny (model X.prog X.w) X.A (spliced (backTo pos (starEach es X.env))) (AP X pins σ Q) X.xe s
noncomputable def PS (X:Cx) (st:Stmt) (t:TS):Prop :=
 ∀(pins:List (Addr × Obj)) (s:Shared) (σ:St) (H:Hp) (D:Ends),Inv X pins σ H s->t D σ H->wpAny (model X.prog X.w) X.A (exec st X.env) (SP X pins D) X.xe s
noncomputable def PSs (X:Cx) (st:List Stmt) (t:TS):Prop :=
 ∀(pins:List (Addr × Obj)) (s:Shared) (σ:St) (H:Hp) (D:Ends),Inv X pins σ H s->t D σ H->wpAny (model X.prog X.w) X.A (execs st X.env) (SP X pins D) X.xe s
theorem thn {α:Type}{t:Sem α}{Q Q':α->Shared->Prop}{M:Model}{A:Around}{E:Value->Shared->Prop}{s:Shared}(h:wpAny M A t Q E s) (hQ:∀a s,Q a s->Q' a s):wpAny M A t Q' E s:=wpAny_mono h hQ fun _ _ x=>x
end L2
namespace L2
open PySem PySem.Spec PyProof.Rows
section
variable {X:Cx}
theorem bin {a b:Expr}{ta tb:TE}(ha:PE X a ta) (hb:PE X b tb) {pins:List (Addr × Obj)}{s:Shared}{σ:St}{H:Hp}{R:V->V->Hp->Prop}(I:Inv X pins σ H s) (h:ta σ H fun x H1=>tb σ H1 fun y H2=>R x y H2)
  {α:Type} {Q:α->Shared->Prop} {f:Value->Value->Sem α}
  (hf:∀v u s2 x y H2,Inv X pins σ H2 s2->RelV x v->RelV y u->R x y H2->wpAny (model X.prog X.w) X.A (f v u) Q X.xe s2) :
  wpAny (model X.prog X.w) X.A (eval a X.env) (fun v s₁=>wpAny (model X.prog X.w) X.A (eval b X.env) (fun u s₂=>wpAny (model X.prog X.w) X.A (f v u) Q X.xe s₂) X.xe s₁) X.xe s:=by
 refine thn (ha pins s σ H _ I h) fun v s1 ⟨x,H1,I1,r1,q1⟩=>?_
 refine thn (hb pins s1 σ H1 _ I1 q1) fun u s2 ⟨y,H2,I2,r2,q2⟩=>?_
 exact hf v u s2 x y H2 I2 r1 r2 q2
noncomputable def zun (i:Nat):TE:=fun σ H Q=>∃v,σ[i]? = some (some v)/\Q v H
noncomputable def tC (v:V):TE:=fun _ H Q=>Q v H
theorem zuo {i:Nat}{x:Str}{pos:Pos}(hN:X.N[i]? = some x) (hv:Vis X.env.scope x) (hd:(x == ("__debug__":Str))=false:=by decide) (hcd:(x == ("__classdict__":Str))=false:=by decide):PE X (.Name x pos) (zun i):=by
 intro pins s σ H Q I h
 obtain ⟨v,e,h⟩:=h
 obtain ⟨m,hn,hl⟩:=I.loc
 obtain ⟨u,r,l⟩:=hl i x v hN e hv
 have fin:EP X pins σ Q u s:=⟨v,H,I,r,h⟩
 rcases l with ⟨hk,hm⟩|⟨hk,c,hc,hcell⟩
 ·exact wpAny_Name (wpAny_loadName_local I.ok.kind hk hn hm fin) hd
 ·rcases hk with hk|hk
  ·exact wpAny_Name (wpAny_loadName_cell I.ok.kind hk hc hcell fin) hd
  ·exact wpAny_Name (wpAny_loadName_free I.ok.kind hk hc hcell fin hcd) hd
theorem zup {i j pos}:PE X (.Constant (.int i) j pos) (tC (.int i)):=fun _ _ _ H _ I h=>wpAny_Constant_int ⟨.int i,H,I.tok _,⟨_,rfl⟩,h⟩
theorem zuq {b j pos}:PE X (.Constant (.bool b) j pos) (tC (.bl b)):=fun _ _ _ H _ I h=>Constant_bool ⟨.bl b,H,I,rfl,h⟩
theorem zur {j pos}:PE X (.Constant .none j pos) (tC .non):=fun _ _ _ H _ I h=>Constant_none ⟨.non,H,I,rfl,h⟩
noncomputable def Gl (X:Cx) (x:Str):Prop:=X.env.kindOf x=some .globalImplicit
theorem znv {E:Value->Shared->Prop}{pins:List (Addr × Obj)}{s:Shared}{σ:St}{H:Hp}{x:Str}{u:Value}{pos:Pos}{Q:Value->Shared->Prop}(I:Inv X pins σ H s) (hg:Gl X x) (hm:X.mg x=some u) (h:Q u s)
  (hd:(x == ("__debug__":Str))=false:=by decide):wpAny (model X.prog X.w) X.A (eval (.Name x pos) X.env) Q E s :=
 Calls.Name_function_global I.ok.kind hg (Calls.loadGlobal_global (by rw [I.ok.glob];exact I.mod.glob.keeps I.bk) hm h) hd
theorem zg6 {E:Value->Shared->Prop}{pins:List (Addr × Obj)}{s:Shared}{σ:St}{H:Hp}{x:Str}{u:Value}{pos:Pos}{Q:Value->Shared->Prop}(I:Inv X pins σ H s) (hg:Gl X x) (hm:X.mg x=none) (hv:bootBuiltins x=some u) (h:Q u s)
  (hn:x≠"__name__":=by decide) (hd:(x == ("__debug__":Str))=false:=by decide):wpAny (model X.prog X.w) X.A (eval (.Name x pos) X.env) Q E s:=by
 obtain ⟨mb,h1,h2⟩:=I.mod.blt
 exact Calls.Name_function_global I.ok.kind hg (Calls.loadGlobal_builtin (by rw [I.ok.glob];exact I.mod.glob.keeps I.bk) hm (by rw [I.ok.blt];exact h1.keeps I.bk) ((h2 x hn).trans hv) h) hd
theorem zus {x:Str}{v:V}{u:Value}{pos:Pos}(hg:Gl X x) (hm:X.mg x=none) (hv:bootBuiltins x=some u) (r:RelV v u) (hn:x≠"__name__":=by decide) (hd:(x == ("__debug__":Str))=false:=by decide):PE X (.Name x pos) (tC v) :=
 fun _ _ _ H _ I h=>zg6 I hg hm hv ⟨v,H,I,r,h⟩ hn hd
variable {a b:Expr}{ta tb:TE}{pos:Pos}
noncomputable def tB (t:TE):TT:=fun σ H Q=>t σ H fun x H1=>∃c,x=.bl c/\Q c H1
theorem zut {e:Expr}{t:TE}(h:PE X e t) (he:∀whole,isTrue e X.env whole=(do let v ←whole;standAt e.pos;holding [v] (truthy v)):=by intro _;rfl):PT X e (tB t):=by
 intro pins s σ H Q I hw
 refine isTrue_plain (thn (h pins s σ H _ I hw) fun v s1 ⟨x,H1,I1,r1,q1⟩=>?_) (he _)
 obtain ⟨d,rfl,q⟩:=q1
 cases r1
 exact wpAny_truthy_bool ⟨H1,I1,q⟩
variable {tA tB':TT}{rest:List Expr}
noncomputable def tAnd (t u:TT):TT:=fun σ H Q=>t σ H fun c H1=>if c=true then u σ H1 Q else Q false H1
noncomputable def tOr (t u:TT):TT:=fun σ H Q=>t σ H fun c H1=>if c=true then Q true H1 else u σ H1 Q
noncomputable def zuu (t:TT):TT:=fun σ H Q=>t σ H fun c H1=>Q (!c) H1
theorem zuv (ha:PT X a tA):PW X (.BoolOp .And [a] pos) tA:=by
 intro wh pins s σ H Q I h
 refine isTrue_and (thn (ha pins s σ H Q I h) fun c s1 e=>?_)
 cases c with
 | true=>exact isTrue_and_nil e
 | false=>exact e
theorem zuw (ha:PT X a tA):PW X (.BoolOp .Or [a] pos) tA:=by
 intro wh pins s σ H Q I h
 refine isTrue_or (thn (ha pins s σ H Q I h) fun c s1 e=>?_)
 cases c with
 | false=>exact isTrue_or_nil e
 | true=>exact e
theorem zux (ha:PT X a tA) (hb:PW X (.BoolOp .And (b :: rest) pos) tB'):PW X (.BoolOp .And (a :: b :: rest) pos) (tAnd tA tB'):=by
 intro wh pins s σ H Q I h
 refine isTrue_and (thn (ha pins s σ H _ I h) fun c s1 ⟨H1,I1,q1⟩=>?_)
 cases c with
 | true=>exact hb wh pins s1 σ H1 Q I1 q1
 | false=>exact ⟨H1,I1,q1⟩
theorem zuy (ha:PT X a tA) (hb:PW X (.BoolOp .Or (b :: rest) pos) tB'):PW X (.BoolOp .Or (a :: b :: rest) pos) (tOr tA tB'):=by
 intro wh pins s σ H Q I h
 refine isTrue_or (thn (ha pins s σ H _ I h) fun c s1 ⟨H1,I1,q1⟩=>?_)
 cases c with
 | true=>exact ⟨H1,I1,q1⟩
 | false=>exact hb wh pins s1 σ H1 Q I1 q1
theorem zuz (ha:PT X a tA):PT X (.UnaryOp .Not a pos) (zuu tA):=by
 intro pins s σ H Q I h
 exact isTrue_not (ha pins s σ H (fun c H1=>Q (!c) H1) I h)
noncomputable def zu0 (ta tb:TE):TE:=fun σ H Q=>ta σ H fun x H1=>∃c,x=.bl c/\if c=true then tb σ H1 Q else Q (.bl false) H1
theorem zu1 {op}{t:TE}(h:PE X a t):PE X (.BoolOp op [a] pos) t:=fun pins s σ H Q I hw=>BoolOp_one (h pins s σ H Q I hw)
theorem zu2 (ha:PE X a ta) (hb:PE X (.BoolOp .And (b :: rest) pos) tb):PE X (.BoolOp .And (a :: b :: rest) pos) (zu0 ta tb):=by
 intro pins s σ H Q I h
 refine BoolOp_and (thn (ha pins s σ H _ I h) fun v s1 ⟨x,H1,I1,r1,q1⟩=>?_)
 obtain ⟨c,rfl,q1⟩:=q1
 cases r1
 refine wpAny_truthy_bool ?_
 cases c with
 | true=>exact hb pins s1 σ H1 Q I1 q1
 | false=>exact ⟨.bl false,H1,I1,rfl,q1⟩
end
end L2
namespace L2
open PySem PySem.Spec PyProof.Rows
noncomputable def SqL (K:PySem.W.Frag) (H:Hp) (a:Addr) (xs:List V):Prop :=
 Rd H a (.lst xs) ∨
  ∃(o:Obj) (its:Array Value) (n:Nat),K.lookup a=some o/\o.cls=.type "list"/\o.dict=none/\o.data=.seq its n/\its.size<=sizeLine/\Vals xs its.toList
noncomputable def SqT (K:PySem.W.Frag) (H:Hp) (a:Addr) (xs:List V):Prop :=
 Rd H a (.tup xs) ∨
  ∃(o:Obj) (its:Array Value) (n:Nat),K.lookup a=some o/\o.cls=.type "tuple"/\o.data=.seq its n/\its.size<=sizeLine/\Vals xs its.toList
noncomputable def zu3:Value->Option V
 | .none=>some .non
 | .bool b=>some (.bl b)
 | .int i _=>some (.int i)
 | .str x _=>some (.str x)
 | .bytes b _=>some (.byt b)
 | .float b _=>some (.flt b)
 | .ref a=>some (.ref a)
 | .type n=>some (.ty n)
 | _=>none
theorem RelV.abs {x:V}{u:Value}(r:RelV x u):zu3 u=some x:=by
 cases x with
 | non=>cases r;rfl
 | bl _=>cases r;rfl
 | int _=>obtain ⟨t,rfl⟩:=r;rfl
 | str _=>obtain ⟨t,rfl⟩:=r;rfl
 | byt _=>obtain ⟨t,rfl⟩:=r;rfl
 | flt _=>obtain ⟨t,rfl⟩:=r;rfl
 | ref _=>cases r;rfl
 | ty _=>cases r;rfl
theorem RelV.inj {x y:V}{u:Value}(r:RelV x u) (q:RelV y u):x=y:=Option.some.inj (r.abs.symm.trans q.abs)
theorem Vals.inj:∀{xs ys:List V}{us:List Value},Vals xs us->Vals ys us->xs=ys
 | _,_,_,.nil,.nil=>rfl
 | _,_,_,.cons r t,.cons r' t'=>by rw [r.inj r',Vals.inj t t']
section
variable {X:Cx}{pins:List (Addr × Obj)}{σ:St}{H:Hp}{s:Shared}{a:Addr}{xs ys:List V}
theorem SqT.of {K:PySem.W.Frag}(h:H a=some (.tup xs)):SqT K H a xs:=.inl (.inl h)
theorem Inv.list (I:Inv X pins σ H s) (h:SqL X.K H a xs):∃its:List Value,Vals xs its/\PlainL s.heap a its.toArray/\xs.length<=sizeLine:=by
 rcases h with h|⟨o,its,n,hk,hc,hd,hs,hz,r⟩
 ·obtain ⟨z,its,n,r,e⟩:=h.ok I.hok
  exact ⟨its,r,⟨_,n,e,rfl,rfl,rfl⟩,z⟩
 ·refine ⟨its.toList,r,⟨o,n,I.kIn a o hk,hc,hd,by simpa using hs⟩,?_⟩
  have e:=r.length
  simp only [Array.length_toList] at e
  omega
theorem Inv.tuple (I:Inv X pins σ H s) (h:SqT X.K H a xs):∃its:List Value,Vals xs its/\IsTup s.heap a its.toArray/\xs.length<=sizeLine:=by
 rcases h with h|⟨o,its,n,hk,hc,hs,hz,r⟩
 ·obtain ⟨z,its,r,p⟩:=h.ok I.hok
  exact ⟨its,r,p,z⟩
 ·refine ⟨its.toList,r,⟨o,I.kIn a o hk,hc,n,by simpa using hs⟩,?_⟩
  have e:=r.length
  simp only [Array.length_toList] at e
  omega
theorem Inv.list_inj (I:Inv X pins σ H s) (h:SqL X.K H a xs) (h':SqL X.K H a ys):xs=ys:=by
 obtain ⟨its,r,⟨o,n,e,_,_,d⟩,_⟩:=I.list h
 obtain ⟨its',r',⟨o',n',e',_,_,d'⟩,_⟩:=I.list h'
 rw [e] at e';cases e'
 rw [d] at d'
 injection d' with d1 _
 have:its=its':=by simpa using congrArg Array.toList d1
 subst this
 exact r.inj r'
theorem Inv.tuple_inj (I:Inv X pins σ H s) (h:SqT X.K H a xs) (h':SqT X.K H a ys):xs=ys:=by
 obtain ⟨its,r,⟨o,e,_,n,d⟩,_⟩:=I.tuple h
 obtain ⟨its',r',⟨o',e',_,n',d'⟩,_⟩:=I.tuple h'
 rw [e] at e';cases e'
 rw [d] at d'
 injection d' with d1 _
 have:its=its':=by simpa using congrArg Array.toList d1
 subst this
 exact r.inj r'
end
noncomputable abbrev Cx.wish (X:Cx) (E:Value->Shared->Prop):Cx:={ X with xe:=E }
noncomputable abbrev Cx.nox (X:Cx):Cx:=X.wish fun _ _=>False
theorem Cx.Ok.wish {X:Cx}(ok:X.Ok) (E:Value->Shared->Prop):(X.wish E).Ok :=
 ⟨ok.mod,ok.kind,ok.glob,ok.blt,ok.above,ok.inj,ok.has,ok.cab,ok.hd,ok.frames,ok.stk,ok.exf,ok.bs,ok.bsz,ok.noex,ok.exfs,ok.funs,ok.frf⟩
theorem Cx.Ok.unwish {X:Cx}{E:Value->Shared->Prop}(ok:(X.wish E).Ok):X.Ok :=
 ⟨ok.mod,ok.kind,ok.glob,ok.blt,ok.above,ok.inj,ok.has,ok.cab,ok.hd,ok.frames,ok.stk,ok.exf,ok.bs,ok.bsz,ok.noex,ok.exfs,ok.funs,ok.frf⟩
section
variable {X:Cx}{pins:List (Addr × Obj)}{σ:St}{H:Hp}{s:Shared}{E:Value->Shared->Prop}
theorem Inv.wish (I:Inv X pins σ H s) (E:Value->Shared->Prop):Inv (X.wish E) pins σ H s:=⟨I.ok.wish E,I.os,I.bare,I.base,I.loc,I.cell,I.free,I.freeC,I.pin,I.hok,I.len⟩
theorem Inv.unwish (I:Inv (X.wish E) pins σ H s):Inv X pins σ H s:=⟨I.ok.unwish,I.os,I.bare,I.base,I.loc,I.cell,I.free,I.freeC,I.pin,I.hok,I.len⟩
theorem SP.unwish {D:Ends}{f:Flow}{s':Shared}(h:SP (X.wish E) pins D f s'):SP X pins D f s':=by
 cases f with
 | next=>obtain ⟨σ',H',I,q⟩:=h;exact ⟨σ',H',I.unwish,q⟩
 | brk=>obtain ⟨σ',H',I,q⟩:=h;exact ⟨σ',H',I.unwish,q⟩
 | cont=>obtain ⟨σ',H',I,q⟩:=h;exact ⟨σ',H',I.unwish,q⟩
 | ret u=>obtain ⟨v,σ',H',I,r,q⟩:=h;exact ⟨v,σ',H',I.unwish,r,q⟩
theorem PSs.nox {st:List Stmt}{t:TS}(h:PSs X.nox st t):PSs X st t:=fun pins s σ H D I hw =>
 wpAny_mono (h pins s σ H D (I.wish _) hw) (fun _ _ q=>q.unwish) fun _ _ z=>False.elim z
end
section
variable {X:Cx}{st:Stmt}{rest:List Stmt}{t u:TS}{e:Expr}{te:TE}{pos:Pos}
noncomputable def zu4:TS:=fun D σ H=>D.nx σ H
noncomputable def zu5 (t u:TS):TS:=fun D σ H=>t { D with nx:=u D } σ H
theorem zu6:PSs X [] zu4:=fun _ _ σ H _ I h=>wpAny_execs_nil ⟨σ,H,I,h⟩
theorem zu7 (h1:PS X st t) (h2:PSs X rest u):PSs X (st :: rest) (zu5 t u):=by
 intro pins s σ H D I h
 refine wpAny_execs_cons (thn (h1 pins s σ H { D with nx:=u D } I h) fun f s1 q=>?_)
 cases f with
 | next =>
  obtain ⟨σ',H',I',q⟩:=q
  exact h2 pins s1 σ' H' D I' q
 | ret v=>exact q
 | brk=>exact q
 | cont=>exact q
theorem zu8 (h1:PS X st t):PSs X [st] t:=by
 intro pins s σ H D I h
 refine wpAny_execs_cons (thn (h1 pins s σ H D I h) fun f s1 q=>?_)
 cases f with
 | next=>exact wpAny_execs_nil q
 | ret v=>exact q
 | brk=>exact q
 | cont=>exact q
theorem Inv.quiet {pins:List (Addr × Obj)}{σ:St}{H:Hp}{s:Shared}(I:Inv X pins σ H s):interactive X.env=false:=by simp [interactive,I.ok.kind]
noncomputable def zu9 (te:TE):TS:=fun D σ H=>te σ H fun _ H1=>D.nx σ H1
theorem zva (he:PE X e te) (hs:swapsWith e none pos.line X.env=pure false:=by rfl):PS X (.Expr e pos) (zu9 te):=by
 intro pins s σ H D I h
 exact wpAny_Expr_any (thn (he pins s σ H _ I h) fun v s1 ⟨x,H1,I1,r1,q1⟩=>⟨σ,H1,I1,q1⟩) I.quiet hs
noncomputable def zvb (te:TE):TS:=fun D σ H=>te σ H D.rt
theorem zvc (he:PE X e te):PS X (.Return (some e) pos) (zvb te):=by
 intro pins s σ H D I h
 exact wpAny_Return_some (thn (he pins s σ H _ I h) fun v s1 ⟨x,H1,I1,r1,q1⟩=>⟨x,σ,H1,I1,r1,q1⟩)
noncomputable def zvd (c:TT) (t u:TS):TS:=fun D σ H=>c σ H fun b H1=>if b=true then t D σ H1 else u D σ H1
theorem zve {c:Expr}{a b:List Stmt}{tc:TT}(hc:PT X c tc) (ha:PSs X a t) (hb:PSs X b u):PS X (.If c a b pos) (zvd tc t u):=by
 intro pins s σ H D I h
 refine wpAny_If (thn (hc pins s σ H _ I h) fun d s1 ⟨H1,I1,q1⟩=>?_)
 cases d with
 | true=>exact ha pins s1 σ H1 D I1 q1
 | false=>exact hb pins s1 σ H1 D I1 q1
end
noncomputable abbrev TG:=V->St->Hp->(St->Hp->Prop)->Prop
noncomputable abbrev TGs:=List V->St->Hp->(St->Hp->Prop)->Prop
noncomputable def PG (X:Cx) (target:Expr) (t:TG):Prop :=
 ∀(pins:List (Addr × Obj)) (s:Shared) (σ:St) (H:Hp) (v:V) (u:Value) (Q:St->Hp->Prop),Inv X pins σ H s->RelV v u->t v σ H Q ->
  wpAny (model X.prog X.w) X.A (assign target X.env u) (fun _ s'=>∃σ' H',Inv X pins σ' H' s'/\Q σ' H') X.xe s
noncomputable def PGs (X:Cx) (ts:List Expr) (t:TGs):Prop :=
 ∀(pins:List (Addr × Obj)) (s:Shared) (σ:St) (H:Hp) (vs:List V) (us:List Value) (Q:St->Hp->Prop),Inv X pins σ H s->Vals vs us->t vs σ H Q ->
  wpAny (model X.prog X.w) X.A (assignInOrder ((assignEach ts X.env).map (·.2)) us) (fun _ s'=>∃σ' H',Inv X pins σ' H' s'/\Q σ' H') X.xe s
noncomputable abbrev TSet:=V->V->V->Hp->(Hp->Prop)->Prop
noncomputable def znw (X:Cx) (t:TSet):Prop :=
 ∀(pins:List (Addr × Obj)) (s:Shared) (σ:St) (H:Hp) (o i v:V) (ov iv u:Value) (Q:Hp->Prop),Inv X pins σ H s->RelV o ov->RelV i iv->RelV v u->t o i v H Q ->
  wpAny (model X.prog X.w) X.A (setItem ov iv u) (fun _ s'=>∃H',Inv X pins σ H' s'/\Q H') X.xe s
noncomputable abbrev TIp:=V->V->Hp->VK->Prop
noncomputable def PIp (X:Cx) (op:Operator) (t:TIp):Prop :=
 ∀(pins:List (Addr × Obj)) (s:Shared) (σ:St) (H:Hp) (x y:V) (v u:Value) (Q:VK),Inv X pins σ H s->RelV x v->RelV y u->t x y H Q ->
  wpAny (model X.prog X.w) X.A (inplaceOp op v u) (EP X pins σ Q) X.xe s
section
variable {X:Cx}{pos:Pos}
noncomputable def zih (i:Nat):TG:=fun v σ H Q=>Q (σ.set i (some v)) H
theorem zvf {i:Nat}{x:Str}(hN:X.N.Nodup) (hi:X.N[i]? = some x) (hx:Loc X.env.scope x) (hf:X.fn x=true∨X.env.scope.names.lookup x=some .local:=by first|exact .inl rfl|exact .inr rfl|assumption):PG X (.Name x pos) (zih i):=by
 intro pins s σ H v u Q I r h
 exact wpAny_assign_Name (zkg I hN hi hx r (fun s' I'=>⟨_,H,I',h⟩) hf)
noncomputable def zvg:TGs:=fun vs σ H Q=>vs=[]/\Q σ H
noncomputable def zvh (t:TG) (u:TGs):TGs:=fun vs σ H Q=>∃v r,vs=v :: r/\t v σ H fun σ' H'=>u r σ' H' Q
theorem zvi:PGs X [] zvg:=by
 intro pins s σ H vs us Q I r h
 obtain ⟨e,h⟩:=h
 subst e
 cases r
 exact assignInOrder_nil ⟨σ,H,I,h⟩
theorem zvj {e:Expr}{es:List Expr}{t:TG}{u:TGs}(h1:PG X e t) (h2:PGs X es u)
  (hs:(assignEach (e :: es) X.env).map (·.2)=assign e X.env :: (assignEach es X.env).map (·.2):=by rfl):PGs X (e :: es) (zvh t u):=by
 intro pins s σ H vs us Q I r h
 obtain ⟨v,vr,e1,h⟩:=h
 subst e1
 cases r with
 | cons r rr =>
  rw [hs]
  refine assignInOrder_cons (thn (h1 pins s σ H _ _ _ I r h) fun _ s1 ⟨σ1,H1,I1,q1⟩=>?_)
  exact h2 pins s1 σ1 H1 _ _ Q I1 rr q1
noncomputable def zvk (K:PySem.W.Frag) (n:Nat) (t:TGs):TG:=fun v σ H Q=>∃a xs,v=.ref a/\SqT K H a xs/\xs.length=n/\t xs σ H Q
theorem zvl {es:List Expr}{k:Nat}{t:TGs}{n:Nat}(hc:X.calm=true) (h:PGs X es t)
  (hn:(assignEach es X.env).length=n:=by rfl) (hst:(assignEach es X.env).findIdx? (·.1)=none:=by rfl):PG X (.Tuple es k pos) (zvk X.K n t):=by
 intro pins s σ H v u Q I r hw
 obtain ⟨a,xs,e1,hq,hl,hw⟩:=hw
 subst e1
 cases r
 obtain ⟨its,rv,ht,hz⟩:=I.tuple hq
 refine assign_Tuple_tuple (I.ok.hd hc) ht (by simp [hn,←hl,rv.length]) hst fun h' hx=>?_
 have I1:Inv X pins σ H { s with heap:=h' }:=I.kept (t':=s.toks) fun b o e=>hx b o (Nat.ne_of_lt (Heap.lt_size e)) e
 exact h pins _ σ H xs _ Q I1 (by simpa using rv) hw
noncomputable def zvm (to ti:TE) (t:TSet):TG:=fun v σ H Q=>to σ H fun o H1=>ti σ H1 fun i H2=>t o i v H2 fun H3=>Q σ H3
theorem zvn {o i:Expr}{to ti:TE}{t:TSet}(ho:PE X o to) (hi:PE X i ti) (hs:znw X t)
  (ha:∀v,assign (.Subscript o i pos) X.env v=(do
   let ov ←holding [v] (eval o X.env)
   let iv ←holding [v,ov] (eval i X.env)
   standAt pos
   holding [v,ov,iv] (setItem ov iv v)
   release [v,ov,iv] []):=by intro _;rfl):PG X (.Subscript o i pos) (zvm to ti t):=by
 intro pins s σ H v u Q I r h
 rw [ha]
 refine wpAny_bind (wpAny_holding (thn (ho pins s σ H _ I h) fun ov s1 ⟨x,H1,I1,r1,q1⟩=>?_))
 refine wpAny_bind (wpAny_holding (thn (hi pins s1 σ H1 _ I1 q1) fun iv s2 ⟨y,H2,I2,r2,q2⟩=>?_))
 refine wpAny_bind (wpAny_standAt (wpAny_bind (wpAny_holding (thn (hs pins s2 σ H2 x y v ov iv u _ I2 r1 r2 r q2) fun _ s3 ⟨H3,I3,q3⟩=>?_))))
 exact wpAny_release ⟨σ,H3,I3,q3⟩
noncomputable def zii (te:TE) (g:TG):TS:=fun D σ H=>te σ H fun x H1=>g x σ H1 D.nx
theorem zvo {tg e:Expr}{te:TE}{g:TG}(he:PE X e te) (hg:PG X tg g) (hs:swapsWithSole [tg] e pos.line X.env=pure false:=by rfl) (hw:swappedStores [tg] e X.env=pure none:=by rfl)
  (h1:(assignEach [tg] X.env).map (·.2)=[assign tg X.env]:=by rfl):PS X (.Assign [tg] e pos) (zii te g):=by
 intro pins s σ H D I h
 refine wpAny_Assign_stores (thn (he pins s σ H _ I h) fun v s1 ⟨x,H1,I1,r1,q1⟩=>?_) hs hw
 rw [h1]
 exact thn (hg pins s1 σ H1 x v _ I1 r1 q1) fun _ s2 q=>q
theorem zvp {i:Nat}{x:Str}{e:Expr}{te:TE}{pos':Pos}(hN:X.N.Nodup) (hi:X.N[i]? = some x) (hx:Loc X.env.scope x) (he:PE X e te) (hs:swapsWith e (some (.Name x pos')) pos.line X.env=pure false:=by rfl) (hf:X.fn x=true∨X.env.scope.names.lookup x=some .local:=by first|exact .inl rfl|exact .inr rfl|assumption) :
  PS X (.Assign [.Name x pos'] e pos) (zii te (zih i)):=by
 intro pins s σ H D I h
 refine wpAny_Assign_Name (thn (he pins s σ H _ I h) fun v s1 ⟨y,H1,I1,r1,q1⟩=>?_) hs
 exact zkg I1 hN hi hx r1 (fun s2 I2=>⟨_,H1,I2,q1⟩) hf
noncomputable def zvq (i:Nat) (te:TE) (ti:TIp):TS:=fun D σ H=>∃x,σ[i]? = some (some x)/\te σ H fun y H1=>ti x y H1 fun z H2=>D.nx (σ.set i (some z)) H2
theorem zvr {i:Nat}{x:Str}{e:Expr}{te:TE}{op:Operator}{ti:TIp}{pos':Pos}(hN:X.N.Nodup) (hi:X.N[i]? = some x) (hx:Loc X.env.scope x) (he:PE X e te) (ho:PIp X op ti) (hf:X.fn x=true∨X.env.scope.names.lookup x=some .local:=by first|exact .inl rfl|exact .inr rfl|assumption) :
  PS X (.AugAssign (.Name x pos') op e pos) (zvq i te ti):=by
 intro pins s σ H D I h
 obtain ⟨v,e1,h⟩:=h
 obtain ⟨m,hn,hl⟩:=I.loc
 have vis:Vis X.env.scope x:=by rcases hx with k|k;exact .inl k;exact .inr (.inl k)
 obtain ⟨u,r,l⟩:=hl i x v hi e1 vis
 refine wpAny_AugAssign_Name ?_
 have go:wpAny (model X.prog X.w) X.A (eval e X.env) (fun w s₂=>wpAny (model X.prog X.w) X.A (inplaceOp op u w) (fun r s₃=>wpAny (model X.prog X.w) X.A (storeName X.env x r) (fun _=>SP X pins D .next) X.xe s₃) X.xe s₂) X.xe s:=by
  refine thn (he pins s σ H _ I h) fun w s1 ⟨y,H1,I1,r1,q1⟩=>?_
  refine thn (ho pins s1 σ H1 v y u w _ I1 r r1 q1) fun z s2 ⟨zv,H2,I2,r2,q2⟩=>?_
  exact zkg I2 hN hi hx r2 (fun s3 I3=>⟨_,H2,I3,q2⟩) hf
 rcases l with ⟨hk,hm⟩|⟨hk,c,hc,hcell⟩
 ·exact wpAny_loadName_local I.ok.kind hk hn hm go
 ·rcases hk with hk|hk
  ·exact wpAny_loadName_cell I.ok.kind hk hc hcell go
  ·rcases hx with k|k
   ·have:X.env.scope.names.lookup x=some .free:=hk
    rw [k] at this;cases this
   ·have:X.env.scope.names.lookup x=some .free:=hk
    rw [k] at this;cases this
noncomputable def ipI (f:Int->Int->Int):TIp:=fun x y H Q=>∃i j,x=.int i/\y=.int j/\Q (.int (f i j)) H
theorem zvs:PIp X .Add (ipI fun i j=>i+j):=by
 intro pins s σ H x y v u Q I r1 r2 h
 obtain ⟨i,j,e1,e2,q⟩:=h
 subst e1;subst e2
 obtain ⟨t,rfl⟩:=r1
 obtain ⟨t',rfl⟩:=r2
 exact iadd_int ⟨.int _,H,I.tok _,⟨_,rfl⟩,q⟩
end
section
variable {X:Cx}{pos:Pos}
noncomputable def zvt (c:TT) (tb:TS):TS:=fun D σ H=>∃W:Nat->St->Hp->Prop,(∃m,W m σ H)/\∀m σ H,W m σ H ->
 c σ H fun b H1=>if b=true then ∃N:St->Hp->Prop,(∀σ' H',N σ' H'->∃m',m' < m/\W m' σ' H')/\tb { D with nx:=N,ct:=N,bk:=D.nx } σ H1 else D.nx σ H1
theorem zvu {c:Expr}{body:List Stmt}{tc:TT}{tb:TS}(hp:PassesOwn (model X.prog X.w) X.A X.env X.xe) (hc:PT X c tc) (hb:PSs X body tb):PS X (.While c body [] pos) (zvt tc tb):=by
 intro pins s σ H D I h
 obtain ⟨W,⟨m0,w0⟩,turn⟩:=h
 refine wpAny_While (codeAny_whileLoop (fun n s'=>∃σ' H',Inv X pins σ' H' s'/\W n σ' H') ?_ m0 ⟨σ,H,I,w0⟩)
 rintro n s1 ⟨σ1,H1,I1,w1⟩
 refine wpAny_passesOwn hp (thn (hc pins s1 σ1 H1 _ I1 (turn n σ1 H1 w1)) fun b s2 ⟨H2,I2,q2⟩=>?_)
 cases b with
 | true =>
  obtain ⟨N,hN,q2⟩:=q2
  rw [if_pos rfl]
  refine wpAny_passesOwn hp (thn (hb pins s2 σ1 H2 _ I2 q2) fun f s3 q3=>?_)
  cases f with
  | next =>
   obtain ⟨σ3,H3,I3,n3⟩:=q3
   obtain ⟨m',hm,w3⟩:=hN σ3 H3 n3
   exact ⟨m',hm,σ3,H3,I3,w3⟩
  | cont =>
   obtain ⟨σ3,H3,I3,n3⟩:=q3
   obtain ⟨m',hm,w3⟩:=hN σ3 H3 n3
   exact ⟨m',hm,σ3,H3,I3,w3⟩
  | brk=>exact q3
  | ret v=>exact q3
 | false =>
  rw [if_neg Bool.false_ne_true]
  exact wpAny_execs_nil ⟨σ1,H2,I2,q2⟩
end
structure It where
 go:Nat->Hp->Prop
 yld:Nat->Hp->V->Hp->Prop
 stop:Nat->Hp->Prop
noncomputable def zcb (X:Cx) (pins:List (Addr × Obj)) (H:Hp) (b:Addr):Prop :=
 H b=none/\b≠X.env.locals/\b ∉ X.fs/\(b∈X.ex∨X.s₀.heap.objs.size<=b)/\(∀x c,X.env.cells.lookup x=some c->c≠b)/\∀p∈X.pn++pins,p.1≠b
theorem Inv.fpOk {X:Cx}{pins:List (Addr × Obj)}{σ:St}{H H':Hp}{s:Shared}{b:Addr}(I:Inv X pins σ H s) (hb:s.heap.objs.size<=b) (hn:H' b=none):zcb X pins H' b:=by
 refine ⟨hn,Nat.ne_of_gt (Nat.lt_of_lt_of_le I.lt hb),I.nofs hb,.inr (Nat.le_trans I.sz hb),fun x c e z=>?_,fun p hp z=>?_⟩
 ·obtain ⟨v,q⟩:=I.cell x c e
  exact absurd (Nat.lt_of_lt_of_le q.lt (by rw [z];exact hb)) (Nat.lt_irrefl _)
 ·exact absurd (Nat.lt_of_lt_of_le (Heap.lt_size (I.pin p hp).1) (by rw [z];exact hb)) (Nat.lt_irrefl _)
structure Turn (P:Program) (w:World) (K:PySem.W.Frag) (tg:Expr) (J:It) (fp:List Addr) (it:Addr) (tn:Nat->Heap->Prop):Prop where
 mem:it∈fp
 obj:∀i h,tn i h->∀b∈fp,∃o,h.get? b=some o/\∀v,o.data≠.cell v
 keep:∀i h h',tn i h->(∀b∈fp,∀o,h.get? b=some o->h'.get? b=some o)->tn i h'
 item:∀(X:Cx),X.prog=P->X.w=w->X.K=K->X.calm=true->∀(i:Nat) (pins:List (Addr × Obj)) (s:Shared) (σ:St) (H:Hp) (E:Value->Shared->Prop),Inv X pins σ H s->(∀b∈fp,zcb X pins H b)->tn i s.heap->J.go i H ->
  wpAny (model P w) X.A (pyNext (.ref it)) (fun r s1=>∃u,r=some u /\
   wpAny (model P w) X.A (letOwnedTupleGo tg (.ref it) u) (fun _ s2=>∃x H',Inv X pins σ H' s2/\RelV x u/\J.yld i H x H'/\tn (i+1) s2.heap/\∀b∈fp,H' b=none) E s1) E s
 done:∀(X:Cx),X.prog=P->X.w=w->X.K=K->X.calm=true->∀(i:Nat) (pins:List (Addr × Obj)) (s:Shared) (σ:St) (H:Hp) (E:Value->Shared->Prop),Inv X pins σ H s->(∀b∈fp,zcb X pins H b)->tn i s.heap->J.stop i H ->
  wpAny (model P w) X.A (pyNext (.ref it)) (fun r s1=>r=none/\Inv X pins σ H s1) E s
 self:∀(A:Around) (i:Nat) (s:Shared) (Q:Value->Shared->Prop) (E:Value->Shared->Prop),tn i s.heap->Q (.ref it) s->wpAny (model P w) A (pyIter (.ref it)) Q E s
noncomputable abbrev TI:=St->Hp->(It->Hp->Prop)->Prop
noncomputable def PIE (X:Cx) (pins:List (Addr × Obj)) (σ:St) (tg:Expr) (R:It->Hp->Prop) (itv:Value) (s2:Shared):Prop :=
 ∃(it:Addr) (fp:List Addr) (tn:Nat->Heap->Prop) (J:It) (H':Hp),itv=.ref it/\Inv X pins σ H' s2/\Turn X.prog X.w X.K tg J fp it tn/\tn 0 s2.heap/\(∀b∈fp,zcb X pins H' b)/\R J H'
noncomputable def PI (X:Cx) (tg iter:Expr) (wi:TI):Prop :=
 ∀(pins:List (Addr × Obj)) (s:Shared) (σ:St) (H:Hp) (R:It->Hp->Prop),Inv X pins σ H s->wi σ H R ->
  wpAny (model X.prog X.w) X.A (eval iter X.env) (fun v s1=>wpAny (model X.prog X.w) X.A (pyIter v) (PIE X pins σ tg R) X.xe s1) X.xe s
theorem zij {M:Model}{A:Around}{E:Value->Shared->Prop}{s:Shared}{tg:Expr}{it:Addr}{u:Value}{o:Obj}{n:String}{vs:Array Value}{Q:Unit->Shared->Prop}(ho:s.heap.get? it=some o) (hc:o.cls=.type n) (hd:o.data=.fields vs)
  (hn:["enumerate","zip","dict_itemiterator","dict_reverseitemiterator","odict_iterator","itertools.zip_longest","itertools.pairwise"].contains n=false) (hQ:Q () s):wpAny M A (letOwnedTupleGo tg (.ref it) u) Q E s:=by
 unfold letOwnedTupleGo
 cases tg <;> first
  | exact wpAny_pure hQ
  | (cases u <;> first
    | exact wpAny_pure hQ
    | (refine wpAny_bind (wpAny_load ho ?_)
       rw [hc,hd]
       show wpAny M A (if (["enumerate","zip","dict_itemiterator","dict_reverseitemiterator","odict_iterator","itertools.zip_longest","itertools.pairwise"].contains n && vs[0]? == some (rawInt _))=true then _ else _) Q E s
       rw [if_neg (by intro h;rw [hn,Bool.false_and] at h;cases h)]
       exact wpAny_pure hQ))
noncomputable def Itl (K:PySem.W.Frag) (a:Addr):It :=
 ⟨fun i H=>∃xs x,SqL K H a xs/\xs[i]? = some x,fun i H x H'=>H' = H/\∀xs,SqL K H a xs->xs[i]? = some x,fun i H=>∃xs,SqL K H a xs/\xs.length<=i⟩
noncomputable def Itt (K:PySem.W.Frag) (a:Addr):It :=
 ⟨fun i H=>∃xs x,SqT K H a xs/\xs[i]? = some x,fun i H x H'=>H' = H/\∀xs,SqT K H a xs->xs[i]? = some x,fun i H=>∃xs,SqT K H a xs/\xs.length<=i⟩
noncomputable def Itr (lo:Int) (n:Nat):It:=⟨fun i _=>i<n,fun i H x H'=>H' = H/\x=.int (lo+i),fun i _=>n<=i⟩
theorem zvv {P:Program}{w:World}{K:PySem.W.Frag}{tg:Expr}(a it:Addr):Turn P w K tg (Itl K a) [it] it (fun i h=>h.IsListIter it a i) where
 mem:=by simp
 obj:=fun i h st b hb=>by
  have e:b=it:=by simpa using hb
  subst e
  obtain ⟨o,e,c,d⟩:=st
  exact ⟨o,e,fun v z=>by rw [d] at z;cases z⟩
 keep:=fun i h h' st k=>st.at fun o e=>k it (by simp) o e
 item:=by
  intro X hP hw hK hc i pins s σ H E I hf st hg
  subst hP hw hK
  obtain ⟨xs,x,hq,hx⟩:=hg
  obtain ⟨its,rv,p,hz⟩:=I.list hq
  obtain ⟨u,hu,ru⟩:=rv.get hx
  obtain ⟨f0,f1,f2,f3,f4,f5⟩:=hf it (by simp)
  refine wpAny_pyNext_list_item st p.isList (x:=u) (by simpa using hu) fun h' st' sb=>?_
  have I1:Inv X pins σ H { s with heap:=h' }:=I.turned (t':=s.toks) (fun b o hb e=>(sb.2 b hb).trans e) f0 f1 f3 f4 f5
  obtain ⟨o,e,c,d⟩:=id st'
  exact ⟨u,rfl,zij (s:={ s with heap:=h' }) e c d (by decide) ⟨x,H,I1,ru,⟨rfl,fun ys hy=>by rw [I.list_inj hy hq];exact hx⟩,st',fun b hb=>(hf b hb).1⟩⟩
 done:=by
  intro X hP hw hK hc i pins s σ H E I hf st hg
  subst hP hw hK
  obtain ⟨xs,hq,hx⟩:=hg
  obtain ⟨its,rv,p,hz⟩:=I.list hq
  obtain ⟨f0,f1,f2,f3,f4,f5⟩:=hf it (by simp)
  have hl:=rv.length
  exact wpAny_pyNext_list_end (I.ok.hd hc) st p.isList (by simp;omega) fun h' eb=>⟨rfl,I.turned (t':=s.toks) (fun b o hb e=>eb b o hb e) f0 f1 f3 f4 f5⟩
 self:=fun _ _ _ _ _ st h=>wpAny_pyIter_listiter st h
theorem zvw {P:Program}{w:World}{K:PySem.W.Frag}{tg:Expr}(a it:Addr):Turn P w K tg (Itt K a) [it] it (fun i h=>h.IsTupleIter it a i) where
 mem:=by simp
 obj:=fun i h st b hb=>by
  have e:b=it:=by simpa using hb
  subst e
  obtain ⟨o,e,c,d⟩:=st
  exact ⟨o,e,fun v z=>by rw [d] at z;cases z⟩
 keep:=fun i h h' st k=>st.at fun o e=>k it (by simp) o e
 item:=by
  intro X hP hw hK hc i pins s σ H E I hf st hg
  subst hP hw hK
  obtain ⟨xs,x,hq,hx⟩:=hg
  obtain ⟨its,rv,p,hz⟩:=I.tuple hq
  obtain ⟨u,hu,ru⟩:=rv.get hx
  obtain ⟨f0,f1,f2,f3,f4,f5⟩:=hf it (by simp)
  refine wpAny_pyNext_tuple_item st (show s.heap.IsTuple a its.toArray from p) (x:=u) (by simpa using hu) fun h' st' sb=>?_
  have I1:Inv X pins σ H { s with heap:=h' }:=I.turned (t':=s.toks) (fun b o hb e=>(sb.2 b hb).trans e) f0 f1 f3 f4 f5
  obtain ⟨o,e,c,d⟩:=id st'
  exact ⟨u,rfl,zij (s:={ s with heap:=h' }) e c d (by decide) ⟨x,H,I1,ru,⟨rfl,fun ys hy=>by rw [I.tuple_inj hy hq];exact hx⟩,st',fun b hb=>(hf b hb).1⟩⟩
 done:=by
  intro X hP hw hK hc i pins s σ H E I hf st hg
  subst hP hw hK
  obtain ⟨xs,hq,hx⟩:=hg
  obtain ⟨its,rv,p,hz⟩:=I.tuple hq
  obtain ⟨f0,f1,f2,f3,f4,f5⟩:=hf it (by simp)
  have hl:=rv.length
  exact wpAny_pyNext_tuple_end (I.ok.hd hc) st (show s.heap.IsTuple a its.toArray from p) (by simp;omega) fun h' eb=>⟨rfl,I.turned (t':=s.toks) (fun b o hb e=>eb b o hb e) f0 f1 f3 f4 f5⟩
 self:=fun _ _ _ _ _ st h=>wpAny_pyIter_tupleiter st h
theorem zvx {P:Program}{w:World}{K:PySem.W.Frag}{tg:Expr}(it:Addr) (lo:Int) (n:Nat):Turn P w K tg (Itr lo n) [it] it (fun i h=>IsRangeIter h it (lo+(i:Nat)*1) ((n:Int)-(i:Nat)) 1) where
 mem:=by simp
 obj:=fun i h st b hb=>by
  have e:b=it:=by simpa using hb
  subst e
  exact ⟨_,st,fun v z=>by
   have z':Data.fields _=Data.cell v:=z
   cases z'⟩
 keep:=fun i h h' st k=>k it (by simp) _ st
 item:=by
  intro X hP hw hK hc i pins s σ H E I hf st hg
  subst hP hw hK
  obtain ⟨f0,f1,f2,f3,f4,f5⟩:=hf it (by simp)
  have W:=Walks.range (prog:=X.prog) (w:=X.w) (I.ok.hd hc) it lo 1 n
  refine W.item i s _ _ hg st fun v h' tk hv st' kk=>?_
  obtain ⟨t,rfl⟩:=hv
  have I1:Inv X pins σ H { s with heap:=h',toks:=tk }:=I.turned (fun b o hb e=>kk b o (by simpa using hb) e) f0 f1 f3 f4 f5
  refine ⟨_,rfl,zij (s:={ s with heap:=h',toks:=tk }) (n:="range_iterator") st' rfl rfl (by decide) ⟨.int (lo+i),H,I1,⟨t,?_⟩,⟨rfl,rfl⟩,st',fun b hb=>(hf b hb).1⟩⟩
  rw [Int.mul_one]
 done:=by
  intro X hP hw hK hc i pins s σ H E I hf st hg
  subst hP hw hK
  obtain ⟨f0,f1,f2,f3,f4,f5⟩:=hf it (by simp)
  exact wpAny_pyNext_range_end (I.ok.hd hc) st (by have:n<=i:=hg;omega) fun h' eb=>⟨rfl,I.turned (t':=s.toks) (fun b o hb e=>eb b o hb e) f0 f1 f3 f4 f5⟩
 self:=fun _ _ _ _ _ st h=>wpAny_pyIter_rangeiter st h
end L2
namespace L2
open PySem PySem.Spec PyProof.Rows
section
variable {X:Cx}{tg:Expr}
noncomputable def zvy (K:PySem.W.Frag) (tl:TE):TI:=fun σ H R=>tl σ H fun x H1=>∃a,x=.ref a/\(∃xs,SqL K H1 a xs)/\R (Itl K a) H1
noncomputable def zvz (K:PySem.W.Frag) (tl:TE):TI:=fun σ H R=>tl σ H fun x H1=>∃a,x=.ref a/\(∃xs,SqT K H1 a xs)/\R (Itt K a) H1
theorem znx {l:Expr}{tl:TE}(hl:PE X l tl):PI X tg l (zvy X.K tl):=by
 intro pins s σ H R I h
 refine thn (hl pins s σ H _ I h) fun v s1 ⟨x,H1,I1,r1,q1⟩=>?_
 obtain ⟨a,e,⟨xs,hq⟩,q⟩:=q1
 subst e
 cases r1
 obtain ⟨its,rv,p,hz⟩:=I1.list hq
 refine wpAny_pyIter_list p.isList ?_
 refine ⟨s1.heap.objs.size,[s1.heap.objs.size],_,_,H1,rfl,I1.kept (t':=s1.toks) fun b o e=>Heap.get?_push_of_some _ e,zvv a _,⟨_,Heap.get?_push_size _ rfl,rfl,rfl⟩,fun b hb=>?_,q⟩
 have e:b=s1.heap.objs.size:=by simpa using hb
 subst e
 exact I1.fpOk (Nat.le_refl _) (I1.hok.fresh (Nat.le_refl _))
theorem zny {l:Expr}{tl:TE}(hl:PE X l tl):PI X tg l (zvz X.K tl):=by
 intro pins s σ H R I h
 refine thn (hl pins s σ H _ I h) fun v s1 ⟨x,H1,I1,r1,q1⟩=>?_
 obtain ⟨a,e,⟨xs,hq⟩,q⟩:=q1
 subst e
 cases r1
 obtain ⟨its,rv,p,hz⟩:=I1.tuple hq
 refine wpAny_pyIter_tuple (show s1.heap.IsTuple a its.toArray from p) ?_
 refine ⟨s1.heap.objs.size,[s1.heap.objs.size],_,_,H1,rfl,I1.kept (t':=s1.toks) fun b o e=>Heap.get?_push_of_some _ e,zvw a _,⟨_,Heap.get?_push_size _ rfl,rfl,rfl⟩,fun b hb=>?_,q⟩
 have e:b=s1.heap.objs.size:=by simpa using hb
 subst e
 exact I1.fpOk (Nat.le_refl _) (I1.hok.fresh (Nat.le_refl _))
theorem znz {pins:List (Addr × Obj)}{σ:St}{H:Hp}{s:Shared}{R:It->Hp->Prop}{E:Value->Shared->Prop}{lo hi:Int}{t u v:Tok}{tk:Nat}(I:Inv X pins σ H s) (h1:-(2 ^ 62)<=lo) (h2:lo<2 ^ 62) (h3:-(2 ^ 62)<=hi) (h4:hi<2 ^ 62)
  (q:R (Itr lo (hi-lo).toNat) H):wpAny (model X.prog X.w) X.A (pyIter (.ref s.heap.objs.size)) (PIE X pins σ tg R) E { s with heap:=s.heap.push { cls:=.type "range",data:=.fields #[.int lo t,.int hi u,.int 1 v] },toks:=tk }:=by
 refine wpAny_pyIter_range (IsRange.new ..) (small_one h1 h2 h3 h4) ?_
 have I1:Inv X pins σ H { s with heap:=s.heap.push { cls:=.type "range",data:=.fields #[.int lo t,.int hi u,.int 1 v] },toks:=tk }:=I.kept fun b o e=>Heap.get?_push_of_some _ e
 refine ⟨(s.heap.push { cls:=.type "range",data:=.fields #[.int lo t,.int hi u,.int 1 v] }).objs.size,[(s.heap.push { cls:=.type "range",data:=.fields #[.int lo t,.int hi u,.int 1 v] }).objs.size],_,_,H,rfl,
  I1.kept (t':=tk) fun b o e=>Heap.get?_push_of_some _ e,zvx _ lo (hi-lo).toNat,?_,fun b hb=>?_,q⟩
 ·have e1:lo+((0:Nat):Int)*1=lo:=by simp
  have e2:(((hi-lo).toNat:Nat):Int)-((0:Nat):Int)=Builtin.Range.rangeSize lo hi 1:=by rw [rangeSize_one];split <;> omega
  show IsRangeIter _ _ (lo+((0:Nat):Int)*1) ((((hi-lo).toNat:Nat):Int)-((0:Nat):Int)) 1
  rw [e1,e2]
  exact Heap.get?_push_size _ rfl
 ·have e:b=(s.heap.push { cls:=.type "range",data:=.fields #[.int lo t,.int hi u,.int 1 v] }).objs.size:=by simpa using hb
  subst e
  exact I1.fpOk (Nat.le_refl _) (I1.hok.fresh (Nat.le_refl _))
noncomputable def zv0 (ta:TA):TI:=fun σ H R=>ta σ H fun vs H1=>∃j:Int,vs=[.int j]/\-(2 ^ 62)<=j/\j<2 ^ 62/\R (Itr 0 j.toNat) H1
noncomputable def zv1 (ta:TA):TI:=fun σ H R=>ta σ H fun vs H1=>∃i j:Int,vs=[.int i,.int j]/\(-(2 ^ 62)<=i/\i<2 ^ 62/\-(2 ^ 62)<=j/\j<2 ^ 62)/\R (Itr i (j-i).toNat) H1
theorem zn0 {a:Expr}{ta:TA}{p pos:Pos}(hg:Gl X "range") (hm:X.mg "range" = none) (ha:PA X [a] ta) (hs:starEach [a] X.env=[(false,eval a X.env)]:=by rfl):PI X tg (.Call (.Name "range" p) [a] [] pos) (zv0 ta):=by
 intro pins s σ H R I h
 refine Call_ (zg6 I hg hm boot_range (PyProof.Rows.callWith_type1 (thn (ha pos pins s σ H _ I h) fun us s1 ⟨vs,H1,I1,r1,q1⟩=>?_) hs rfl))
 obtain ⟨j,e,q1,q2,q⟩:=q1
 subst e
 cases r1 with
 | cons r rr =>
  cases rr
  obtain ⟨t,rfl⟩:=r
  exact call_range_1 (znz I1 (by omega) (by omega) q1 q2 (by simpa using q))
theorem zv2 {a b:Expr}{ta:TA}{p pos:Pos}(hg:Gl X "range") (hm:X.mg "range" = none) (ha:PA X [a,b] ta) (hs:starEach [a,b] X.env=[(false,eval a X.env),(false,eval b X.env)]:=by rfl) (hs2:starEach [b] X.env=[(false,eval b X.env)]:=by rfl) :
  PI X tg (.Call (.Name "range" p) [a,b] [] pos) (zv1 ta):=by
 intro pins s σ H R I h
 refine Call_ (zg6 I hg hm boot_range (PyProof.Rows.callWith_type1 (thn (ha pos pins s σ H _ I h) fun us s1 ⟨vs,H1,I1,r1,q1⟩=>?_) (by rw [hs,hs2]) (by rw [hs2];rfl)))
 obtain ⟨i,j,e,⟨q1,q2,q3,q4⟩,q⟩:=q1
 subst e
 cases r1 with
 | cons r rr =>
  cases rr with
  | cons r' rr =>
   cases rr
   obtain ⟨t,rfl⟩:=r
   obtain ⟨t',rfl⟩:=r'
   exact call_range_2 (znz I1 q1 q2 q3 q4 q)
noncomputable def zv3 (wi:TI) (g:TG) (tb:TS):TS:=fun D σ H=>wi σ H fun J H1=>∃W:Nat->Nat->St->Hp->Prop,(∃m,W 0 m σ H1)/\∀i m σ H,W i m σ H ->
 (J.stop i H/\D.nx σ H)∨(J.go i H/\∃N:St->Hp->Prop,(∀σ' H',N σ' H'->∃m',m' < m/\W (i+1) m' σ' H')/\∀x H',J.yld i H x H'->g x σ H' fun σ2 H2=>tb { D with nx:=N,ct:=N,bk:=D.nx } σ2 H2)
noncomputable def zcx (fp:List Addr) (h:Heap):List (Addr × Obj):=fp.filterMap fun b=>(h.get? b).map fun o=>(b,o)
theorem zc4 {fp:List Addr}{h:Heap}{b:Addr}{o:Obj}(hb:b∈fp) (e:h.get? b=some o):(b,o)∈zcx fp h:=List.mem_filterMap.mpr ⟨b,hb,by rw [e];rfl⟩
theorem zv4 {fp:List Addr}{h:Heap}{p:Addr × Obj}(hp:p∈zcx fp h):p.1∈fp/\h.get? p.1=some p.2:=by
 obtain ⟨b,hb,e⟩:=List.mem_filterMap.mp hp
 cases q:h.get? b with
 | none=>rw [q] at e;cases e
 | some o =>
  rw [q] at e
  have e':(b,o)=p:=Option.some.inj e
  subst e'
  exact ⟨hb,q⟩
theorem Inv.pinned {pins:List (Addr × Obj)}{σ:St}{H:Hp}{s:Shared}{fp:List Addr}(I:Inv X pins σ H s) (hf:∀b∈fp,zcb X pins H b) (ho:∀b∈fp,∃o,s.heap.get? b=some o/\∀v,o.data≠.cell v):Inv X (pins++zcx fp s.heap) σ H s :=
 I.pins_of fun p hp=>(List.mem_append.mp hp).elim (fun z=>I.pin p (List.mem_append_right _ z)) fun z=>by
  obtain ⟨hb,e⟩:=zv4 z
  obtain ⟨f0,f1,f2,_⟩:=hf p.1 hb
  obtain ⟨o,e',d⟩:=ho p.1 hb
  rw [e] at e';cases e'
  exact ⟨e,f0,f1,f2,d⟩
theorem Inv.unpinned {pins pl:List (Addr × Obj)}{σ:St}{H:Hp}{s:Shared}(I:Inv X (pins++pl) σ H s):Inv X pins σ H s:=I.pins_of fun p hp=>I.pin p (List.mem_append_right _ (List.mem_append_left _ hp))
theorem zn1 {iter:Expr}{body:List Stmt}{wi:TI}{g:TG}{tb:TS}{pos:Pos}(hp:PassesOwn (model X.prog X.w) X.A X.env X.xe) (hc:X.calm=true) (hi:PI X tg iter wi) (hg:PG X tg g) (hb:PSs X body tb)
  (hs:∀x,foldedSetIterable iter X.env x=pure x:=by intro _;rfl):PS X (.For tg iter body [] pos) (zv3 wi g tb):=by
 intro pins s σ H D I h
 refine wpAny_For (thn (hi pins s σ H _ I h) fun v s1 h1=>thn h1 fun itv s2 h2=>?_) hs
 obtain ⟨it,fp,tn,J,H2,e,I2,T,st2,f2,W,⟨m0,w0⟩,turn⟩:=h2
 subst e
 have stat:∀{H':Hp},(∀b∈fp,H' b=none)->∀b∈fp,zcb X pins H' b:=fun hn b hb=>⟨hn b hb,(f2 b hb).2⟩
 refine codeAny_forLoop_any (fun n s'=>∃i σ' H',Inv X pins σ' H' s'/\tn i s'.heap/\(∀b∈fp,H' b=none)/\W i n σ' H') ?_ m0 ⟨0,σ,H2,I2,st2,fun b hb=>(f2 b hb).1,w0⟩
 rintro n s3 ⟨i,σ3,H3,I3,st3,fr3,w3⟩
 rcases turn i n σ3 H3 w3 with ⟨stop,qn⟩|⟨go,N,hN,step⟩
 ·refine wpAny_passesOwn hp (thn (T.done X rfl rfl rfl hc i pins s3 σ3 H3 X.xe I3 (stat fr3) st3 stop) fun r s4 ⟨hr,I4⟩=>?_)
  subst hr
  exact wpAny_execs_nil ⟨σ3,H3,I4,qn⟩
 ·refine wpAny_passesOwn hp (thn (T.item X rfl rfl rfl hc i pins s3 σ3 H3 X.xe I3 (stat fr3) st3 go) fun r s4 ⟨u,hr,h4⟩=>?_)
  subst hr
  refine wpAny_passesOwn hp (thn h4 fun _ s5 ⟨x,H5,I5,r5,y5,st5,fr5⟩=>?_)
  have I5':=I5.pinned (stat fr5) (T.obj _ _ st5)
  refine wpAny_passesOwn hp (thn (hg _ s5 σ3 H5 x u _ I5' r5 (step x H5 y5)) fun _ s6 ⟨σ6,H6,I6,q6⟩=>?_)
  refine wpAny_passesOwn hp (thn (hb _ s6 σ6 H6 _ I6 q6) fun f s7 q7=>?_)
  have again:∀{σ7:St} {H7:Hp},Inv X (pins++zcx fp s5.heap) σ7 H7 s7->N σ7 H7->∃m,m<n/\∃i σ' H',Inv X pins σ' H' s7/\tn i s7.heap/\(∀b∈fp,H' b=none)/\W i m σ' H':=fun {σ7 H7} I7 n7=>by
   obtain ⟨m',hm,w7⟩:=hN σ7 H7 n7
   refine ⟨m',hm,i+1,σ7,H7,I7.unpinned,T.keep _ _ _ st5 fun b hb o e=>(I7.pin (b,o) (List.mem_append_right _ (List.mem_append_right _ (zc4 hb e)))).1,fun b hb=>?_,w7⟩
   obtain ⟨o,e,d⟩:=T.obj _ _ st5 b hb
   exact (I7.pin (b,o) (List.mem_append_right _ (List.mem_append_right _ (zc4 hb e)))).2.1
  cases f with
  | next=>obtain ⟨σ7,H7,I7,n7⟩:=q7;exact again I7 n7
  | cont=>obtain ⟨σ7,H7,I7,n7⟩:=q7;exact again I7 n7
  | brk=>obtain ⟨σ7,H7,I7,q7⟩:=q7;exact ⟨σ7,H7,I7.unpinned,q7⟩
  | ret v=>obtain ⟨x7,σ7,H7,I7,r7,q7⟩:=q7;exact ⟨x7,σ7,H7,I7.unpinned,r7,q7⟩
end
end L2
namespace L2
open PySem PySem.Spec PyProof.Rows
noncomputable abbrev R2:=V->V->Hp->VK->Prop
noncomputable def OpR (X:Cx) (f:Value->Value->Sem Value) (r:R2):Prop :=
 ∀(pins:List (Addr × Obj)) (s:Shared) (σ:St) (H:Hp) (x y:V) (v u:Value) (Q:VK),Inv X pins σ H s->RelV x v->RelV y u->r x y H Q ->
  wpAny (model X.prog X.w) X.A (f v u) (EP X pins σ Q) X.xe s
noncomputable def UnR (X:Cx) (f:Value->Sem Value) (r:V->Hp->VK->Prop):Prop :=
 ∀(pins:List (Addr × Obj)) (s:Shared) (σ:St) (H:Hp) (x:V) (v:Value) (Q:VK),Inv X pins σ H s->RelV x v->r x H Q ->
  wpAny (model X.prog X.w) X.A (f v) (EP X pins σ Q) X.xe s
noncomputable def CallR (X:Cx) (f:Value) (r:List V->Hp->VK->Prop):Prop :=
 ∀(pins:List (Addr × Obj)) (s:Shared) (σ:St) (H:Hp) (xs:List V) (us:List Value) (Q:VK),Inv X pins σ H s->Vals xs us->r xs H Q ->
  wpAny (model X.prog X.w) X.A (call f us) (EP X pins σ Q) X.xe s
noncomputable def zv5 (X:Cx) (r:V->Hp->(Bool->Hp->Prop)->Prop):Prop :=
 ∀(pins:List (Addr × Obj)) (s:Shared) (σ:St) (H:Hp) (x:V) (v:Value) (Q:Bool->Hp->Prop),Inv X pins σ H s->RelV x v->r x H Q ->
  wpAny (model X.prog X.w) X.A (truthy v) (TP X pins σ Q) X.xe s
noncomputable def tOp (r:R2) (ta tb:TE):TE:=fun σ H Q=>ta σ H fun x H1=>tb σ H1 fun y H2=>r x y H2 Q
noncomputable def tUn (r:V->Hp->VK->Prop) (ta:TE):TE:=fun σ H Q=>ta σ H fun x H1=>r x H1 Q
noncomputable def rI (C:Int->Int->Prop) (g:Int->Int->V):R2:=fun x y H Q=>∃i j,x=.int i/\y=.int j/\C i j/\Q (g i j) H
noncomputable def rI0 (g:Int->Int->V):R2:=fun x y H Q=>∃i j,x=.int i/\y=.int j/\Q (g i j) H
noncomputable def rU (g:Int->V):V->Hp->VK->Prop:=fun x H Q=>∃i,x=.int i/\Q (g i) H
section
variable {X:Cx}{a b c:Expr}{ta tb tc:TE}{pos:Pos}
theorem zkh (ha:PE X a ta) (hb:PE X b tb) {pins:List (Addr × Obj)}{s:Shared}{σ:St}{H:Hp}{R:V->V->Hp->Prop}(I:Inv X pins σ H s)
  (h:ta σ H fun x H1=>tb σ H1 fun y H2=>R x y H2) {Q:Value->Shared->Prop} {f:Value->Value->Sem Value}
  (hf:∀v u s2 x y H2,Inv X pins σ H2 s2->RelV x v->RelV y u->R x y H2->wpAny (model X.prog X.w) X.A (f v u) Q X.xe s2) :
  wpAny (model X.prog X.w) X.A (eval a X.env) (fun v s₁=>wpAny (model X.prog X.w) X.A (eval b X.env) (fun u s₂=>wpAny (model X.prog X.w) X.A (f v u) Q X.xe s₂) X.xe s₁) X.xe s:=by
 refine thn (ha pins s σ H _ I h) fun v s1 ⟨x,H1,I1,r1,q1⟩=>?_
 refine thn (hb pins s1 σ H1 _ I1 q1) fun u s2 ⟨y,H2,I2,r2,q2⟩=>?_
 exact hf v u s2 x y H2 I2 r1 r2 q2
theorem zv6 {op:Operator}{r:R2}(ho:OpR X (binaryOp op) r) (ha:PE X a ta) (hb:PE X b tb):PE X (.BinOp a op b pos) (tOp r ta tb):=by
 intro pins s σ H Q I h
 exact wpAny_BinOp (zkh ha hb I h fun v u s2 x y H2 I2 rx ry q=>ho pins s2 σ H2 x y v u Q I2 rx ry q)
theorem zv7 {op:UnaryOp}{r:V->Hp->VK->Prop}(ho:UnR X (unaryOp op) r) (ha:PE X a ta):PE X (.UnaryOp op a pos) (tUn r ta):=by
 intro pins s σ H Q I h
 exact UnaryOp_ (thn (ha pins s σ H _ I h) fun v s1 ⟨x,H1,I1,r1,q1⟩=>ho pins s1 σ H1 x v Q I1 r1 q1)
theorem opI {f:Value->Value->Sem Value}{C:Int->Int->Prop}{g:Int->Int->Int}
  (rule:∀(i j:Int) (t u:Tok) (s:Shared) (Q:Value->Shared->Prop) (E:Value->Shared->Prop),C i j->Q (.int (g i j) s.toks) { s with toks:=s.toks+1 }->wpAny (model X.prog X.w) X.A (f (.int i t) (.int j u)) Q E s) :
  OpR X f (rI C fun i j=>.int (g i j)):=by
 intro pins s σ H x y v u Q I rx ry h
 obtain ⟨i,j,rfl,rfl,hc,q⟩:=h
 obtain ⟨t,rfl⟩:=rx
 obtain ⟨t',rfl⟩:=ry
 exact rule i j t t' s _ _ hc ⟨.int (g i j),H,I.tok _,⟨_,rfl⟩,q⟩
theorem zv8 {f:Value->Value->Sem Value}{g:Int->Int->Int}
  (rule:∀(i j:Int) (t u:Tok) (s:Shared) (Q:Value->Shared->Prop) (E:Value->Shared->Prop),Q (.int (g i j) s.toks) { s with toks:=s.toks+1 }->wpAny (model X.prog X.w) X.A (f (.int i t) (.int j u)) Q E s) :
  OpR X f (rI0 fun i j=>.int (g i j)):=by
 intro pins s σ H x y v u Q I rx ry h
 obtain ⟨i,j,rfl,rfl,q⟩:=h
 obtain ⟨t,rfl⟩:=rx
 obtain ⟨t',rfl⟩:=ry
 exact rule i j t t' s _ _ ⟨.int (g i j),H,I.tok _,⟨_,rfl⟩,q⟩
theorem zki {f:Value->Value->Sem Value}{g:Int->Int->Bool}
  (rule:∀(i j:Int) (t u:Tok) (s:Shared) (Q:Value->Shared->Prop) (E:Value->Shared->Prop),Q (.bool (g i j)) s->wpAny (model X.prog X.w) X.A (f (.int i t) (.int j u)) Q E s) :
  OpR X f (rI0 fun i j=>.bl (g i j)):=by
 intro pins s σ H x y v u Q I rx ry h
 obtain ⟨i,j,rfl,rfl,q⟩:=h
 obtain ⟨t,rfl⟩:=rx
 obtain ⟨t',rfl⟩:=ry
 exact rule i j t t' s _ _ ⟨.bl (g i j),H,I,rfl,q⟩
noncomputable def zik (i j:Int):Prop:=0<j/\j<1073741824
noncomputable def zil (i j:Int):Prop:=0<=j/\j<=1000000/\i.natAbs<2 ^ 64
noncomputable def CMul (i j:Int):Prop:=(-(2 ^ 64)<i/\i<2 ^ 64)∨(-(2 ^ 64)<j/\j<2 ^ 64)
theorem CMul.ok {i j:Int}(h:CMul i j):IntMulOk i j:=by
 rcases h with ⟨h1,h2⟩|⟨h1,h2⟩
 ·exact .of_left (intBits_le_64 h1 h2)
 ·exact .of_right (intBits_le_64 h1 h2)
theorem op_add:OpR X (binaryOp .Add) (rI0 fun i j=>.int (i+j)):=zv8 fun _ _ _ _ _ _ _ q=>add_int q
theorem op_mul:OpR X (binaryOp .Mult) (rI CMul fun i j=>.int (i*j)):=opI fun _ _ _ _ _ _ _ hc q=>mul_int q hc.ok
theorem zv9:OpR X (binaryOp .FloorDiv) (rI zik fun i j=>.int (i / j)):=opI fun i j _ _ _ _ _ hc q=>by
 have h1:(0:Int)<j:=hc.1
 have h2:j<1073741824:=hc.2
 exact floordiv_int (by omega) (by rw [Int.fdiv_eq_ediv_of_nonneg i (by omega)];exact q) (.inl (PyProof.noPylong_small (by omega)))
theorem zwa:OpR X (binaryOp .Mod) (rI (fun _ j=>0<j) fun i j=>.int (i % j)):=opI fun i j _ _ _ _ _ hc q=>by
 have h1:(0:Int)<j:=hc
 exact mod_int' (by omega) (by rw [Int.fmod_eq_emod_of_nonneg i (by omega)];exact q)
theorem zwb:OpR X (binaryOp .Pow) (rI zil fun i j=>.int (i ^ j.toNat)):=opI fun _ _ _ _ _ _ _ hc q=>pow_int_small hc.1 hc.2.1 hc.2.2 q
theorem unI {f:Value->Sem Value}{g:Int->Int}
  (rule:∀(i:Int) (t:Tok) (s:Shared) (Q:Value->Shared->Prop) (E:Value->Shared->Prop),Q (.int (g i) s.toks) { s with toks:=s.toks+1 }->wpAny (model X.prog X.w) X.A (f (.int i t)) Q E s) :
  UnR X f (rU fun i=>.int (g i)):=by
 intro pins s σ H x v Q I rx h
 obtain ⟨i,rfl,q⟩:=h
 obtain ⟨t,rfl⟩:=rx
 exact rule i t s _ _ ⟨.int (g i),H,I.tok _,⟨_,rfl⟩,q⟩
theorem zwc:UnR X (unaryOp .USub) (rU fun i=>.int (-i)):=unI fun _ _ _ _ _ q=>neg_int q
end
noncomputable def zkj:V->V->Bool
 | .non,.non=>true | .non,.int _=>true | .int _,.non=>true | .non,.bl _=>true | .bl _,.non=>true | .non,.str _=>true | .str _,.non=>true
 | .int _,.int _=>true | .bl _,.bl _=>true | .str _,.str _=>true | .byt _,.byt _=>true
 | .int _,.str _=>true | .str _,.int _=>true | .bl _,.str _=>true | .str _,.bl _=>true
 | _,_=>false
noncomputable def rEq:R2:=fun x y H Q=>zkj x y=true/\Q (.bl (decide (x=y))) H
noncomputable def rNe:R2:=fun x y H Q=>zkj x y=true/\Q (.bl (!decide (x=y))) H
theorem zn2 {i j:Int}:decide (V.int i=V.int j)=(i == j):=by
 rw [Bool.eq_iff_iff]
 simp
theorem zn3 {i j:Bool}:decide (V.bl i=V.bl j)=(i == j):=by
 rw [Bool.eq_iff_iff]
 simp
theorem zn4 {i j:Str}:decide (V.str i=V.str j)=(i == j):=by
 rw [Bool.eq_iff_iff]
 simp
theorem zn5 {i j:Array UInt8}:decide (V.byt i=V.byt j)=(i.toList == j.toList):=by
 rw [Bool.eq_iff_iff]
 cases i
 cases j
 simp
section
variable {X:Cx}{a b c:Expr}{ta tb tc:TE}{pos:Pos}
theorem zbe {pins:List (Addr × Obj)}{σ:St}{H:Hp}{s:Shared}{Q:VK}{k k':Bool}(I:Inv X pins σ H s) (q:Q (.bl k) H) (e:k=k'):EP X pins σ Q (.bool k') s:=by
 subst e
 exact ⟨.bl k,H,I,rfl,q⟩
theorem zwd:OpR X (compareOp .Eq) rEq:=by
 intro pins s σ H x y v u Q I rx ry h
 obtain ⟨hs,q⟩:=h
 cases x with
 | non =>
  cases rx
  cases y with
  | non=>cases ry;exact PySem.EqNone.eq_none_none (zbe I q (by simp))
  | bl j=>cases ry;exact PySem.EqNone.eq_none_bool (zbe I q (by simp))
  | int j=>obtain ⟨t',rfl⟩:=ry;exact PySem.EqNone.eq_none_int (zbe I q (by simp))
  | str j=>obtain ⟨t',rfl⟩:=ry;exact PySem.EqNone.eq_none_str (zbe I q (by simp))
  | _=>exact absurd (show false=true from hs) Bool.false_ne_true
 | bl i =>
  cases rx
  cases y with
  | non=>cases ry;exact PySem.EqNone.eq_bool_none (zbe I q (by simp))
  | bl j=>cases ry;exact eq_bool (zbe I q zn3)
  | str j=>obtain ⟨t',rfl⟩:=ry;exact PySem.EqMixed.eq_bool_str (zbe I q (by simp))
  | _=>exact absurd (show false=true from hs) Bool.false_ne_true
 | int i =>
  obtain ⟨t,rfl⟩:=rx
  cases y with
  | non=>cases ry;exact PySem.EqNone.eq_int_none (zbe I q (by simp))
  | int j=>obtain ⟨t',rfl⟩:=ry;exact eq_int (zbe I q zn2)
  | str j=>obtain ⟨t',rfl⟩:=ry;exact PySem.EqMixed.eq_int_str (zbe I q (by simp))
  | _=>exact absurd (show false=true from hs) Bool.false_ne_true
 | str i =>
  obtain ⟨t,rfl⟩:=rx
  cases y with
  | non=>cases ry;exact PySem.EqNone.eq_str_none (zbe I q (by simp))
  | bl j=>cases ry;exact PySem.EqMixed.eq_str_bool (zbe I q (by simp))
  | int j=>obtain ⟨t',rfl⟩:=ry;exact PySem.EqMixed.eq_str_int (zbe I q (by simp))
  | str j=>obtain ⟨t',rfl⟩:=ry;exact eq_str (zbe I q zn4)
  | _=>exact absurd (show false=true from hs) Bool.false_ne_true
 | byt i =>
  obtain ⟨t,rfl⟩:=rx
  cases y with
  | byt j=>obtain ⟨t',rfl⟩:=ry;exact PySem.W.eq_bytes (zbe I q zn5)
  | _=>exact absurd (show false=true from hs) Bool.false_ne_true
 | _=>cases y <;> exact absurd (show false=true from hs) Bool.false_ne_true
theorem zn6:OpR X (compareOp .NotEq) rNe:=by
 intro pins s σ H x y v u Q I rx ry h
 obtain ⟨hs,q⟩:=h
 cases x with
 | non =>
  cases rx
  cases y with
  | non=>cases ry;exact PySem.EqNone.ne_none_none (zbe I q (by simp))
  | bl j=>cases ry;exact PySem.EqNone.ne_none_bool (zbe I q (by simp))
  | int j=>obtain ⟨t',rfl⟩:=ry;exact PySem.EqNone.ne_none_int (zbe I q (by simp))
  | str j=>obtain ⟨t',rfl⟩:=ry;exact PySem.EqNone.ne_none_str (zbe I q (by simp))
  | _=>exact absurd (show false=true from hs) Bool.false_ne_true
 | bl i =>
  cases rx
  cases y with
  | non=>cases ry;exact PySem.EqNone.ne_bool_none (zbe I q (by simp))
  | bl j=>cases ry;exact ne_bool (zbe I q (congrArg not zn3))
  | str j=>obtain ⟨t',rfl⟩:=ry;exact PySem.EqMixed.ne_bool_str (zbe I q (by simp))
  | _=>exact absurd (show false=true from hs) Bool.false_ne_true
 | int i =>
  obtain ⟨t,rfl⟩:=rx
  cases y with
  | non=>cases ry;exact PySem.EqNone.ne_int_none (zbe I q (by simp))
  | int j=>obtain ⟨t',rfl⟩:=ry;exact ne_int (zbe I q (congrArg not zn2))
  | str j=>obtain ⟨t',rfl⟩:=ry;exact PySem.EqMixed.ne_int_str (zbe I q (by simp))
  | _=>exact absurd (show false=true from hs) Bool.false_ne_true
 | str i =>
  obtain ⟨t,rfl⟩:=rx
  cases y with
  | non=>cases ry;exact PySem.EqNone.ne_str_none (zbe I q (by simp))
  | bl j=>cases ry;exact PySem.EqMixed.ne_str_bool (zbe I q (by simp))
  | int j=>obtain ⟨t',rfl⟩:=ry;exact PySem.EqMixed.ne_str_int (zbe I q (by simp))
  | str j=>obtain ⟨t',rfl⟩:=ry;exact ne_str (zbe I q (congrArg not zn4))
  | _=>exact absurd (show false=true from hs) Bool.false_ne_true
 | byt i =>
  obtain ⟨t,rfl⟩:=rx
  cases y with
  | byt j=>obtain ⟨t',rfl⟩:=ry;exact PySem.W.ne_bytes (zbe I q (congrArg not zn5))
  | _=>exact absurd (show false=true from hs) Bool.false_ne_true
 | _=>cases y <;> exact absurd (show false=true from hs) Bool.false_ne_true
theorem zwe:OpR X (compareOp .Lt) (rI0 fun i j=>.bl (decide (i<j))):=zki fun _ _ _ _ _ _ _ q=>lt_int q
theorem zwf:OpR X (compareOp .Gt) (rI0 fun i j=>.bl (decide (j<i))):=zki fun _ _ _ _ _ _ _ q=>gt_int q
theorem zwg:OpR X (compareOp .GtE) (rI0 fun i j=>.bl (decide (j<=i))):=zki fun _ _ _ _ _ _ _ q=>ge_int q
theorem zwh:OpR X (compareOp .Is) (fun x y H Q=>y=.non/\Q (.bl (decide (x=.non))) H):=by
 intro pins s σ H x y v u Q I rx ry h
 obtain ⟨rfl,q⟩:=h
 cases ry
 refine is_none_gen (zbe I q ?_)
 cases x <;> first
  | (cases rx;rfl)
  | (obtain ⟨t,rfl⟩:=rx;rfl)
theorem zn7:OpR X (compareOp .IsNot) (fun x y H Q=>y=.non/\Q (.bl (!decide (x=.non))) H):=by
 intro pins s σ H x y v u Q I rx ry h
 obtain ⟨rfl,q⟩:=h
 cases ry
 refine isnot_none_gen (zbe I q ?_)
 cases x <;> first
  | (cases rx;rfl)
  | (obtain ⟨t,rfl⟩:=rx;rfl)
theorem OpR.or {f:Value->Value->Sem Value}{r r':R2}(h:OpR X f r) (h':OpR X f r'):OpR X f (fun x y H Q=>r x y H Q∨r' x y H Q):=by
 intro pins s σ H x y v u Q I rx ry q
 rcases q with q|q
 ·exact h pins s σ H x y v u Q I rx ry q
 ·exact h' pins s σ H x y v u Q I rx ry q
theorem zdf (b:Expr) {op:CmpOp}(h:op≠.In:=by decide) (h2:op≠.NotIn:=by decide):behindInMarks op b=false:=by
 have e1:(op == CmpOp.In)=false:=by cases op <;> first|rfl|exact absurd rfl h
 have e2:(op == CmpOp.NotIn)=false:=by cases op <;> first|rfl|exact absurd rfl h2
 cases b <;> simp [behindInMarks,e1,e2]
theorem zwi {op:CmpOp}{r:R2}(ho:OpR X (compareOp op) r) (ha:PE X a ta) (hb:PE X b tb) (hm:behindInMarks op b=false):PE X (.Compare a [op] [b] pos) (tOp r ta tb):=by
 intro pins s σ H Q I h
 exact wpAny_Compare1 (zkh ha hb I h fun v u s2 x y H2 I2 rx ry q=>ho pins s2 σ H2 x y v u Q I2 rx ry q) hm
noncomputable def zwj (t:TE):TT:=fun σ H Q=>t σ H fun x H'=>∃k,x=.bl k/\Q k H'
theorem zwk {op:CmpOp}{r:R2}(ho:OpR X (compareOp op) r) (ha:PE X a ta) (hb:PE X b tb) (hm:behindInMarks op b=false):PT X (.Compare a [op] [b] pos) (zwj (tOp r ta tb)):=by
 intro pins s σ H Q I h
 refine wpAny_isTrue_Compare1 (thn (ha pins s σ H _ I h) fun v s1 ⟨x,H1,I1,r1,q1⟩=>thn (hb pins s1 σ H1 _ I1 q1) fun u s2 ⟨y,H2,I2,r2,q2⟩ =>
  thn (ho pins s2 σ H2 x y v u _ I2 r1 r2 q2) fun c s3 ⟨z,H3,I3,r3,k,e,q3⟩=>?_) hm
 subst e
 cases r3
 exact wpAny_truthy_bool ⟨H3,I3,q3⟩
noncomputable def zn8 (K:PySem.W.Frag) (x:V) (H:Hp) (k:Bool):Prop :=
 match x with
 | .non=>k=false
 | .bl b=>k=b
 | .int i=>k=(i != 0)
 | .str y=>y.length<=sizeLine/\k=((y.length:Int) != 0)
 | .byt y=>y.size<=sizeLine/\k=((y.size:Int) != 0)
 | .ref p=>(∃xs,SqL K H p xs/\k = !xs.isEmpty)∨(∃xs,SqT K H p xs/\k = !xs.isEmpty)∨∃kvs,H p=some (.dK kvs)/\k = !kvs.isEmpty
 | _=>False
theorem zwl {κ:Type}{kvs:List (κ × V)}{vs:List (κ × Value)}(r:KV kvs vs):(!vs.isEmpty) = !kvs.isEmpty:=by
 cases r <;> rfl
theorem zn9 {xs:List V}{its:List Value}(r:Vals xs its):(!its.toArray.isEmpty) = !xs.isEmpty:=by
 cases r <;> simp
theorem ze8:(sizeLine:Nat)<2 ^ 63:=by rw [sizeLine_eq];decide
theorem zwm:zv5 X (fun x H Q=>∃k,zn8 X.K x H k/\Q k H):=by
 intro pins s σ H x v Q I rx h
 obtain ⟨k,e,q⟩:=h
 have hl:=ze8
 have hs:sizeLine=16777216:=sizeLine_eq
 cases x with
 | non =>
  cases rx
  have e':k=false:=e
  subst e'
  exact truthy_none ⟨H,I,q⟩
 | bl b =>
  cases rx
  have e':k=b:=e
  subst e'
  exact wpAny_truthy_bool ⟨H,I,q⟩
 | int i =>
  obtain ⟨t,rfl⟩:=rx
  have e':k=(i != 0):=e
  subst e'
  exact PySem.P.truthy_int ⟨H,I,q⟩
 | str y =>
  obtain ⟨t,rfl⟩:=rx
  obtain ⟨hy,e'⟩:y.length<=sizeLine/\k=((y.length:Int) != 0):=e
  subst e'
  exact PySem.P.truthy_str (by omega) ⟨H,I.tok _,q⟩
 | byt y =>
  obtain ⟨t,rfl⟩:=rx
  obtain ⟨hy,e'⟩:y.size<=sizeLine/\k=((y.size:Int) != 0):=e
  subst e'
  exact PySem.W.truthy_bytes (by omega) ⟨H,I.tok _,q⟩
 | ref p =>
  cases rx
  have e':(∃xs,SqL X.K H p xs/\k = !xs.isEmpty)∨(∃xs,SqT X.K H p xs/\k = !xs.isEmpty)∨∃kvs,H p=some (.dK kvs)/\k = !kvs.isEmpty:=e
  rcases e' with ⟨xs,hx,e'⟩|⟨xs,hx,e'⟩|⟨kvs,hx,e'⟩
  ·subst e'
   obtain ⟨its,r,pl,hz⟩:=I.list hx
   have hlen:=r.length
   exact wpAny_truthy_list pl.isList (by simp only [List.size_toArray];omega) ⟨H,I.tok _,by rw [zn9 r];exact q⟩
  ·subst e'
   obtain ⟨its,r,pl,hz⟩:=I.tuple hx
   have hlen:=r.length
   exact truthy_tuple pl (by simp only [List.size_toArray];omega) ⟨H,I.tok _,by rw [zn9 r];exact q⟩
  ·subst e'
   obtain ⟨hz,hS,vs,r,m⟩:kvs.length<=sizeLine/\(p == sysModules)=false/\∃vs,KV kvs vs/\s.heap.DictOf (zca X.prog X.w) p vs:=I.hok p _ hx
   have hlen:kvs.length=vs.length:=Paired.length r
   exact wpAny_truthy_dict hS m (by omega) ⟨H,I.tok _,by rw [zwl r];exact q⟩
 | _=>exact (show False from e).elim
theorem zwn (ha:PE X a ta) (he:∀whole,isTrue a X.env whole=(do let v ←whole;standAt a.pos;holding [v] (truthy v))) :
  PT X a (fun σ H Q=>ta σ H fun x H'=>∃k,zn8 X.K x H' k/\Q k H'):=by
 intro pins s σ H Q I h
 exact isTrue_plain (thn (ha pins s σ H _ I h) fun v s1 ⟨x,H1,I1,r1,q1⟩=>zwm pins s1 σ H1 x v Q I1 r1 q1) (he _)
theorem op_add_str:OpR X (binaryOp .Add) (fun x y H Q=>∃i j,x=.str i/\y=.str j/\i.length+j.length<=sizeLine/\Q (.str (i++j)) H):=by
 intro pins s σ H x y v u Q I rx ry h
 obtain ⟨i,j,rfl,rfl,hz,q⟩:=h
 obtain ⟨t,rfl⟩:=rx
 obtain ⟨t',rfl⟩:=ry
 exact add_str (fun t' tk=>⟨.str (i++j),H,I.tok _,⟨_,rfl⟩,q⟩) hz
theorem zed {x:V}{us:List Value}(r:Vals [x] us):∃u,us=[u]/\RelV x u:=by
 cases r with
 | cons r1 r2=>cases r2;exact ⟨_,rfl,r1⟩
theorem zwo:CallR X (.builtin "abs") (fun xs H Q=>∃i,xs=[.int i]/\Q (.int (if i<0 then -i else i)) H):=by
 intro pins s σ H xs us Q I r h
 obtain ⟨i,rfl,q⟩:=h
 obtain ⟨u,rfl,t,rfl⟩:=zed r
 exact call_abs_int fun u tk=>⟨.int (if i<0 then -i else i),H,I.tok _,⟨_,rfl⟩,q⟩
end
end L2
namespace L2
open PySem PySem.Spec PyProof.Rows
structure ObjM (h:Heap) (x dx C:Addr) (mA:Str->Option Value):Prop where
 obj:h.get? x=some (PySem.W.instObj C dx)
 ns:h.Ns1 dx mA
 ne:dx≠x
theorem zwp {h:Heap}{dx:Addr}{mA:Str->Option Value}(n:h.Ns1 dx mA):∃od,h.get? dx=some od/\∀name,PySem.W.lookIn name od=some (mA name):=by
 obtain ⟨o,es,ep,ho,hd,hk,_,hm⟩:=n
 refine ⟨o,ho,fun name=>?_⟩
 have e:=hm name
 unfold nsFind findBy at e
 rw [←Array.find?_toList] at e
 unfold PySem.W.lookIn
 rw [hd]
 dsimp only
 split
 ·rename_i y q
  rw [q] at e
  exact congrArg some e
 ·rename_i q
  rw [q] at e
  have a:es.toList.any (·.refKey)=false:=by
   rw [List.any_eq_false]
   intro y hy
   obtain ⟨z,t,hkey⟩:=hk y (Array.mem_toList_iff.mp hy)
   simp [DictEntry.refKey,hkey]
  have a':¬es.toList.any (·.refKey)=true:=by rw [a];exact Bool.false_ne_true
  rw [if_neg a']
  exact congrArg some e
theorem ObjM.look {h:Heap}{x dx C:Addr}{mA:Str->Option Value}(I:ObjM h x dx C mA):∃od,PySem.W.InstAt h x (PySem.W.instObj C dx) C (some od)/\∀name,PySem.W.lookIn name od=some (mA name) :=
 let ⟨od,ho,hl⟩:=zwp I.ns
 ⟨od,⟨I.obj,rfl,rfl,ho⟩,hl⟩
section
variable {prog:Program}{w:World}{A:Around}{E:Value->Shared->Prop}{s:Shared}{K:PySem.W.Frag}{x dx C f:Addr}{mA:Str->Option Value}{name:Str}{v:Value}
end
section
variable {P:Program}{w:World}{H H':Hp}{h h':Heap}{a C dx:Addr}{fs fs':List (Str × V)}
theorem zwq (hok:HOk P w H h) (e:H a=some (.ins C dx fs)):∃mA,ObjM h a dx C mA/\(∀f,RelO (fs.lookup f) (mA f))/\PySem.Within mA (fs.map (·.1))/\fs.length<=1000/\H dx=some (.own a):=by
 obtain ⟨d,z,ne,ob,mA,n,r,q⟩:=(show ObjOk P w H h a (.ins C dx fs) from hok a _ e)
 exact ⟨mA,⟨ob,n,ne⟩,r,q,z,d⟩
end
structure Cls (K:PySem.W.Frag) (C:Addr):Prop where
 pg:PySem.W.plainGet K C Str.empty=true
 hd:PySem.W.hasDictIn K C=true
 po:PySem.W.plainOver K C=true
 sa:PySem.W.findIn K (.ref C) "__setattr__" = some (some (.builtin "object.__setattr__"))
theorem Cls.get {K:PySem.W.Frag}{C:Addr}(c:Cls K C) (f:Str):PySem.W.plainGet K C f=true:=c.pg
section
variable {X:Cx}{pins:List (Addr × Obj)}{σ:St}{H:Hp}{s:Shared}{a C dx:Addr}{fs:List (Str × V)}{f:Str}{v:V}{A:Around}{E:Value->Shared->Prop}
end
section
variable {X:Cx}{o e value:Expr}{f:Str}{pos pos' tpos:Pos}{ta tv:TE}
end
section
variable {X:Cx}{pins:List (Addr × Obj)}{σ:St}{H:Hp}{s:Shared}{A:Around}{E:Value->Shared->Prop}{Q:Value->Shared->Prop}{c:Value}{b:Bool}
inductive TyOf (K:PySem.W.Frag) (H:Hp):V->Value->Prop where
 | non:TyOf K H .non (.type "NoneType")
 | bl (x:Bool):TyOf K H (.bl x) (.type "bool")
 | int (i:Int):TyOf K H (.int i) (.type "int")
 | str (x:Str):TyOf K H (.str x) (.type "str")
 | flt (x:UInt64):TyOf K H (.flt x) (.type "float")
 | lst {a:Addr} {xs:List V} (e:H a=some (.lst xs)):TyOf K H (.ref a) (.type "list")
 | frz {a:Addr} {o:Obj} {xs:List V} (e:H a=some (.frz o (.lst xs))):TyOf K H (.ref a) (.type "list")
 | tup {a:Addr} {xs:List V} (e:H a=some (.tup xs)):TyOf K H (.ref a) (.type "tuple")
 | dK {a:Addr} {kvs:List (Key × V)} (e:H a=some (.dK kvs)):TyOf K H (.ref a) (.type "dict")
 | dT {a:Addr} {kvs:List (List Key × V)} (e:H a=some (.dT kvs)):TyOf K H (.ref a) (.type "dict")
 | ins {a C dx:Addr} {fs:List (Str × V)} (e:H a=some (.ins C dx fs)) (cl:Cls K C) (ha:PySem.W.findIn K (.ref C) "__class__" = some (some (.builtin "object.__class__")))
   (hn:PySem.W.specialIn K (.builtin "object.__class__") "__get__" = some (some (.builtin "getset_descriptor.__get__"))) (htk:PySem.W.takesIn K (.builtin "object.__class__")=some true)
   (hm:PySem.W.mroIn K C (.type "object")=some true):TyOf K H (.ref a) (.ref C)
theorem zwr {x:V}{u t:Value}(I:Inv X pins σ H s) (rx:RelV x u) (ty:TyOf X.K H x t) (e:PySem.W.kitOne X.K t c=some b) (h:∀tk,Q (.bool b) { s with toks:=tk }) :
  wpAny (model X.prog X.w) A (call (.builtin "isinstance") [u,c]) Q E s:=by
 cases ty with
 | non=>cases (show u=Value.none from rx);exact PySem.W.kia_one PySem.W.kitx_none I.kIn True.intro e (fun z=>nomatch z) h
 | bl y=>cases (show u=Value.bool y from rx);exact PySem.W.kia_one PySem.W.kitx_bool I.kIn True.intro e (fun z=>nomatch z) h
 | int i=>obtain ⟨t,q⟩:=(show ∃t,u=Value.int i t from rx);cases q;exact PySem.W.kia_one PySem.W.kitx_int I.kIn True.intro e (fun z=>nomatch z) h
 | str y=>obtain ⟨t,q⟩:=(show ∃t,u=Value.str y t from rx);cases q;exact PySem.W.kia_one PySem.W.kitx_str I.kIn True.intro e (fun z=>nomatch z) h
 | flt y=>obtain ⟨t,q⟩:=(show ∃t,u=Value.float y t from rx);cases q;exact PySem.W.kia_one PySem.W.kitx_float I.kIn True.intro e (fun z=>nomatch z) h
 | @lst a xs ea =>
  cases (show u=Value.ref a from rx)
  obtain ⟨_,_,n,_,h1⟩:=(show ObjOk X.prog X.w H s.heap a (.lst xs) from I.hok a _ ea)
  exact PySem.W.kia_one PySem.W.kitx_list I.kIn ⟨_,h1,rfl⟩ e (fun z=>nomatch z) h
 | @frz a ob xs ea =>
  cases (show u=Value.ref a from rx)
  obtain ⟨_,_,_,n,_,h1⟩:=(show ObjOk X.prog X.w H s.heap a (.frz ob (.lst xs)) from I.hok a _ ea)
  exact PySem.W.kia_one PySem.W.kitx_list I.kIn ⟨_,h1,rfl⟩ e (fun z=>nomatch z) h
 | @tup a xs ea =>
  cases (show u=Value.ref a from rx)
  obtain ⟨_,_,_,p⟩:=(show ObjOk X.prog X.w H s.heap a (.tup xs) from I.hok a _ ea)
  obtain ⟨o,h1,h2,_⟩:=p
  exact PySem.W.kia_one PySem.W.kitx_tuple I.kIn ⟨o,h1,h2⟩ e (fun z=>nomatch z) h
 | @dK a kvs ea =>
  cases (show u=Value.ref a from rx)
  obtain ⟨_,_,vs,_,p⟩:=(show ObjOk X.prog X.w H s.heap a (.dK kvs) from I.hok a _ ea)
  obtain ⟨o,es,ep,h1,h2,_⟩:=p
  exact PySem.W.kia_one PySem.W.kitx_dict I.kIn ⟨o,h1,h2.1⟩ e (fun z=>nomatch z) h
 | @dT a kvs ea =>
  cases (show u=Value.ref a from rx)
  obtain ⟨_,_,xs,_,o,es,ep,h1,h2,_⟩:=(show ObjOk X.prog X.w H s.heap a (.dT kvs) from I.hok a _ ea)
  exact PySem.W.kia_one PySem.W.kitx_dict I.kIn ⟨o,h1,h2.1⟩ e (fun z=>nomatch z) h
 | @ins a C dx fs ea cl ha hn htk hm =>
  cases (show u=Value.ref a from rx)
  obtain ⟨mA,O,_⟩:=zwq I.hok ea
  obtain ⟨od,J,_⟩:=O.look
  exact PySem.W.kia_one (PySem.W.kitx_own (cl.get _) cl.hd ha hn htk hm) I.kIn J e (fun z=>nomatch z) h
end
end L2
namespace L2
open PySem PySem.Spec PyProof.Rows
structure Room (k:Nat) (A:Around):Prop where
 hd:A.handled=none
 dp:A.depth+3*k+5<recursionLimit
 un:A.units+16*k+200<cLine
 gd:A.guards=some []
theorem Room.mono {j k:Nat}{A:Around}(r:Room k A) (h:j<=k):Room j A:=⟨r.hd,by have:=r.dp;omega,by have:=r.un;omega,r.gd⟩
theorem Room.deeper {k:Nat}{A:Around}(r:Room (k+1) A) (env:Env):Room k (A.deeper env) :=
 ⟨r.hd,by have:=r.dp;show A.depth+1+3*k+5<_;omega,by have:=r.un;show A.units+3+16*k+200<_;omega,r.gd⟩
theorem Room.in1 {k:Nat}{A:Around}(r:Room (k+1) A):Room k A.in1 :=
 ⟨r.hd,by have:=r.dp;show A.depth+3*k+5<_;omega,by have:=r.un;show A.units+1+16*k+200<_;omega,r.gd⟩
theorem Room.depth {k:Nat}{A:Around}(r:Room k A):A.depth<recursionLimit:=by have:=r.dp;omega
theorem Room.units {k:Nat}{A:Around}(r:Room k A):A.units+64<cLine:=by have:=r.un;omega
noncomputable def zws:TA:=fun _ H Q=>Q [] H
noncomputable def zwt (ta:TE) (tr:TA):TA:=fun σ H Q=>ta σ H fun x H1=>tr σ H1 fun xs H2=>Q (x :: xs) H2
section
variable {X:Cx}{e:Expr}{es:List Expr}{te:TE}{t:TA}{pos:Pos}
theorem zoa:PA X [] zws:=fun _ _ _ _ H Q I h=>Calls.spliced_nil ⟨[],H,I,.nil,h⟩
theorem zkk (ha:PE X e te) (hr:PA X es t) (hs:starEach (e :: es) X.env=(false,eval e X.env) :: starEach es X.env:=by rfl):PA X (e :: es) (zwt te t):=by
 intro pos pins s σ H Q I h
 rw [hs]
 show wpAny _ _ (spliced ((false,eval e X.env) :: backTo pos (starEach es X.env))) _ _ s
 refine Calls.spliced_cons (thn (ha pins s σ H _ I h) fun u s1 ⟨x,H1,I1,r1,q1⟩=>?_)
 exact thn (hr pos pins s1 σ H1 _ I1 q1) fun us s2 ⟨xs,H2,I2,r2,q2⟩=>⟨x :: xs,H2,I2,.cons r1 r2,q2⟩
noncomputable def zwu (t:TA):TE:=fun σ H Q=>t σ H fun xs H1=>xs.length<=sizeLine/\∀p,H1 p=none->Q (.ref p) (upd H1 p (.tup xs))
noncomputable def zwv (t:TA):TE:=fun σ H Q=>t σ H fun xs H1=>xs.length<=sizeLine/\∀p,H1 p=none->Q (.ref p) (upd H1 p (.lst xs))
theorem zww {x1}(h:PA X es t):PE X (.Tuple es x1 pos) (zwu t):=by
 intro pins s σ H Q I hq
 refine wpAny_Tuple_spliced (thn (h pos pins s σ H _ I hq) fun us s1 ⟨xs,H1,I1,r,z,q⟩=>⟨by rw [←r.length];exact z,?_⟩)
 have hf:H1 s1.heap.objs.size=none:=I1.hok.fresh (Nat.le_refl _)
 refine ⟨.ref s1.heap.objs.size,upd H1 s1.heap.objs.size (.tup xs),I1.laid (t':=s1.toks) (fun b u e=>Heap.get?_push_of_some _ e) (Nat.le_refl _) ?_,rfl,q _ hf⟩
 exact ⟨z,us,r,⟨_,Heap.get?_push_size _ rfl,rfl,_,rfl⟩⟩
theorem zwx (h:PA X es t):PE X (.List es pos) (zwv t):=by
 intro pins s σ H Q I hq
 refine wpAny_List_spliced (thn (h pos pins s σ H _ I hq) fun us s1 ⟨xs,H1,I1,r,z,q⟩=>⟨by rw [←r.length];exact z,?_⟩)
 have hf:H1 s1.heap.objs.size=none:=I1.hok.fresh (Nat.le_refl _)
 refine ⟨.ref s1.heap.objs.size,upd H1 s1.heap.objs.size (.lst xs),I1.laid (t':=s1.toks) (fun b u e=>Heap.get?_push_of_some _ e) (Nat.le_refl _) ?_,rfl,q _ hf⟩
 exact ⟨z,us,0,r,Heap.get?_push_size _ rfl⟩
end
noncomputable abbrev Sp:=List V->Hp->VK->XK->Prop
noncomputable abbrev CXT:=List Env->Hp->Shared->XK->Value->Shared->Prop
structure Env0 (P:Program) (w:World) (K:PySem.W.Frag) (mg:Str->Option Value) (base:Heap) (A:Around) (outer:List Env) (s:Shared) (H:Hp):Prop where
 frames:A.frames=some outer
 mod:Mod K mg base
 bs:∀b o,base.get? b=some o->s.heap.get? b=some o/\H b=none
 bsz:base.objs.size<=s.heap.objs.size
 funs:s.heap.FunFrames base outer
 frf:∀b∈frs outer,H b=none
 hok:HOk P w H s.heap
 bare:AllBare s.gens
noncomputable def CE (outer:List Env) (P:Program) (w:World) (H:Hp) (s:Shared) (Q:VK) (u:Value) (s':Shared):Prop :=
 ∃v H',s'.os=s.os/\AllBare s'.gens/\Un (frs outer) [] H H' s.heap s'.heap/\HOk P w H' s'.heap/\RelV v u/\Q v H'
noncomputable def CR (CX:CXT) (outer:List Env) (P:Program) (w:World) (H:Hp) (s:Shared) (Q:VK) (E:XK) (r:Result) (s':Shared):Prop :=
 match r with
 | .ok (.ret u)=>CE outer P w H s Q u s'
 | .ok _=>False
 | .error e=>CX outer H s E e s'
structure FnOk (P:Program) (w:World) (K:PySem.W.Frag) (mg:Str->Option Value) (base:Heap) (CX:CXT) (k:Nat) (f:Addr) (fd:FuncData) (ps:List Str) (sp:Sp):Prop where
 len:∀vs H Q E,sp vs H Q E->vs.length=ps.length
 run:∀(A:Around) (outer:List Env) (s:Shared) (H:Hp) (args:Args) (us:List Value) (vs:List V) (Q:VK) (E:XK),Room k A->Env0 P w K mg base A outer s H->BindsTo s fd args (ps.zip us)->Vals vs us->sp vs H Q E ->
  codeAny (model P w) A (.call (.ref f) args) (CR CX outer P w H s Q E) s
theorem Env0.in1 {P:Program}{w:World}{K:PySem.W.Frag}{mg:Str->Option Value}{base:Heap}{A:Around}{outer:List Env}{s:Shared}{H:Hp}(e:Env0 P w K mg base A outer s H) :
  Env0 P w K mg base A.in1 outer s H:=⟨e.frames,e.mod,e.bs,e.bsz,e.funs,e.frf,e.hok,e.bare⟩
section
variable {X:Cx}{pins:List (Addr × Obj)}{σ:St}{H:Hp}{s s':Shared}
theorem Inv.env0 (I:Inv X pins σ H s):Env0 X.prog X.w X.K X.mg X.base X.A X.stack s H :=
 ⟨I.ok.frames,I.ok.mod,I.bs,Nat.le_trans I.ok.bsz I.sz,I.stack,I.stkFree,I.hok,I.bare⟩
theorem Inv.after {Q:VK}{u:Value}(I:Inv X pins σ H s) (h:CE X.stack X.prog X.w H s Q u s'):EP X pins σ Q u s':=by
 obtain ⟨v,H',os,bare,un,hok,r,q⟩:=h
 obtain ⟨hh,g,d,t,os'⟩:=s'
 obtain rfl:os' = s.os:=os
 exact ⟨v,H',I.call (h':=hh) (g':=g) (d':=d) (t':=t) (ch:=[]) un hok bare (fun b z=>absurd z (by simp)),r,q⟩
end
noncomputable def zob (sp:Sp) (dvs:List V) (E:XK) (t:TA):TE:=fun σ H Q=>t σ H fun vs H1=>sp (vs++dvs) H1 Q E
noncomputable def Binds (K:PySem.W.Frag) (fd:FuncData) (ps:List Str) (ds:List Value):Prop :=
 ∀(s:Shared) (us:List Value),K.In s.heap->(us++ds).length=ps.length->BindsTo s fd ⟨us,[]⟩ (ps.zip (us++ds))
theorem Binds.all {K:PySem.W.Frag}{fd:FuncData}{ps:List Str}(h:∀us:List Value,us.length=ps.length->bindArgs fd ⟨us,[]⟩=pure (ps.zip us)):Binds K fd ps []:=fun s us _ hl=>by
 rw [List.append_nil] at hl ⊢
 exact .of_eq (h us hl)
noncomputable def zkl (CX:CXT) (X:Cx) (E:XK):Prop:=∀(pins:List (Addr × Obj)) (σ:St) (H:Hp) (s:Shared) (e:Value) (s':Shared),Inv X pins σ H s->CX X.stack H s E e s'->X.xe e s'
section
variable {X:Cx}{CX:CXT}{k:Nat}{f C:Addr}{fd:FuncData}{ps:List Str}{sp:Sp}{dvs:List V}{ds:List Value}{E:XK}{x m:Str}{p pos apos:Pos}{e o:Expr}{es:List Expr}{ta:TE}{t:TA}
theorem zoc {pins:List (Addr × Obj)}{σ:St}{H:Hp}{s:Shared}{Q:VK}{us:List Value}{vs:List V}(F:FnOk X.prog X.w X.K X.mg X.base CX k f fd ps sp) (hr:Room k X.A) (hb:Binds X.K fd ps ds) (hd:Vals dvs ds) (hx:zkl CX X E)
  (I:Inv X pins σ H s) (r:Vals vs us) (h:sp (vs++dvs) H Q E):wpAny (model X.prog X.w) X.A (call (.ref f) us) (EP X pins σ Q) X.xe s:=by
 have r2:Vals (vs++dvs) (us++ds):=r.append hd
 have hl:(us++ds).length=ps.length:=by rw [←r2.length];exact F.len _ _ _ _ h
 refine wpAny_call (codeAny_mono (F.run X.A X.stack s H ⟨us,[]⟩ (us++ds) (vs++dvs) Q E hr I.env0 (hb s us I.kIn hl) r2 h) fun r s' hq=>?_)
 cases r with
 | error e=>exact hx pins σ H s e s' I hq
 | ok fl =>
  cases fl with
  | ret u=>exact I.after hq
  | next=>exact False.elim hq
  | brk=>exact False.elim hq
  | cont=>exact False.elim hq
theorem zwy (F:FnOk X.prog X.w X.K X.mg X.base CX k f fd ps sp) (hr:Room k X.A) (hg:Gl X x) (hm:X.mg x=some (.ref f)) (hk:PySem.W.keepIn X.K (.ref f)=true) (hb:Binds X.K fd ps ds) (hd:Vals dvs ds) (hx:zkl CX X E)
  (ha:PA X (e :: es) t) (hdb:(x == ("__debug__":Str))=false:=by decide) (he:starEach (e :: es) X.env=(false,eval e X.env) :: starEach es X.env:=by rfl) (hpl:(backTo pos (starEach es X.env)).any (·.1)=false:=by rfl) :
  PE X (.Call (.Name x p) (e :: es) [] pos) (zob sp dvs E t):=by
 intro pins s σ H Q I h
 refine wpAny_Call_Name_kw (znv I hg hm ?_ hdb)
 refine PySem.W.callWith_K (h₀:=X.base) I.ok.mod.kin hk (thn (ha pos pins s σ H _ I h) fun us s1 ⟨vs,H1,I1,r,q⟩=>⟨I1.kIn,?_⟩) he hpl
 exact zoc F hr hb hd hx I1 r q
end
section
variable {X:Cx}{CX:CXT}{k:Nat}{f C:Addr}{fd:FuncData}{ps ks:List Str}{sp:Sp}{E:XK}{x m:Str}{p pos apos kpos:Pos}{e o:Expr}{es:List Expr}{kws:List Keyword}{te ta:TE}{t tk:TA}{nm:Option Str}
variable {g:List Value->List Value->List Value}{gV:List V->List V->List V}
end
structure FnScope (N P:List Str) (sc:Scope):Prop where
 kind:sc.kind=.function
 co:sc.isCoroutine=false
 gen:sc.isGenerator=false
 nd:N.Nodup
 pre:N.take P.length=P
 par:∀x∈P,sc.names.lookup x=some .local∨sc.names.lookup x=some .cell
 nofree:∀y∈sc.names,y.2≠.free
theorem zod {kindOf:Str->Option NameKind}{x:Str}:∀{binds:List (Str × Value)}{m:Str->Option Value},(∀v,(x,v) ∉ binds)->bindL kindOf binds m x=m x
 | [],_,_=>rfl
 | (n,v) :: r,m,h=>by
  unfold bindL
  rw [zod fun w hw=>h w (List.mem_cons_of_mem _ hw)]
  split
  ·have:x≠n:=by rintro rfl;exact h v List.mem_cons_self
   simp [this]
  ·rfl
theorem zoe {kindOf:Str->Option NameKind}{x:Str}:∀{binds:List (Str × Value)}{m:Str->Option Value},(∀v,(x,v) ∉ binds)->bindC kindOf binds m x=m x
 | [],_,_=>rfl
 | (n,v) :: r,m,h=>by
  unfold bindC
  rw [zoe fun w hw=>h w (List.mem_cons_of_mem _ hw)]
  split
  ·rfl
  ·have:x≠n:=by rintro rfl;exact h v List.mem_cons_self
   simp [this]
theorem zof {kindOf:Str->Option NameKind}{x:Str}{v:Value}:∀{P:List Str}{vs:List Value}{i:Nat}{m:Str->Option Value},P.Nodup->P[i]? = some x->vs[i]? = some v->kindOf x=some .local ->
  bindL kindOf (P.zip vs) m x=some v
 | [],_,_,_,_,h,_,_=>by simp at h
 | _ :: _,[],_,_,_,_,h,_=>by simp at h
 | p :: P,w :: vs,0,m,nd,h1,h2,hk=>by
  simp at h1 h2;subst h1;subst h2
  show bindL kindOf ((p,w) :: P.zip vs) m p=_
  unfold bindL
  rw [zod fun v hv=>(List.nodup_cons.mp nd).1 (List.of_mem_zip hv).1,if_pos hk]
  simp
 | p :: P,w :: vs,i+1,m,nd,h1,h2,hk=>by
  show bindL kindOf ((p,w) :: P.zip vs) m x=_
  unfold bindL
  exact zof (i:=i) (List.nodup_cons.mp nd).2 (by simpa using h1) (by simpa using h2) hk
theorem zog {kindOf:Str->Option NameKind}{x:Str}{v:Value}:∀{P:List Str}{vs:List Value}{i:Nat}{m:Str->Option Value},P.Nodup->P[i]? = some x->vs[i]? = some v->kindOf x≠some .local ->
  bindC kindOf (P.zip vs) m x=some v
 | [],_,_,_,_,h,_,_=>by simp at h
 | _ :: _,[],_,_,_,_,h,_=>by simp at h
 | p :: P,w :: vs,0,m,nd,h1,h2,hk=>by
  simp at h1 h2;subst h1;subst h2
  show bindC kindOf ((p,w) :: P.zip vs) m p=_
  unfold bindC
  rw [zoe fun v hv=>(List.nodup_cons.mp nd).1 (List.of_mem_zip hv).1,if_neg hk]
  simp
 | p :: P,w :: vs,i+1,m,nd,h1,h2,hk=>by
  show bindC kindOf ((p,w) :: P.zip vs) m x=_
  unfold bindC
  exact zog (i:=i) (List.nodup_cons.mp nd).2 (by simpa using h1) (by simpa using h2) hk
noncomputable def start (N:List Str) (vs:List V):St:=vs.map some++List.replicate (N.length-vs.length) none
noncomputable def ze9 (CX:CXT) (P:Program) (w:World) (K:PySem.W.Frag) (mg:Str->Option Value) (base:Heap) (N:List Str) (qual:Str) (scope:Scope) (f:Addr) (cd:Value) (A:Around) (outer:List Env) (s:Shared) (H:Hp) (E:XK):Cx where
 prog:=P
 w:=w
 K:=K
 mg:=mg
 base:=base
 A:=A.deeper (envOfC qual scope s.heap.objs.size f cd)
 N:=N
 s₀:=s
 H₀:=H
 env:=envOfC qual scope s.heap.objs.size f cd
 outer:=outer
 stack:=envOfC qual scope s.heap.objs.size f cd :: outer
 ex:=[]
 calm:=true
 fn:=fun _=>true
 pn:=[]
 xe:=fun e s'=>wpAny (model P w) (A.deeper (envOfC qual scope s.heap.objs.size f cd)) (leaving (envOfC qual scope s.heap.objs.size f cd) e) (fun _ s''=>CX outer H s E e s'') (fun e' s''=>CX outer H s E e' s'') s'
theorem zoh {sc:Scope}{n:Nat}{x:Str}(h:sc.names.lookup x=some .cell):∃c,(cellsFrom n sc.names []).lookup x=some c:=by
 have q:=PySem.W.cellsFrom_some sc.names n [] (.inl h)
 exact Option.isSome_iff_exists.mp q
theorem zwz {CX:CXT}{P:Program}{w:World}{K:PySem.W.Frag}{mg:Str->Option Value}{base:Heap}{N ps:List Str}{qual:Str}{scope:Scope}{f:Addr}{cd:Value}{A:Around}{outer:List Env}{s s1:Shared}{H:Hp}{E:XK}{us:List Value}{vs:List V}
  (S:FnScope N ps scope) (hd:A.handled=none) (e0:Env0 P w K mg base A outer s H) (hl:vs.length=ps.length) (r:Vals vs us)
  (x:InCallC s s.heap.objs.size (bindL (envOfC qual scope s.heap.objs.size f cd).kindOf (ps.zip us) fun _=>none) (cellsFrom (s.heap.objs.size+1) scope.names []) (bindC (envOfC qual scope s.heap.objs.size f cd).kindOf (ps.zip us) fun _=>none) s1) :
  Inv (ze9 CX P w K mg base N qual scope f cd A outer s H E) [] (start N vs) H s1:=by
 have hpl:ps.length<=N.length:=by have:=congrArg List.length S.pre;rw [List.length_take] at this;omega
 obtain ⟨h1,tk,rfl,hk⟩:=x.done
 have noA:∀b:Addr,b ∉ (ze9 CX P w K mg base N qual scope f cd A outer s H E).ex:=fun b z=>absurd (show b∈([]:List Addr) from z) (by simp)
 refine ⟨⟨e0.mod,S.kind,rfl,rfl,Nat.le_refl _,fun y z c h1 h2=>?_,fun y hy=>?_,fun y c _ h=>?_,fun _=>hd,Around.frames_deeper e0.frames,.inr ⟨rfl,rfl⟩,fun b z=>absurd z (noA b),e0.bs,e0.bsz,fun b _ _=>noA b,fun b z=>absurd z (noA b),e0.funs,e0.frf⟩,
  rfl,e0.bare,Un.kept hk,⟨_,x.toInCall.ns,fun i y v h1 h2 h3=>?_⟩,fun y c h=>⟨_,x.cell y c h⟩,e0.hok.fresh (Nat.le_refl _),fun y c h=>?_,fun p hp=>absurd (show p∈([]:List (Addr × Obj)) from hp) (by simp),e0.hok.kept hk,?_⟩
 ·exact name_of_addr x.apart (PySem.mem_of_lookup h1) (PySem.mem_of_lookup h2)
 ·have hy:scope.names.lookup y=some .cell∨scope.names.lookup y=some .free:=hy
  rcases hy with hy|hy
  ·exact zoh hy
  ·exact absurd rfl (S.nofree _ (PySem.mem_of_lookup hy))
 ·exact Nat.le_of_lt (x.above y c (PySem.mem_of_lookup h))
 ·have hi:i<vs.length:=by
   unfold start at h2
   by_cases hi:i<vs.length
   ·exact hi
   ·rw [List.getElem?_append_right (by simpa using hi)] at h2
    rw [List.getElem?_replicate] at h2
    split at h2 <;> cases h2
  have ha:vs[i]? = some v:=by
   unfold start at h2
   rw [List.getElem?_append_left (by simpa using hi),List.getElem?_map] at h2
   cases e:vs[i]? with
   | none=>rw [e] at h2;cases h2
   | some a=>rw [e] at h2;cases h2;rfl
  obtain ⟨u,hu,rv⟩:=r.get ha
  have hp:ps[i]? = some y:=by
   rw [←S.pre,List.getElem?_take_of_lt (by omega)];exact h1
  have ndP:ps.Nodup:=by rw [←S.pre];exact S.nd.sublist (List.take_sublist _ _)
  refine ⟨u,rv,?_⟩
  rcases S.par y (List.mem_of_getElem? hp) with k|k
  ·exact .inl ⟨k,zof ndP hp hu k⟩
  ·obtain ⟨c,e⟩:=zoh (n:=s.heap.objs.size+1) k
   refine .inr ⟨.inl k,c,e,?_⟩
   have q:=x.cell y c e
   rw [zog ndP hp hu (by show scope.names.lookup y≠_;rw [k];decide)] at q
   exact q
 ·exact e0.hok.fresh (Nat.le_of_lt (x.above y c (PySem.mem_of_lookup h)))
 ·unfold start
  show _=N.length
  rw [List.length_append,List.length_map,List.length_replicate]
  omega
theorem zw0 {CX:CXT}{P:Program}{w:World}{K:PySem.W.Frag}{mg:Str->Option Value}{base:Heap}{k:Nat}{f:Addr}{name qual:Str}{params:Arguments}{body:List Stmt}{scope:Scope}{dV kV doc pm cdv ct oc:Value}{an od:Option Addr}
  {osl:Array (Option Value)} {N ps:List Str} {sp:Sp} (lk:K.lookup f=some ⟨oc,od,.func (PySem.W.fnOf name qual params body scope dV kV doc pm an cdv ct),osl⟩) (hcd:PySem.W.codeIn K cdv qual=true) (S:FnScope N ps scope)
  (len:∀vs H Q E,sp vs H Q E->vs.length=ps.length)
  (hbody:∀(A:Around) (outer:List Env) (s:Shared) (H:Hp) (vs:List V) (Q:VK) (E:XK),Room k (A.deeper (envOfC qual scope s.heap.objs.size f cdv))->sp vs H Q E ->
   ∃t,PSs (ze9 CX P w K mg base N qual scope f cdv A outer s H E) body t/\t { nx:=fun _ H'=>Q .non H',rt:=Q } (start N vs) H) :
  FnOk P w K mg base CX (k+1) f (PySem.W.fnOf name qual params body scope dV kV doc pm an cdv ct) ps sp:=by
 refine ⟨len,fun A outer s H args us vs Q E hr e0 hb r hsp=>?_⟩
 have hl:=len _ _ _ _ hsp
 have KX:K.In s.heap:=e0.mod.kin.keeps fun b o e=>(e0.bs b o e).1
 have lim:s.heap.NoLimit:=e0.mod.nolimit.keeps fun b o e=>(e0.bs b o e).1
 have hkind:∀y∈ps.zip us,scope.names.lookup y.1=some .local∨(scope.names.lookup y.1=some .cell/\((cellsFrom (s.heap.objs.size+1) scope.names []).lookup y.1).isSome=true):=fun hx2_ hy=>by
  obtain ⟨n,v⟩:=hx2_
  rcases S.par n (List.of_mem_zip hy).1 with q|q
  ·exact .inl q
  ·exact .inr ⟨q,PySem.W.cellsFrom_some _ _ _ (.inl q)⟩
 refine codeAny_call_function hr.depth (KX _ _ lk) rfl S.co S.gen rfl (PySem.W.codeRec_of KX hcd) (hb _ _ _ _ ?_)
 refine wpAny_newFunctionEnv_cells S.kind hkind fun env he s1 x=>?_
 subst he
 refine ⟨lim.keeps x.toInCall.keep,codeAny_func ?_⟩
 obtain ⟨t,ht,hq⟩:=hbody A outer s H vs Q E (hr.deeper _) hsp
 have I:Inv (ze9 CX P w K mg base N qual scope f cdv A outer s H E) [] (start N vs) H s1:=zwz S hr.hd e0 hl r x
 refine wpAny_mono (ht [] s1 (start N vs) H _ I hq) (fun fl s' hs=>?_) fun e s' hs=>hs
 have fin:∀{σ':St} {H':Hp} {v:V} {u:Value},Inv (ze9 CX P w K mg base N qual scope f cdv A outer s H E) [] σ' H' s'->RelV v u->Q v H'->CE outer P w H s Q u s' :=
  fun {σ' H' v u} J rv q=>⟨v,H',J.os,J.bare,J.base,J.hok,rv,q⟩
 cases fl with
 | ret u =>
  obtain ⟨v,σ',H',J,rv,q⟩:=hs
  exact fin J rv q
 | next =>
  obtain ⟨σ',H',J,q⟩:=hs
  exact fin (v:=V.non) (u:=Value.none) J rfl q
 | brk =>
  obtain ⟨_,_,_,q⟩:=hs
  exact False.elim q
 | cont =>
  obtain ⟨_,_,_,q⟩:=hs
  exact False.elim q
end L2
namespace L2
open PySem PySem.Spec PyProof.Rows
section
variable {X:Cx}{x:Str}{p pos:Pos}{e:Expr}{es:List Expr}{t:TA}{id T:String}{r:List V->Hp->VK->Prop}
noncomputable def tCB (r:List V->Hp->VK->Prop) (t:TA):TE:=fun σ H Q=>t σ H fun vs H1=>r vs H1 Q
theorem zoi (hc:CallR X (.builtin id) r) (hg:Gl X x) (hm:X.mg x=none) (hv:bootBuiltins x=some (.builtin id)) (ha:PA X (e :: es) t) (hn:x≠"__name__":=by decide) (hdb:(x == ("__debug__":Str))=false:=by decide)
  (he:starEach (e :: es) X.env=(false,eval e X.env) :: starEach es X.env:=by rfl) (hpl:(backTo pos (starEach es X.env)).any (·.1)=false:=by rfl):PE X (.Call (.Name x p) (e :: es) [] pos) (tCB r t):=by
 intro pins s σ H Q I h
 refine wpAny_Call_Name_kw (zg6 I hg hm hv ?_ hn hdb)
 exact PyProof.Rows.callWith_builtin1 (thn (ha pos pins s σ H _ I h) fun us s1 ⟨vs,H1,I1,r1,q1⟩=>hc pins s1 σ H1 vs us Q I1 r1 q1) he hpl
theorem zw1 (hc:CallR X (.type T) r) (hg:Gl X x) (hm:X.mg x=none) (hv:bootBuiltins x=some (.type T)) (ha:PA X (e :: es) t) (hn:x≠"__name__":=by decide) (hdb:(x == ("__debug__":Str))=false:=by decide)
  (he:starEach (e :: es) X.env=(false,eval e X.env) :: starEach es X.env:=by rfl) (hpl:(backTo pos (starEach es X.env)).any (·.1)=false:=by rfl):PE X (.Call (.Name x p) (e :: es) [] pos) (tCB r t):=by
 intro pins s σ H Q I h
 refine wpAny_Call_Name_kw (zg6 I hg hm hv ?_ hn hdb)
 exact PyProof.Rows.callWith_type1 (thn (ha pos pins s σ H _ I h) fun us s1 ⟨vs,H1,I1,r1,q1⟩=>hc pins s1 σ H1 vs us Q I1 r1 q1) he hpl
end
end L2
namespace HT
open PySem PyProof.Rows
section
open PySem.SeqAt
open PySem.AutoSeq1 (wpAny_loadPart')
open PySem.MeetsSeq PySem.MeetsSeq2 PySem.MeetsSeq3
end
section
variable {prog:Program}{w:World}{A:Around}{E:Value->Shared->Prop}{s:Shared}
theorem cat_tup {t b:Addr}{vs ws:List Value}{Q:Value->Shared->Prop}(ht:IsTup s.heap t vs.toArray) (hb:IsTup s.heap b ws.toArray) (hv:vs≠[])
  (h1:ws=[]->Q (.ref t) s) (h2:ws≠[]->Q (.ref s.heap.objs.size) { s with heap:=s.heap.push { cls:=.type "tuple",data:=.seq (vs++ws).toArray } })
  (hsz:vs.length+ws.length<=sizeLine):wpAny (model prog w) A (binaryOp .Add (.ref t) (.ref b)) Q E s:=by
 obtain ⟨⟨cls,dd,data,sl⟩,ho,hc,n,hd⟩:=id ht
 obtain ⟨⟨cls2,dd2,data2,sl2⟩,ho2,hc2,n2,hd2⟩:=id hb
 simp only at hc hd hc2 hd2
 subst hc hd hc2 hd2
 have e:vs.toArray++ws.toArray=(vs++ws).toArray:=by simp
 by_cases hw:ws=[]
 ·exact concat_meets ⟨_,ho,rfl⟩ ⟨_,ho2,rfl⟩ noFill_tuple_add seq_tuple_add PySem.F.slot_tuple_add PySem.F.entry_tuple_add (PySem.F.args_tuple_add_2 _ _)
   (tuple_addW1 t b vs.toArray ws.toArray n n2 dd dd2 sl sl2 (by simpa using hv) (by simp [hw])) ⟨ho,ho2,h1 hw⟩
 ·refine concat_meets ⟨_,ho,rfl⟩ ⟨_,ho2,rfl⟩ noFill_tuple_add seq_tuple_add PySem.F.slot_tuple_add PySem.F.entry_tuple_add (PySem.F.args_tuple_add_2 _ _)
   (tuple_addW2 t b vs.toArray ws.toArray n n2 dd dd2 sl sl2 (by simpa using hv) (by simpa using hw) (by rw [List.size_toArray,List.size_toArray];exact hsz)) ⟨ho,ho2,?_⟩
  rw [e]
  exact h2 hw
end
end HT
namespace L2
open PySem PySem.Spec PyProof.Rows
noncomputable abbrev TO:=St->Hp->(Option Int->Hp->Prop)->Prop
section
variable {X:Cx}{e:Expr}{te:TE}{lo hi:Option Expr}{tl th:TO}{pos p2:Pos}
noncomputable def zkm (K:PySem.W.Frag):R2:=fun x y H Q=>∃a b xs ys,x=.ref a/\y=.ref b/\SqT K H a xs/\SqT K H b ys/\xs≠[]/\xs.length+ys.length<=sizeLine /\
 (ys=[]->Q (.ref a) H)/\(ys≠[]->∀p,H p=none->Q (.ref p) (upd H p (.tup (xs++ys))))
theorem Vals.nil_iff {xs:List V}{us:List Value}(r:Vals xs us):us=[]↔xs=[]:=by
 cases r with
 | nil=>simp
 | cons _ _=>simp
theorem op_catT:OpR X (binaryOp .Add) (zkm X.K):=by
 intro pins s σ H x y v u Q I rx ry h
 obtain ⟨a,b,xs,ys,rfl,rfl,ha,hb,hx,hz,q1,q2⟩:=h
 cases rx
 cases ry
 obtain ⟨its,r1,p1,_⟩:=I.tuple ha
 obtain ⟨its2,r2,p2,_⟩:=I.tuple hb
 refine HT.cat_tup p1 p2 (fun z=>hx (r1.nil_iff.mp z)) (fun z=>⟨.ref a,H,I,rfl,q1 (r2.nil_iff.mp z)⟩) (fun z=>?_) (by rw [←r1.length,←r2.length];exact hz)
 refine ⟨.ref s.heap.objs.size,_,I.laid (t':=s.toks) (o:=.tup (xs++ys)) (fun b ob q=>Heap.get?_push_of_some _ q) (Nat.le_refl _) ?_,rfl,q2 (fun w=>z (r2.nil_iff.mpr w)) _ (I.hok.fresh (Nat.le_refl _))⟩
 exact ⟨by rw [List.length_append];exact hz,_,r1.append r2,IsTup.new _ _⟩
end
end L2
namespace L2
open PySem PySem.Spec PyProof.Rows
noncomputable def ixN (n:Nat) (i:Int):Option Nat:=if 0<=i then (if i<n then some i.toNat else none) else if -(n:Int)<=i then some (i+n).toNat else none
noncomputable def atI {α:Type}(xs:List α) (i:Int):Option α:=(ixN xs.length i).bind fun j=>xs[j]?
theorem zoj {n:Nat}{i:Int}{j:Nat}(h:ixN n i=some j):seqIndex? i n=some j/\j<n/\-(n:Int)<=i/\i<n:=by
 unfold ixN at h
 by_cases h0:0<=i
 ·rw [if_pos h0] at h
  by_cases h1:i<n
  ·rw [if_pos h1] at h
   have e:i.toNat=j:=Option.some.inj h
   exact ⟨by rw [seqIndex_of h0 h1,e],by omega,by omega,h1⟩
  ·rw [if_neg h1] at h;cases h
 ·rw [if_neg h0] at h
  by_cases h1:-(n:Int)<=i
  ·rw [if_pos h1] at h
   have e:(i+n).toNat=j:=Option.some.inj h
   exact ⟨by rw [seqIndex_neg (by omega) h1,e],by omega,h1,by omega⟩
  ·rw [if_neg h1] at h;cases h
theorem atI_get {α:Type}{xs:List α}{i:Int}{v:α}(h:atI xs i=some v):∃j,seqIndex? i xs.length=some j/\xs[j]? = some v/\j<xs.length/\-(xs.length:Int)<=i/\i<xs.length:=by
 unfold atI at h
 cases e:ixN xs.length i with
 | none=>rw [e] at h;cases h
 | some j =>
  rw [e] at h
  obtain ⟨h1,h2,h3,h4⟩:=zoj e
  exact ⟨j,h1,h,h2,h3,h4⟩
noncomputable def zok (b:Expr):Prop:=∀o i,subscripted b false o i=operate [o,i] (getItem o i)
noncomputable def IxR (X:Cx) (r:R2):Prop :=
 ∀(value slice:Expr) (pins:List (Addr × Obj)) (s:Shared) (σ:St) (H:Hp) (x y:V) (v u:Value) (Q:VK),Inv X pins σ H s->RelV x v->RelV y u->r x y H Q ->
  subscripted slice false v u=operate [v,u] (getItem v u)->wpAny (model X.prog X.w) X.A (subscriptTail value slice v u) (EP X pins σ Q) X.xe s
noncomputable def MtR (X:Cx) (id:String) (r:V->List V->Hp->VK->Prop):Prop :=
 ∀(pins:List (Addr × Obj)) (s:Shared) (σ:St) (H:Hp) (x:V) (xs:List V) (v:Value) (us:List Value) (Q:VK),Inv X pins σ H s->RelV x v->Vals xs us->r x xs H Q ->
  wpAny (model X.prog X.w) X.A (call (.builtin id) (v :: us)) (EP X pins σ Q) X.xe s
section
variable {X:Cx}{a b:Expr}{ta tb:TE}{pos:Pos}
theorem IxR.or {r r':R2}(h:IxR X r) (h':IxR X r'):IxR X (fun x y H Q=>r x y H Q∨r' x y H Q):=by
 intro value slice pins s σ H x y v u Q I rx ry q hs
 rcases q with q|q
 ·exact h value slice pins s σ H x y v u Q I rx ry q hs
 ·exact h' value slice pins s σ H x y v u Q I rx ry q hs
theorem zw2 {r:R2}(hr:IxR X r) (ha:PE X a ta) (hb:PE X b tb) (hs:zok b):PE X (.Subscript a b pos) (tOp r ta tb):=by
 intro pins s σ H Q I h
 exact Subscript_ (zkh ha hb I h fun v u s2 x y H2 I2 rx ry q=>hr a b pins s2 σ H2 x y v u Q I2 rx ry q (hs _ _))
noncomputable def zol (K:PySem.W.Frag):R2:=fun x y H Q=>∃p xs i v,x=.ref p/\y=.int i/\SqL K H p xs/\atI xs i=some v/\Q v H
noncomputable def zom (K:PySem.W.Frag):R2:=fun x y H Q=>∃p xs i v,x=.ref p/\y=.int i/\SqT K H p xs/\atI xs i=some v/\Q v H
noncomputable def zkn:R2:=fun x y H Q=>∃z i c,x=.str z/\y=.int i/\z.length<=sizeLine/\atI z.cps.toList i=some c/\Q (.str ⟨#[c]⟩) H
theorem ix_list:IxR X (zol X.K):=by
 intro value slice pins s σ H x y v u Q I rx ry h hs
 obtain ⟨p,xs,i,z,rfl,rfl,hq,he,q⟩:=h
 cases rx
 obtain ⟨t,rfl⟩:=ry
 obtain ⟨its,r,pl,hz⟩:=I.list hq
 obtain ⟨j,h1,h2,h3,h4,h5⟩:=atI_get he
 obtain ⟨w,ew,rw'⟩:=r.get h2
 have hl:=r.length
 have hn:=ze8
 have fin:EP X pins σ Q w s:=⟨z,H,I,rw',q⟩
 by_cases h0:0<=i
 ·have hj:i.toNat=j:=by
   rw [seqIndex_of h0 h5] at h1
   exact Option.some.inj h1
  exact item_listR pl.isList h0 (by omega) (by rw [hj];simpa using ew) fin hs
 ·have hj:(i+(its.toArray.size:Int)).toNat=j:=by
   rw [seqIndex_neg (by omega) h4] at h1
   rw [List.size_toArray,←hl]
   exact Option.some.inj h1
  exact subscriptTail_builtinR (x:=w) pl.isList.typeIs slot_list_getitem.lookup
   (wpAny_getItem_list_neg (Q:=fun r s'=>r=w/\EP X pins σ Q r s') pl.isList (by omega) (by rw [List.size_toArray] <;> omega) (by omega) (by rw [hj];simpa using ew) ⟨rfl,fin⟩) hs
theorem ix_tup:IxR X (zom X.K):=by
 intro value slice pins s σ H x y v u Q I rx ry h hs
 obtain ⟨p,xs,i,z,rfl,rfl,hq,he,q⟩:=h
 cases rx
 obtain ⟨t,rfl⟩:=ry
 obtain ⟨its,r,pl,hz⟩:=I.tuple hq
 obtain ⟨j,h1,h2,h3,h4,h5⟩:=atI_get he
 obtain ⟨w,ew,rw'⟩:=r.get h2
 have hl:=r.length
 have hn:=ze8
 have fin:EP X pins σ Q w s:=⟨z,H,I,rw',q⟩
 exact subscriptTail_builtinR (x:=w) pl.typeIs slot_tuple_getitem.lookup
  (getItem_tuple (j:=j) (Q:=fun r s'=>r=w/\EP X pins σ Q r s') pl (by omega) (by omega) (by rw [List.size_toArray,←hl];exact h1) (by simpa using ew) ⟨rfl,fin⟩) hs
theorem zw3:IxR X zkn:=by
 intro value slice pins s σ H x y v u Q I rx ry h hs
 obtain ⟨z,i,c,rfl,rfl,hz,he,q⟩:=h
 obtain ⟨t,rfl⟩:=rx
 obtain ⟨t',rfl⟩:=ry
 obtain ⟨j,h1,h2,h3,h4,h5⟩:=atI_get he
 have hl:z.cps.toList.length=z.length:=by simp [Str.length]
 rw [hl] at h1 h4 h5
 have hn:=ze8
 exact tail_any (typeIs_str s z t) slot_str_getitem.lookup (getItem_str (c:=c) (by
  have e1:decide (i < -(2 ^ 63:Int))=false:=decide_eq_false (by omega)
  have e2:decide (i ≥ 2 ^ 63)=false:=decide_eq_false (by omega)
  rw [e1,e2,Bool.or_false]) (by rw [h1];simpa using h2) ⟨.str ⟨#[c]⟩,H,I.tok _,⟨_,rfl⟩,q⟩) hs
noncomputable def rIx (K:PySem.W.Frag):R2:=fun x y H Q=>zol K x y H Q∨zom K x y H Q∨zkn x y H Q
theorem zw4:IxR X (rIx X.K):=ix_list.or (ix_tup.or zw3)
theorem zw5 (its:List Value) (n j:Nat) (u:Value):Obj.mapSeq (·.setIfInBounds j u) { cls:=.type "list",data:=.seq its.toArray n }={ cls:=.type "list",data:=.seq (its.set j u).toArray n }:=by
 simp [Obj.mapSeq]
theorem Inv.lst {pins:List (Addr × Obj)}{σ:St}{H:Hp}{s:Shared}{p:Addr}{xs:List V}(I:Inv X pins σ H s) (h:H p=some (.lst xs)) :
  ∃(its:List Value) (n:Nat),Vals xs its/\s.heap.get? p=some { cls:=.type "list",data:=.seq its.toArray n }/\xs.length<=sizeLine:=by
 obtain ⟨z,its,n,r,e⟩:=I.hok p _ h
 exact ⟨its,n,r,e,z⟩
theorem Inv.lstUpd {pins:List (Addr × Obj)}{σ:St}{H:Hp}{s:Shared}{p:Addr}{xs ys:List V}{its its':List Value}{n n':Nat}{f:Obj->Obj}(I:Inv X pins σ H s) (h:H p=some (.lst xs))
  (ho:s.heap.get? p=some { cls:=.type "list",data:=.seq its.toArray n }) (hf:f { cls:=.type "list",data:=.seq its.toArray n }={ cls:=.type "list",data:=.seq its'.toArray n' }) (r:Vals ys its') (hz:ys.length<=sizeLine) (t:Nat) :
  Inv X pins σ (upd H p (.lst ys)) { s with heap:=s.heap.update p f,toks:=t }:=by
 have e:(s.heap.update p f).get? p=some { cls:=.type "list",data:=.seq its'.toArray n' }:=by
  rw [Heap.get?_update_self f ho (by rw [hf] <;> rfl),hf]
 refine I.write (x:=p) (e:=p) (by rw [h];trivial) (.inl rfl) (fun b u hb q=>(Heap.get?_update_other _ _ (Ne.symm hb)).trans q) ⟨_,e⟩ ?_
 exact ⟨hz,its',n',r,e⟩
noncomputable def zon:V->V->V->Hp->(Hp->Prop)->Prop:=fun o i v H Q=>∃p xs k j,o=.ref p/\i=.int k/\H p=some (.lst xs)/\ixN xs.length k=some j/\Q (upd H p (.lst (xs.set j v)))
theorem zw6:znw X zon:=by
 intro pins s σ H o i v ov iv u Q I ro ri rv h
 obtain ⟨p,xs,k,j,rfl,rfl,hp,hj,q⟩:=h
 cases ro
 obtain ⟨t,rfl⟩:=ri
 obtain ⟨its,n,r,ho,hz⟩:=I.lst hp
 obtain ⟨h1,h2,h3,h4⟩:=zoj hj
 have hl:=r.length
 have hn:=ze8
 have I':Inv X pins σ (upd H p (.lst (xs.set j v))) { s with heap:=s.heap.update p (Obj.mapSeq (·.setIfInBounds j u)) } :=
  I.lstUpd hp ho (zw5 its n j u) (r.set rv j) (by rw [List.length_set];exact hz) s.toks
 by_cases h0:0<=k
 ·have hk:k.toNat=j:=by
   rw [seqIndex_of h0 h4] at h1
   exact Option.some.inj h1
  exact PySem.W.ki_setAt ho h0 (by omega) (by rw [List.size_toArray,←hl];exact h4) (by rw [hk];exact ⟨_,I',q⟩)
 ·have hk:(k+(its.toArray.size:Int)).toNat=j:=by
   rw [seqIndex_neg (by omega) h3] at h1
   rw [List.size_toArray,←hl]
   exact Option.some.inj h1
  exact PySem.W.ki_setBack ho (by omega) (by rw [List.size_toArray,←hl];exact h3) (by omega) (by rw [hk];exact ⟨_,I',q⟩)
noncomputable def zdw:V->Bool
 | .non=>true
 | .bl _=>true
 | .int _=>true
 | .str _=>true
 | _=>false
noncomputable def eqV:V->V->Bool
 | .non,.non=>true
 | .bl a,.bl b=>a == b
 | .bl a,.int b=>(if a then 1 else 0) == b
 | .int a,.bl b=>a == (if b then 1 else 0)
 | .int a,.int b=>a == b
 | .str a,.str b=>a == b
 | _,_=>false
theorem zw7 {A:Around}{s:Shared}{y x:V}{u v:Value}(ry:RelV y u) (rx:RelV x v) (fy:zdw y=true) (fx:zdw x=true):SeqAt.EqAt A s u v (eqV y x):=by
 cases y with
 | non =>
  cases ry
  cases x with
  | non=>cases rx;exact SeqAt.EqAt.same _
  | bl b=>cases rx;exact SeqAt.EqAt.none_bool b
  | int b=>obtain ⟨t,rfl⟩:=rx;exact SeqAt.EqAt.none_int b t
  | str b=>obtain ⟨t,rfl⟩:=rx;exact SeqAt.EqAt.none_str b t
  | _=>exact absurd (show false=true from fx) Bool.false_ne_true
 | bl a =>
  cases ry
  cases x with
  | non=>cases rx;exact SeqAt.EqAt.bool_none a
  | bl b=>cases rx;exact SeqAt.EqAt.bool_bool a b
  | int b=>obtain ⟨t,rfl⟩:=rx;exact SeqAt.EqAt.bool_int a b t
  | str b=>obtain ⟨t,rfl⟩:=rx;exact SeqAt.EqAt.bool_str a b t
  | _=>exact absurd (show false=true from fx) Bool.false_ne_true
 | int a =>
  obtain ⟨t',rfl⟩:=ry
  cases x with
  | non=>cases rx;exact SeqAt.EqAt.int_none a t'
  | bl b=>cases rx;exact SeqAt.EqAt.int_bool a t' b
  | int b=>obtain ⟨t,rfl⟩:=rx;exact SeqAt.EqAt.int_int a t' b t
  | str b=>obtain ⟨t,rfl⟩:=rx;exact SeqAt.EqAt.int_str a t' b t
  | _=>exact absurd (show false=true from fx) Bool.false_ne_true
 | str a =>
  obtain ⟨t',rfl⟩:=ry
  cases x with
  | non=>cases rx;exact SeqAt.EqAt.str_none a t'
  | bl b=>cases rx;exact SeqAt.EqAt.str_bool a t' b
  | int b=>obtain ⟨t,rfl⟩:=rx;exact SeqAt.EqAt.str_int a t' b t
  | str b=>obtain ⟨t,rfl⟩:=rx;exact SeqAt.EqAt.str_str a t' b t
  | _=>exact absurd (show false=true from fx) Bool.false_ne_true
 | _=>exact absurd (show false=true from fy) Bool.false_ne_true
noncomputable def eqU (x:V) (u:Value):Bool:=match u with
 | .none=>eqV .non x
 | .bool b=>eqV (.bl b) x
 | .int i _=>eqV (.int i) x
 | .str z _=>eqV (.str z) x
 | _=>false
theorem zoo {x y:V}{u:Value}(r:RelV y u) (f:zdw y=true):eqU x u=eqV y x:=by
 cases y with
 | non=>cases r;rfl
 | bl b=>cases r;rfl
 | int i=>obtain ⟨t,rfl⟩:=r;rfl
 | str z=>obtain ⟨t,rfl⟩:=r;rfl
 | _=>exact absurd (show false=true from f) Bool.false_ne_true
theorem zg7 {x:V}:∀{xs:List V}{us:List Value},Vals xs us->xs.all zdw=true->us.any (eqU x)=xs.any fun y=>eqV y x
 | _,_,.nil,_=>rfl
 | y :: xs,u :: us,.cons r t,f=>by
  rw [List.all_cons,Bool.and_eq_true] at f
  rw [List.any_cons,List.any_cons,zoo r f.1,zg7 t f.2]
theorem zg8 {A:Around}{s:Shared}{x:V}{v:Value}(rx:RelV x v) (fx:zdw x=true):∀{xs:List V}{us:List Value},Vals xs us->xs.all zdw=true->∀u∈us,SeqAt.EqAt A s u v (eqU x u)
 | _,_,.nil,_=>fun u hu=>by cases hu
 | y :: xs,u :: us,.cons r t,f=>fun u' hu=>by
  rw [List.all_cons,Bool.and_eq_true] at f
  rcases List.mem_cons.mp hu with rfl|hu
  ·rw [zoo r f.1];exact zw7 r rx f.1 fx
  ·exact zg8 rx fx t f.2 u' hu
noncomputable def inV (x:V) (xs:List V):Bool:=xs.any fun y=>eqV y x
noncomputable def rIn (K:PySem.W.Frag) (neg:Bool):R2:=fun x y H Q=>∃p xs,y=.ref p/\(SqL K H p xs∨SqT K H p xs)/\zdw x=true/\xs.all zdw=true/\Q (.bl (if neg then !inV x xs else inV x xs)) H
theorem zw8:OpR X (compareOp .In) (rIn X.K false):=by
 intro pins s σ H x y v u Q I rx ry h
 obtain ⟨p,xs,rfl,hq,fx,fs,q⟩:=h
 cases ry
 rcases hq with hq|hq
 ·obtain ⟨its,r,pl,hz⟩:=I.list hq
  refine SeqAt.in_listAt (eqU x) pl.isList (fun w hw=>zg8 rx fx r fs w (by simpa using hw)) ⟨.bl _,H,I,rfl,?_⟩
  rw [show its.toArray.any (eqU x)=its.any (eqU x) by simp,zg7 r fs]
  exact q
 ·obtain ⟨its,r,pl,hz⟩:=I.tuple hq
  refine SeqAt.in_tupleAt (eqU x) pl (fun w hw=>zg8 rx fx r fs w (by simpa using hw)) ⟨.bl _,H,I,rfl,?_⟩
  rw [show its.toArray.any (eqU x)=its.any (eqU x) by simp,zg7 r fs]
  exact q
theorem zw9:OpR X (compareOp .NotIn) (rIn X.K true):=by
 intro pins s σ H x y v u Q I rx ry h
 obtain ⟨p,xs,rfl,hq,fx,fs,q⟩:=h
 cases ry
 rcases hq with hq|hq
 ·obtain ⟨its,r,pl,hz⟩:=I.list hq
  refine SeqAt.notIn_listAt (eqU x) pl.isList (fun w hw=>zg8 rx fx r fs w (by simpa using hw)) ⟨.bl _,H,I,rfl,?_⟩
  rw [show its.toArray.any (eqU x)=its.any (eqU x) by simp,zg7 r fs]
  exact q
 ·obtain ⟨its,r,pl,hz⟩:=I.tuple hq
  refine SeqAt.notIn_tupleAt (eqU x) pl (fun w hw=>zg8 rx fx r fs w (by simpa using hw)) ⟨.bl _,H,I,rfl,?_⟩
  rw [show its.toArray.any (eqU x)=its.any (eqU x) by simp,zg7 r fs]
  exact q
theorem call_len_seq:CallR X (.builtin "len") (fun xs H Q=>∃p ys,xs=[.ref p]/\(SqL X.K H p ys∨SqT X.K H p ys)/\Q (.int ys.length) H):=by
 intro pins s σ H xs us Q I r h
 obtain ⟨p,ys,rfl,hq,q⟩:=h
 obtain ⟨u,rfl,rx⟩:=zed r
 cases rx
 have hn:=ze8
 rcases hq with hq|hq
 ·obtain ⟨its,r',pl,hz⟩:=I.list hq
  have hlen:=r'.length
  exact Calls.call_len_list pl.isList (by simp only [List.size_toArray] <;> omega) ⟨.int ys.length,H,I.tok _,⟨s.toks+1,by rw [List.size_toArray,hlen]⟩,q⟩
 ·obtain ⟨its,r',pl,hz⟩:=I.tuple hq
  have hlen:=r'.length
  exact len_tuple pl (by simp only [List.size_toArray] <;> omega) ⟨.int ys.length,H,I.tok _,⟨s.toks+1,by rw [List.size_toArray,hlen]⟩,q⟩
theorem zxa:CallR X (.builtin "len") (fun xs H Q=>∃z,xs=[.str z]/\z.length<=sizeLine/\Q (.int z.length) H):=by
 intro pins s σ H xs us Q I r h
 obtain ⟨z,rfl,hz,q⟩:=h
 obtain ⟨u,rfl,t,rfl⟩:=zed r
 have hn:=ze8
 exact len_str (by omega) ⟨.int z.length,H,I.tok _,⟨_,rfl⟩,q⟩
theorem CallR.or {f:Value}{r r':List V->Hp->VK->Prop}(h:CallR X f r) (h':CallR X f r'):CallR X f (fun xs H Q=>r xs H Q∨r' xs H Q):=by
 intro pins s σ H xs us Q I rs q
 rcases q with q|q
 ·exact h pins s σ H xs us Q I rs q
 ·exact h' pins s σ H xs us Q I rs q
theorem zxb:CallR X (.type "tuple") (fun xs H Q=>∃p ys,xs=[.ref p]/\((SqL X.K H p ys/\∀l,H l=none->Q (.ref l) (upd H l (.tup ys)))∨(SqT X.K H p ys/\Q (.ref p) H))):=by
 intro pins s σ H xs us Q I r h
 obtain ⟨p,ys,rfl,h⟩:=h
 obtain ⟨u,rfl,rx⟩:=zed r
 cases rx
 rcases h with ⟨hq,q⟩|⟨hq,q⟩
 ·obtain ⟨its,r',pl,hz⟩:=I.list hq
  have hlen:=r'.length
  refine call_tuple_list pl.isList (fun h' kp=>?_) (by simp only [List.size_toArray] <;> omega)
  have I1:Inv X pins σ H { s with heap:=h' }:=I.kept (t':=s.toks) kp
  have I2:Inv X pins σ (upd H h'.objs.size (.tup ys)) { s with heap:=h'.push { cls:=.type "tuple",data:=.seq its.toArray } } :=
   I1.laid (t':=s.toks) (fun b o e=>Heap.get?_push_of_some _ e) (Nat.le_refl _) (show ObjOk X.prog X.w _ _ _ (.tup ys) from ⟨hz,its,r',IsTup.new _ _⟩)
  exact ⟨.ref h'.objs.size,_,I2,rfl,q _ (I1.hok.fresh (Nat.le_refl _))⟩
 ·obtain ⟨its,r',pl,hz⟩:=I.tuple hq
  exact call_tuple_same pl ⟨.ref p,H,I,rfl,q⟩
noncomputable def tyV (K:PySem.W.Frag) (T:String) (x:V) (H:Hp):Prop:=match x with
 | .str _=>T = "str"
 | .int _=>T = "int"
 | .ref p=>(T = "list"/\∃xs,SqL K H p xs)∨(T = "tuple"/\∃o,K.lookup p=some o/\o.cls=.type "tuple"/\o.dict=none) ∨
   (T = "dict"/\((∃kvs,H p=some (.dK kvs))∨∃kvs,H p=some (.dT kvs)))∨(T = "set"/\∃S n,H p=some (.set S n))
 | _=>False
theorem zop {pins:List (Addr × Obj)}{σ:St}{H:Hp}{s:Shared}{T:String}{x:V}{v:Value}(I:Inv X pins σ H s) (r:RelV x v) (ty:tyV X.K T x H) :
  s.TypeIs v T/\∀a,v=.ref a->∃ob,s.heap.get? a=some ob/\ob.dict=none:=by
 cases x with
 | str z =>
  obtain ⟨t,rfl⟩:=r
  cases (show T = "str" from ty)
  exact ⟨typeIs_str s z t,fun _ e=>nomatch e⟩
 | int i =>
  obtain ⟨t,rfl⟩:=r
  cases (show T = "int" from ty)
  exact ⟨typeIs_int s i t,fun _ e=>nomatch e⟩
 | ref p =>
  cases r
  rcases ty with ⟨rfl,xs,hq⟩|⟨rfl,o,hk,hc,hd⟩|⟨rfl,hk⟩|⟨rfl,S,n,hk⟩
  ·obtain ⟨its,_,pl,_⟩:=I.list hq
   refine ⟨pl.isList.typeIs,fun a e=>?_⟩
   cases e
   obtain ⟨o,n,e,c,hd,_⟩:=pl
   exact ⟨o,e,hd⟩
  ·refine ⟨⟨o,I.kIn p o hk,hc⟩,fun a e=>?_⟩
   cases e
   exact ⟨o,I.kIn _ o hk,hd⟩
  ·have z:∃o,s.heap.get? p=some o/\o.ExactDict:=by
    rcases hk with ⟨kvs,hk⟩|⟨kvs,hk⟩
    ·obtain ⟨_,_,_,_,o,_,_,e,ex,_⟩:=I.hok p _ hk
     exact ⟨o,e,ex⟩
    ·obtain ⟨_,_,_,_,o,_,_,e,ex,_⟩:=I.hok p _ hk
     exact ⟨o,e,ex⟩
   obtain ⟨o,e,ex⟩:=z
   refine ⟨⟨o,e,ex.1⟩,fun a e2=>?_⟩
   cases e2
   exact ⟨o,e,ex.2.1⟩
  ·obtain ⟨o,_,_,_,e,ex,_⟩:=I.hok p _ hk
   refine ⟨⟨o,e,ex.1⟩,fun a e2=>?_⟩
   cases e2
   exact ⟨o,e,ex.2.1⟩
 | _=>exact False.elim ty
noncomputable def zxc (K:PySem.W.Frag) (T:String) (r:V->List V->Hp->VK->Prop) (to:TE):TE:=fun σ H Q=>to σ H fun x H1=>tyV K T x H1/\r x [] H1 Q
noncomputable def tBM (K:PySem.W.Frag) (T:String) (r:V->List V->Hp->VK->Prop) (to:TE) (t:TA):TE:=fun σ H Q=>to σ H fun x H1=>tyV K T x H1/\t σ H1 fun xs H2=>r x xs H2 Q
variable {o e:Expr}{es:List Expr}{to:TE}{t:TA}{name:Str}{apos cpos:Pos}{T id:String}{r:V->List V->Hp->VK->Prop}
theorem zxd (pa:PlainAttrs T) (slot:Slot T name id) (hty:typeOf (.builtin id)=pure (.type "method_descriptor")) (hm:MtR X id r) (ho:PE X o to)
  (hbase:attributeBase o name X.env (eval o X.env)=eval o X.env:=by rfl) (hline:(apos.endLine == cpos.line)=true:=by rfl):PE X (.Call (.Attribute o name apos) [] [] cpos) (zxc X.K T r to):=by
 intro pins s σ H Q I h
 refine wpAny_Call_method0_late hbase hline (thn (ho pins s σ H _ I h) fun v s1 ⟨x,H1,I1,r1,ty,q1⟩=>?_)
 obtain ⟨h1,h2⟩:=zop I1 r1 ty
 exact ⟨T,id,pa,slot,hty,h1,h2,Calls.callWith_builtin rfl (PySem.evalArgs_none (hm pins s1 σ H1 x [] v [] Q I1 r1 .nil q1))⟩
theorem zxe (pa:PlainAttrs T) (slot:Slot T name id) (hty:typeOf (.builtin id)=pure (.type "method_descriptor")) (hm:MtR X id r) (ho:PE X o to) (ha:PA X (e :: es) t)
  (hbase:attributeBase o name X.env (eval o X.env)=eval o X.env:=by rfl)
  (hfew:((backTo cpos (starEach (e :: es) X.env)).all (fun x=>!x.1) && (backToKw cpos (keywordEach [] X.env)).all (fun x=>x.1.isSome)
   && decide ((e :: es).length+([]:List Keyword).length+(if ([]:List Keyword).isEmpty then 0 else 1)<30))=true:=by rfl)
  (hline:(apos.endLine == cpos.line)=true:=by rfl) (hs:starEach (e :: es) X.env=(false,eval e X.env) :: starEach es X.env:=by rfl) (hplain:(backTo cpos (starEach es X.env)).any (·.1)=false:=by rfl) :
  PE X (.Call (.Attribute o name apos) (e :: es) [] cpos) (tBM X.K T r to t):=by
 intro pins s σ H Q I h
 refine wpAny_Call_method_late hbase hfew hline rfl (thn (ho pins s σ H _ I h) fun v s1 ⟨x,H1,I1,r1,ty,q1⟩=>?_)
 obtain ⟨h1,h2⟩:=zop I1 r1 ty
 refine ⟨T,id,pa,slot,hty,h1,h2,?_⟩
 have hA:=ha cpos pins s1 σ H1 _ I1 q1
 rw [hs] at hA ⊢
 refine Calls.callWith_builtin (by show (false || (backTo cpos (starEach es X.env)).any (·.1))=false;rw [hplain] <;> rfl) (Calls.evalArgs_plain ?_)
 exact thn hA fun us s2 ⟨vs,H2,I2,r2,q2⟩=>hm pins s2 σ H2 x vs v us Q I2 r1 r2 q2
end
end L2
namespace L2
open PySem PySem.Spec PyProof.Rows
noncomputable def MtM (X:Cx) (id:String) (r:V->List V->Hp->VK->Prop):Prop :=
 ∀(pins:List (Addr × Obj)) (s:Shared) (σ:St) (H:Hp) (x:V) (xs:List V) (v:Value) (us:List Value) (Q:VK),Inv X pins σ H s->RelV x v->Vals xs us->r x xs H Q ->
  wpAny (model X.prog X.w) X.A (call (.builtin id) (v :: us)) (EP X pins σ Q) X.xe s
theorem Vals.one:∀{x:V}{us:List Value},Vals [x] us->∃u,us=[u]/\RelV x u
 | _,_,.cons r .nil=>⟨_,rfl,r⟩
theorem Vals.two {x y:V}{us:List Value}(h:Vals [x,y] us):∃u v,us=[u,v]/\RelV x u/\RelV y v:=by
 cases h with
 | cons r t =>
  cases t with
  | cons q t2=>cases t2;exact ⟨_,_,rfl,r,q⟩
theorem Vals.zero:∀{us:List Value},Vals [] us->us=[]
 | _,.nil=>rfl
theorem Vals.dropLast {xs:List V}{us:List Value}(h:Vals xs us):Vals xs.dropLast us.dropLast:=by
 induction h with
 | nil=>exact .nil
 | cons r t ih =>
  cases t with
  | nil=>exact .nil
  | cons q t'=>exact .cons r ih
theorem Vals.eraseIdx:∀{xs:List V}{us:List Value}(i:Nat),Vals xs us->Vals (xs.eraseIdx i) (us.eraseIdx i)
 | _,_,_,.nil=>.nil
 | _,_,0,.cons _ t=>t
 | _,_,i+1,.cons r t=>.cons r (Vals.eraseIdx i t)
theorem Vals.reverse {xs:List V}{us:List Value}(h:Vals xs us):Vals xs.reverse us.reverse:=by
 induction h with
 | nil=>exact .nil
 | cons r t ih=>rw [List.reverse_cons,List.reverse_cons];exact Vals.append ih (.cons r .nil)
theorem Vals.rep {xs:List V}{us:List Value}(h:Vals xs us):∀k:Nat,Vals (List.replicate k xs).flatten (List.replicate k us).flatten
 | 0=>.nil
 | k+1=>by
  rw [List.replicate_succ,List.replicate_succ,List.flatten_cons,List.flatten_cons]
  exact Vals.append h (Vals.rep h k)
theorem zxf {α:Type}(l:List α):l.eraseIdx (l.length-1)=l.dropLast:=by
 induction l with
 | nil=>rfl
 | cons a r ih =>
  cases r with
  | nil=>rfl
  | cons b r =>
   have e:(a :: b :: r).length-1=((b :: r).length-1)+1:=by
    have h1:(a :: b :: r).length=r.length+2:=rfl
    have h2:(b :: r).length=r.length+1:=rfl
    omega
   rw [e,List.eraseIdx_cons_succ,ih]
   all_goals rfl
theorem zoq (its:List Value):∀(k:Nat) (acc:List Value),
  List.foldl (fun x1 x2=>x1++x2) acc.toArray (List.replicate k its.toArray)=(acc++(List.replicate k its).flatten).toArray
 | 0,acc=>by simp
 | k+1,acc=>by
  have e:acc.toArray++its.toArray=(acc++its).toArray:=by simp
  have e2:(acc++its)++(List.replicate k its).flatten=acc++(List.replicate (k+1) its).flatten:=by
   rw [List.replicate_succ,List.flatten_cons,List.append_assoc]
  rw [←e2,←zoq its k (acc++its),←e,List.replicate_succ,List.foldl_cons]
section
variable {X:Cx}{pins:List (Addr × Obj)}{σ:St}{H:Hp}{s:Shared}{l b:Addr}{xs ys zs:List V}
theorem Inv.lset {its its':List Value}{n:Nat}{f:Array Value->Array Value}{t':Nat}(I:Inv X pins σ H s) (hH:H l=some (.lst xs))
  (e:s.heap.get? l=some { cls:=.type "list",data:=.seq its.toArray n }) (hf:f its.toArray=its'.toArray) (hv:Vals ys its') (hz:ys.length<=sizeLine) :
  Inv X pins σ (upd H l (.lst ys)) { s with heap:=s.heap.update l (Obj.mapSeq f),toks:=t' }:=by
 have q:=PySem.IsL.update e f
 rw [hf] at q
 refine I.write (x:=l) (e:=l) (by rw [hH];exact trivial) (.inl rfl) (fun b' u hb hu=>(Heap.get?_update_other s.heap (Obj.mapSeq f) (Ne.symm hb)).trans hu) ⟨_,q⟩ ?_
 exact ⟨hz,its',_,hv,q⟩
theorem Inv.lnew {its:List Value}{t':Nat}(I:Inv X pins σ H s) (hv:Vals ys its) (hz:ys.length<=sizeLine) :
  Inv X pins σ (upd H s.heap.objs.size (.lst ys)) { s with heap:=s.heap.push { cls:=.type "list",data:=.seq its.toArray },toks:=t' } :=
 I.laid (fun _ _ q=>Heap.get?_push_of_some _ q) (Nat.le_refl _) ⟨hz,its,0,hv,Heap.get?_push_size _ rfl⟩
theorem Inv.fresh (I:Inv X pins σ H s):H s.heap.objs.size=none:=I.hok.fresh (Nat.le_refl _)
theorem Inv.lstM (I:Inv X pins σ H s) (hH:H l=some (.lst xs)):xs.length<=sizeLine/\∃(its:List Value) (n:Nat),Vals xs its/\xs.length=its.length/\s.heap.get? l=some { cls:=.type "list",data:=.seq its.toArray n }:=by
 obtain ⟨z,its,n,r,e⟩:=I.hok l _ hH
 exact ⟨z,its,n,r,r.length,e⟩
end
section
variable {X:Cx}
noncomputable def zor:V->List V->Hp->VK->Prop:=fun x vs H Q=>∃l xs y,x=.ref l/\vs=[y]/\H l=some (.lst xs)/\xs.length<sizeLine/\Q .non (upd H l (.lst (xs++[y])))
theorem zim:MtM X "list.append" zor:=by
 intro pins s σ H x vs v us Q I rx rv h
 obtain ⟨l,xs,y,rfl,rfl,hH,hz,q⟩:=h
 cases rx
 obtain ⟨u,rfl,ru⟩:=rv.one
 obtain ⟨z,its,n,r,hl,e⟩:=I.lstM hH
 refine call_meets F.slot_list_append ⟨_,e,rfl⟩ F.entry_list_append (F.args_list_append_2 _ _) (PySem.list_append l its.toArray n u (by rw [List.size_toArray];omega)) ⟨e,?_⟩
 refine ⟨.non,_,I.lset (its':=its++[u]) hH e (by simp) (r.append (.cons ru .nil)) ?_,rfl,q⟩
 rw [List.length_append,List.length_singleton]
 omega
noncomputable def zos:V->List V->Hp->VK->Prop:=fun x vs H Q=>∃l xs y,x=.ref l/\vs=[]/\H l=some (.lst xs)/\xs[xs.length-1]? = some y/\Q y (upd H l (.lst xs.dropLast))
theorem zxg:MtM X "list.pop" zos:=by
 intro pins s σ H x vs v us Q I rx rv h
 obtain ⟨l,xs,y,rfl,rfl,hH,hy,q⟩:=h
 cases rx
 have hus:=rv.zero
 subst hus
 obtain ⟨z,its,n,r,hl,e⟩:=I.lstM hH
 obtain ⟨u,hu,ru⟩:=r.get hy
 have hy':its.toArray[its.toArray.size-1]? = some u:=by
  show its.toArray[its.length-1]? = some u
  rw [←Array.getElem?_toList,←hl]
  exact hu
 refine call_meets F.slot_list_pop ⟨_,e,rfl⟩ F.entry_list_pop (F.args_list_pop_1 _) (MeetsSeq.list_pop_last l its.toArray n u hy' (by rw [List.size_toArray];omega)) ⟨e,?_⟩
 refine ⟨y,_,I.lset (its':=its.dropLast) hH e ?_ r.dropLast ?_,ru,q⟩
 ·show its.toArray.eraseIdxIfInBounds (its.toArray.size-1)=its.dropLast.toArray
  rw [List.size_toArray,List.eraseIdxIfInBounds_toArray,zxf]
 ·rw [List.length_dropLast]
  omega
noncomputable def zot:V->List V->Hp->VK->Prop:=fun x vs H Q=>∃l xs,x=.ref l/\vs=[]/\H l=some (.lst xs)/\Q .non (upd H l (.lst xs.reverse))
theorem zxh:MtM X "list.reverse" zot:=by
 intro pins s σ H x vs v us Q I rx rv h
 obtain ⟨l,xs,rfl,rfl,hH,q⟩:=h
 cases rx
 have hus:=rv.zero
 subst hus
 obtain ⟨z,its,n,r,hl,e⟩:=I.lstM hH
 refine call_meets F.slot_list_reverse ⟨_,e,rfl⟩ F.entry_list_reverse (F.args_list_reverse_1 _) (AutoSeq1.list_reverse_list_0 l its.toArray n (by rw [List.size_toArray];omega)) ⟨e,?_⟩
 refine ⟨.non,_,I.lset (its':=its.reverse) hH e (by simp) r.reverse ?_,rfl,q⟩
 rw [List.length_reverse]
 omega
noncomputable def zou:R2:=fun x y H Q=>∃l b xs zs,x=.ref l/\y=.ref b/\H l=some (.lst xs)/\H b=some (.lst zs)/\xs.length+zs.length<=sizeLine/\∀p,H p=none->Q (.ref p) (upd H p (.lst (xs++zs)))
theorem zxi:OpR X (binaryOp .Add) zou:=by
 intro pins s σ H x y v u Q I rx ry h
 obtain ⟨l,b,xs,zs,rfl,rfl,hH,hB,hz,q⟩:=h
 cases rx
 cases ry
 obtain ⟨z,its,n,r,hl,e⟩:=I.lstM hH
 obtain ⟨z2,its2,n2,r2,hl2,e2⟩:=I.lstM hB
 refine PySem.P.add_list e e2 ?_ (by rw [List.size_toArray,List.size_toArray];omega)
 have ea:its.toArray++its2.toArray=(its++its2).toArray:=by simp
 rw [ea]
 exact ⟨.ref _,_,I.lnew (t':=s.toks) (r.append r2) (by rw [List.length_append];omega),rfl,q _ I.fresh⟩
theorem zov {α:Type}(xs:List α) (k:Nat):(List.replicate k xs).flatten.length=k*xs.length:=by
 induction k with
 | zero=>simp
 | succ k ih=>rw [List.replicate_succ,List.flatten_cons,List.length_append,ih,Nat.succ_mul,Nat.add_comm]
end
section
variable {prog:Program}{w:World}{A:Around}{E:Value->Shared->Prop}{s:Shared}
end
section
variable {X:Cx}
end
end L2
namespace Att
open PySem PySem.W PySem.Calls PyProof.Rows
theorem zxj {P:Params}{h:Heap}:∀(ns:List Int) (vs:List Value),WellAll P h vs (ns.map WData.int)->IntsAre vs ns:=by
 intro ns
 induction ns with
 | nil =>
  intro vs w
  rw [List.map_nil] at w
  cases w
  exact .nil
 | cons n ns ih =>
  intro vs w
  rw [List.map_cons] at w
  cases w with
  | cons a b =>
   cases a
   exact .cons _ _ (ih _ b)
theorem zxk {l:OpenLaw}{n:Nat}(hn:l.most=some n) {P:Params}{h:Heap}{args:List WData}{vals:List Value}
  (hpre:l.row.toRowW.claim.pre args=true) (hwl:WellAll P h vals args) :
  ∃a vs ns,vals=[Value.ref a]/\args=[WData.list (ns.map WData.int)]/\h.get? a=some { cls:=.type "list",data:=.seq vs.toArray }/\IntsAre vs ns/\ns.length<=n:=by
 have hsh:WShape.hasAll [] args [.list .int]=true:=(pre_splitW hpre).1
 have hc:l.pre.holds [] { args:=args }=true:=(pre_splitW hpre).2
 obtain ⟨d,r,rfl,h1,h2⟩:=hasAllW_cons hsh
 obtain rfl:=hasAllW_nil h2
 obtain ⟨xs,rfl,h3⟩:=hasW_list h1
 obtain ⟨ns,rfl⟩:=items_int h3
 have hlen:ns.length<=n:=by
  unfold OpenLaw.pre at hc
  have h4:(WTm.not (.lt (.lit (.int (n:Int))) (.len (.arg 0)))).holds [] { args:=[.list (ns.map .int)] }=true:=by
   have h4:=(holds_andW hc).1
   rw [hn] at h4
   exact h4
  have h5:=condW_of h4 (w_not (w_lt w_lit (w_len_list (w_arg rfl))))
  rw [List.length_map] at h5
  refine Nat.le_of_not_lt fun q=>?_
  have q':(n:Int)<((ns.length:Nat):Int):=by omega
  first
   | (rw [decide_eq_true q'] at h5;exact absurd h5 (by decide))
   | (simp at h5;omega)
 cases hwl with
 | cons w1 w2 =>
  cases w2
  cases w1 with
  | list ho hall=>exact ⟨_,_,ns,rfl,rfl,ho,zxj ns _ hall,hlen⟩
theorem zxl (l:OpenLaw) (args:List WData):l.row.toRowW.claim.post args (.bool true) args=true :=
 postW_of (r:=l.row.toRowW) (X:=(true == true))
  (show WShape.has [] (.bool true) .bool=true by first|rfl|decide|simp [WShape.has,WShape.arms,WShape.armsAll])
  (show (WTm.eq .res (.lit (.bool true))).value [] { args:=args,res:=some (.bool true),after:=args }=some (.bool (true == true)) from w_eq_bool (w_res rfl) w_lit) rfl
theorem attach_call {l:OpenLaw}{n:Nat}{q:Program}{loose:List Str}{XP:(Str->Option Value)->Heap->Prop}{YP:World->Heap->Prop}{d:DefRec}
  (hn:l.most=some n) (hdf:d.params.defaults=[])
  (call:∀(w:World) (s₀ s₁:Shared) (mg mb:Str->Option Value) (fa:Addr) (o:Obj) (pm cd doc:Value) (a:Addr) (vs:List Value) (ns:List Int),
   Ground q loose [] XP w s₀ mg mb s₁.heap->YP w s₁.heap ->
   s₁.heap.get? fa=some o->o.data=.func (docDef d.name d.params d.body d.scope pm cd doc)->s₁.heap.CodeRec cd d.name->mg d.name=some (.ref fa) ->
   s₁.heap.get? a=some { cls:=.type "list",data:=.seq vs.toArray }->IntsAre vs ns->ns.length<=n->s₁.gens = #[] ->
   codeAny (model l.prog w) callerA (.call (.ref fa) ⟨[.ref a],[]⟩) (fun r s'=>r=.ok (.ret (.bool true))/\OldK s₁.heap s'.heap/\s'.os=s₁.os/\AllBare s'.gens) s₁) :
  WalkO q loose XP YP l.row.toRowW d [] (fun f vs=>PySem.call f vs):=by
 intro w s₀ s₁ mg mb G Y fa o pm cd doc dV kV ho hd hcd hD hmg hg args vals as hpre hlay hrd hwl hlo
 obtain rfl:dV=.none:=Dflts.none hD hdf
 obtain rfl:kV=.none:=Dflts.noKw hD
 obtain ⟨a,vs,ns,rfl,rfl,hobj,hints,hlen⟩:=zxk hn hpre hwl
 refine enter_call (codeAny_mono (call w s₀ s₁ mg mb fa o pm cd doc a vs ns G Y ho (fd_plain hd) hcd hmg hobj hints hlen hg) fun r s' hq=>?_)
 obtain ⟨rfl,h2,h3,h4⟩:=hq
 exact ⟨.inl ⟨.bool true,.bool true,[],rfl,fun _=>rfl,.bool true,zxl l _,fun _=>⟨List.Pairwise.nil,fun _ hm=>(nomatch hm)⟩⟩,h2,h3,h4⟩
section
variable {prog:Program}{w:World}{A:Around}{E:Value->Shared->Prop}{s:Shared}{K:Frag}
end
end Att
namespace L2
open PySem PySem.Spec PyProof.Rows
theorem zow:∀{vs:List Value}{ns:List Int},IntsAre vs ns->Vals (ns.map V.int) vs
 | _,_,.nil=>.nil
 | _,_,.cons n t h=>.cons ⟨t,rfl⟩ (zow h)
noncomputable def zin (H:Hp):Prop:=∀b,H b=none∨∃o xs,H b=some (.frz o (.lst xs))
theorem zxm {P:Program}{w:World}{K:PySem.W.Frag}{mg mb:Str->Option Value}{CX:CXT}{k:Nat}{fa a:Addr}{fd:FuncData}{x:Str}{sp:Sp}{s₁:Shared}{vs:List Value}{ns:List Int}
  (KX:K.In s₁.heap) (hns:s₁.heap.Ns mainGlobals mg) (hb:s₁.heap.Ns builtinsNs mb) (hbb:∀x:Str,x≠"__name__"->mb x=bootBuiltins x) (hlim:s₁.heap.NoLimit) (hg:s₁.gens = #[])
  (ha:s₁.heap.get? a=some { cls:=.type "list",data:=.seq vs.toArray }) (hi:IntsAre vs ns) (hl:ns.length<=sizeLine) (hr:Room k callerA)
  (F:∀base:Heap,K.In base->base.Ns mainGlobals mg->FnOk P w K mg base CX k fa fd [x] sp) (hbind:∀(s:Shared) (u:Value),BindsTo s fd ⟨[u],[]⟩ [(x,u)])
  (hsp:∀H:Hp,zin H->SqL K H a (ns.map V.int)->sp [.ref a] H (fun v _=>v=.bl true) fun _ _ _=>False)
  (hCX:∀H e s',CX [] H s₁ (fun _ _ _=>False) e s'->False) :
  codeAny (model P w) callerA (.call (.ref fa) ⟨[.ref a],[]⟩) (fun r s'=>r=.ok (.ret (.bool true))/\OldK s₁.heap s'.heap/\s'.os=s₁.os/\AllBare s'.gens) s₁:=by
 have rv:=zow hi
 have lenV:=hi.length
 have core:∀H:Hp,zin H->SqL K H a (ns.map V.int)->HOk P w H s₁.heap->(∀b,H b≠none->b=a)->(H a≠none->K.lookup a=none) ->
   codeAny (model P w) callerA (.call (.ref fa) ⟨[.ref a],[]⟩) (fun r s'=>r=.ok (.ret (.bool true))/\OldK s₁.heap s'.heap/\s'.os=s₁.os/\AllBare s'.gens) s₁:=by
  intro H hO hS hok hA hK
  have base_of:∀{b:Addr} {o:Obj},s₁.heap.get? b=some o->H b=none->(zec s₁.heap H).get? b=some o:=fun e n=>zuj e n
  have noA:∀{b:Addr} {o:Obj} {es:Array DictEntry} {ep:Nat},s₁.heap.get? b=some o->o.data=.dict es ep->H b=none:=fun {b o es ep} e d=>by
   cases q:H b with
   | none=>rfl
   | some u =>
    have e':b=a:=hA b (by rw [q];simp)
    subst e'
    rw [ha] at e;cases e
    have d':Data.seq vs.toArray _=Data.dict es ep:=d
    cases d'
  have nsK:∀{b:Addr} {m:Str->Option Value},s₁.heap.Ns b m->(zec s₁.heap H).Ns b m:=fun {b m} ⟨o,es,ep,e,d,r⟩=>⟨o,es,ep,base_of e (noA e d),d,r⟩
  have hKb:K.In (zec s₁.heap H):=fun b o e=>base_of (KX b o e) (by
   cases q:H b with
   | none=>rfl
   | some u =>
    have e':b=a:=hA b (by rw [q];simp)
    subst e'
    rw [hK (by rw [q];simp)] at e;cases e)
  have hM:Mod K mg (zec s₁.heap H):=⟨hKb,nsK hns,⟨mb,nsK hb,hbb⟩,let ⟨mc,h1,h2⟩:=hlim;⟨mc,nsK h1,h2⟩⟩
  have e0:Env0 P w K mg (zec s₁.heap H) callerA [] s₁ H:=⟨rfl,hM,fun b o e=>zuk e,Nat.le_of_eq (zui _ _),trivial,fun b hb=>absurd (show b∈([]:List Addr) from hb) (by simp),hok,.of_eq hg⟩
  refine codeAny_mono ((F _ hKb (nsK hns)).run callerA [] s₁ H ⟨[.ref a],[]⟩ [.ref a] [.ref a] _ _ hr e0 (hbind s₁ (.ref a)) (.cons rfl .nil) (hsp H hO hS)) fun r s' h=>?_
  cases r with
  | error e=>exact (hCX H e s' h).elim
  | ok fl =>
   cases fl with
   | next=>exact False.elim h
   | brk=>exact False.elim h
   | cont=>exact False.elim h
   | ret u =>
    obtain ⟨v,H',os,bare,un,hok',r',q⟩:=h
    have q':v=.bl true:=q
    subst q'
    obtain rfl:u=Value.bool true:=r'
    refine ⟨rfl,OldK.of_keep fun b o e=>?_,os,bare⟩
    cases q:H b with
    | none=>exact un.keep b o e q (by intro z;exact absurd (show b∈([]:List Addr) from z) (by simp)) (by simp)
    | some u =>
     rcases hO b with z|⟨ob,xs,z⟩
     ·rw [q] at z;cases z
     ·have z2:=un.frzs b ob _ z
      obtain ⟨e1,_⟩:=hok b _ z
      obtain ⟨e2,_⟩:=hok' b _ z2
      rw [e] at e1;cases e1
      exact e2
 cases hk:K.lookup a with
 | some o =>
  have e:=KX a o hk
  rw [ha] at e
  cases e
  refine core (fun _=>none) (fun _=>.inl rfl) (.inr ⟨_,vs.toArray,_,hk,rfl,rfl,rfl,by rw [List.size_toArray,lenV];exact hl,by simpa using rv⟩) (fun b u z=>by have z':(none:Option HO)=some u:=z;cases z') (fun b z=>absurd rfl z) fun z=>absurd rfl z
 | none =>
  refine core (fun b=>if b=a then some (.frz { cls:=.type "list",data:=.seq vs.toArray } (.lst (ns.map V.int))) else none) (fun b=>?_) (.inl (.inr ⟨{ cls:=.type "list",data:=.seq vs.toArray },if_pos rfl⟩)) (fun b u z=>?_) (fun b z=>?_) fun _=>hk
  ·by_cases hb:b=a
   ·exact .inr ⟨_,_,if_pos hb⟩
   ·exact .inl (if_neg hb)
  ·by_cases hb:b=a
   ·have z':=(if_pos hb).symm.trans z
    cases z'
    subst hb
    exact ⟨ha,by rw [List.length_map];exact hl,vs,_,rv,ha⟩
   ·have z':=(if_neg hb).symm.trans z
    cases z'
  ·by_cases hb:b=a
   ·exact hb
   ·exact absurd (if_neg hb) z
end L2
namespace L2
open PySem PySem.Spec PyProof.Rows
theorem walk_of {l:PySem.W.OpenLaw}{n k:Nat}{q:Program}{loose:List Str}{XP:(Str->Option Value)->Heap->Prop}{YP:World->Heap->Prop}{d:DefRec}{K:Params->PySem.W.Frag}{CX:World->CXT}{sp:World->Sp}{x:Str}
  (hn:l.most=some n) (hn2:n<=sizeLine) (hdf:d.params.defaults=[]) (hr:Room k callerA)
  (hY:∀(w:World) (h:Heap),YP w h->(K w.params).In h)
  (F:∀(w:World) (mg:Str->Option Value) (fa:Addr) (h:Heap),(K w.params).In h->h.Ns mainGlobals mg->mg d.name=some (.ref fa) ->
   ∃fd:FuncData,(∀(s:Shared) (u:Value),BindsTo s fd ⟨[u],[]⟩ [(x,u)]) /\
    ∀base:Heap,(K w.params).In base->base.Ns mainGlobals mg->FnOk l.prog w (K w.params) mg base (CX w) k fa fd [x] (sp w))
  (hsp:∀(w:World) (H:Hp) (a:Addr) (ns:List Int),ns.length<=n->zin H->SqL (K w.params) H a (ns.map V.int)->sp w [.ref a] H (fun v _=>v=.bl true) fun _ _ _=>False)
  (hCX:∀(w:World) (H:Hp) (s:Shared) (e:Value) (s':Shared),CX w [] H s (fun _ _ _=>False) e s'->False) :
  PySem.W.WalkO q loose XP YP l.row.toRowW d [] (fun f vs=>PySem.call f vs):=by
 refine Att.attach_call hn hdf fun w s₀ s₁ mg mb fa o pm cd doc a vs ns G Y ho hd hcd hmg hobj hints hlen hg=>?_
 have KX:=hY w _ Y
 obtain ⟨fd,hb,hF⟩:=F w mg fa _ KX G.T.g hmg
 exact zxm KX G.T.g G.T.b G.T.builtins G.T.nolimit hg hobj hints (Nat.le_trans hlen hn2) hr hF hb (fun H hO hS=>hsp w H a ns hlen hO hS) fun H e s'=>hCX w H s₁ e s'
end L2
namespace L2
open PySem PySem.Spec PyProof.Rows
noncomputable def zbr (s:Stmt):Arguments:=match s with
 | .FunctionDef _ a _ _ _ _ _ _ _ _=>a
 | _=>{ posonlyargs:=[],args:=[],vararg:=none,kwonlyargs:=[],kw_defaults:=[],kwarg:=none,defaults:=[] }
noncomputable def zbm (s:Stmt):List Stmt:=match s with
 | .FunctionDef _ _ b _ _ _ _ _ _ _=>b
 | _=>[]
noncomputable def zat (s:Stmt):Scope:=match s with
 | .FunctionDef _ _ _ _ _ _ sc _ _ _=>sc
 | _=>{ kind:=.function,names:=[],isGenerator:=false,isCoroutine:=false }
noncomputable abbrev CX0:CXT:=fun _ _ _ _ _ _=>False
noncomputable abbrev E0:XK:=fun _ _ _=>False
theorem zox {X:Cx}:zkl CX0 X E0:=fun _ _ _ _ _ _ _ h=>h.elim
structure Fun (K:PySem.W.Frag) (x qual:Str) (st:Stmt) (f:Addr) (fd:FuncData):Prop where
 ex:∃(oc:Value) (od:Option Addr) (kV doc pm:Value) (an:Option Addr) (cdv ct:Value) (osl:Array (Option Value)),
  fd=PySem.W.fnOf x qual (zbr st) (zbm st) (zat st) .none kV doc pm an cdv ct/\K.lookup f=some ⟨oc,od,.func fd,osl⟩/\PySem.W.codeIn K cdv qual=true
 kp:PySem.W.keepIn K (.ref f)=true
section
variable {P:Program}{w:World}{K:PySem.W.Frag}{mg:Str->Option Value}{base:Heap}
theorem Fun.binds {x qual:Str}{st:Stmt}{f:Addr}{fd:FuncData}{ps:List Str}(F:Fun K x qual st f fd)
  (h:∀(kV doc pm:Value) (an:Option Addr) (cdv ct:Value) (us:List Value),us.length=ps.length->bindArgs (PySem.W.fnOf x qual (zbr st) (zbm st) (zat st) .none kV doc pm an cdv ct) ⟨us,[]⟩=pure (ps.zip us)):Binds K fd ps []:=by
 obtain ⟨oc,od,kV,doc,pm,an,cdv,ct,osl,rfl,lk,hcd⟩:=F.ex
 exact .all (h kV doc pm an cdv ct)
theorem zb8 {x qual:Str}{st:Stmt}{f:Addr}{oc:Value}{od an:Option Addr}{osl:Array (Option Value)}{kV doc pm cdv ct:Value}(l:K.lookup f=some ⟨oc,od,.func (PySem.W.fnOf x qual (zbr st) (zbm st) (zat st) .none kV doc pm an cdv ct),osl⟩)
  (c:PySem.W.codeIn K cdv qual=true) (k:PySem.W.keepIn K (.ref f)=true):Fun K x qual st f (PySem.W.fnOf x qual (zbr st) (zbm st) (zat st) .none kV doc pm an cdv ct):=⟨⟨oc,od,kV,doc,pm,an,cdv,ct,osl,rfl,l,c⟩,k⟩
end
section
variable {X:Cx}
end
theorem zee {A B:Prop}(h:B):if false=true then A else B:=by
 rw [if_neg Bool.false_ne_true]
 exact h
theorem zef {A B:Prop}(h:A):if true=true then A else B:=by
 rw [if_pos rfl]
 exact h
noncomputable def Same (H H':Hp):Prop:=∀b o,H b=some o->H' b=some o
theorem Same.free {H H':Hp}(e:Same H H') {l:Addr}(h:H' l=Option.none):H l=Option.none:=by
 cases q:H l with
 | none=>rfl
 | some o =>
  rw [e l o q] at h
  cases h
theorem Same.seq {K:PySem.W.Frag}{H H':Hp}{a:Addr}{xs:List V}(e:Same H H') (h:SqL K H a xs):SqL K H' a xs:=by
 rcases h with (h|⟨o,h⟩)|h
 ·exact .inl (.inl (e _ _ h))
 ·exact .inl (.inr ⟨o,e _ _ h⟩)
 ·exact .inr h
end L2
namespace L2
open PySem PySem.Spec PyProof.Rows
section
variable {κ:Type} [DecidableEq κ]
noncomputable def zbv (kvs:List (κ × V)) (k:κ):Option V:=(kvs.find? fun kv=>decide (kv.1=k)).map (·.2)
noncomputable def zbs (kvs:List (κ × V)) (k:κ) (v:V):List (κ × V) :=
 if (kvs.any fun kv=>decide (kv.1=k))=true then kvs.map (fun kv=>if kv.1=k then (kv.1,v) else kv) else kvs++[(k,v)]
noncomputable def zoy (kvs:List (κ × V)) (k:κ):List (κ × V):=kvs.filter fun kv=>decide (kv.1≠k)
theorem zg9 {p:κ × V}{r:List (κ × V)}{k:κ}(e:p.1=k):zbv (p :: r) k=some p.2:=by simp [zbv,List.find?_cons,e]
theorem zha {p:κ × V}{r:List (κ × V)}{k:κ}(e:¬p.1=k):zbv (p :: r) k=zbv r k:=by simp [zbv,List.find?_cons,e]
theorem zoz (k:κ):∀kvs:List (κ × V),(kvs.any fun kv=>decide (kv.1=k))=(zbv kvs k).isSome
 | []=>rfl
 | p :: r=>by
  rw [List.any_cons]
  by_cases e:p.1=k
  ·simp only [zg9 e,decide_eq_true e,Bool.true_or,Option.isSome_some]
  ·rw [zha e,decide_eq_false e,Bool.false_or];exact zoz k r
theorem zio (kvs:List (κ × V)) (k:κ) (v:V):(zbs kvs k v).length<=kvs.length+1:=by
 unfold zbs
 split
 ·rw [List.length_map];omega
 ·rw [List.length_append,List.length_cons,List.length_nil];omega
theorem RelO.isSome_eq {o:Option V}{u:Option Value}(r:RelO o u):o.isSome=u.isSome:=by
 cases o with
 | none=>cases u with
  | none=>rfl
  | some _=>exact (show False from r).elim
 | some _=>cases u with
  | none=>exact (show False from r).elim
  | some _=>rfl
theorem RelO.getD {o:Option V}{u:Option Value}{d:V}{d':Value}(r:RelO o u) (rd:RelV d d'):RelV (o.getD d) (u.getD d'):=by
 cases o with
 | none=>cases u with
  | none=>exact rd
  | some _=>exact (show False from r).elim
 | some _=>cases u with
  | none=>exact (show False from r).elim
  | some _=>exact r
theorem KV.val {kvs:List (κ × V)}{vs:List (κ × Value)}(r:KV kvs vs) (k:κ):RelO (zbv kvs k) (valueAt vs k):=by
 unfold KV at r
 induction r with
 | nil=>exact True.intro
 | @cons p q ps qs h t ih =>
  obtain ⟨h1,h2⟩:=h
  by_cases e:p.1=k
  ·have e':q.1=k:=h1.symm.trans e
   have b:valueAt (q :: qs) k=some q.2:=by simp [valueAt,List.find?_cons,e']
   rw [zg9 e,b];exact h2
  ·have e':¬q.1=k:=fun z=>e (h1.trans z)
   have b:valueAt (q :: qs) k=valueAt qs k:=by simp [valueAt,List.find?_cons,e']
   rw [zha e,b];exact ih
theorem KV.any {kvs:List (κ × V)}{vs:List (κ × Value)}(r:KV kvs vs) (k:κ):(kvs.any fun kv=>decide (kv.1=k))=vs.any fun kv=>decide (kv.1=k):=by
 unfold KV at r
 induction r with
 | nil=>rfl
 | cons h t ih=>rw [List.any_cons,List.any_cons,ih,h.1]
theorem KV.repl {kvs:List (κ × V)}{vs:List (κ × Value)}(r:KV kvs vs) (k:κ) {y:V}{u:Value}(ry:RelV y u) :
  KV (kvs.map fun kv=>if kv.1=k then (kv.1,y) else kv) (vs.map fun kv=>if kv.1=k then (kv.1,u) else kv):=by
 unfold KV at r ⊢
 induction r with
 | nil=>exact .nil
 | @cons p q ps qs h t ih =>
  rw [List.map_cons,List.map_cons]
  refine .cons ?_ ih
  obtain ⟨h1,h2⟩:=h
  by_cases e:p.1=k
  ·rw [if_pos e,if_pos (h1.symm.trans e)];exact ⟨h1,ry⟩
  ·rw [if_neg e,if_neg (fun z=>e (h1.trans z))];exact ⟨h1,h2⟩
theorem KV.put {kvs:List (κ × V)}{vs:List (κ × Value)}(r:KV kvs vs) (k:κ) {y:V}{u:Value}(ry:RelV y u):KV (zbs kvs k y) (stored vs k u):=by
 unfold zbs stored
 rw [r.any k]
 by_cases e:(vs.any fun kv=>decide (kv.1=k))=true
 ·rw [if_pos e,if_pos e];exact r.repl k ry
 ·rw [if_neg e,if_neg e];exact Paired.snoc r ⟨rfl,ry⟩
theorem KV.drop {kvs:List (κ × V)}{vs:List (κ × Value)}(r:KV kvs vs) (k:κ):KV (zoy kvs k) (without vs k):=by
 unfold KV at r ⊢
 unfold zoy without
 induction r with
 | nil=>exact .nil
 | @cons p q ps qs h t ih =>
  obtain ⟨h1,h2⟩:=h
  rw [List.filter_cons,List.filter_cons]
  by_cases e:p.1=k
  ·have a:¬decide (p.1≠k)=true:=by simp [e]
   have b:¬decide (q.1≠k)=true:=by simp [h1.symm.trans e]
   rw [if_neg a,if_neg b];exact ih
  ·have e':¬q.1=k:=fun z=>e (h1.trans z)
   have a:decide (p.1≠k)=true:=by simp [e]
   have b:decide (q.1≠k)=true:=by simp [e']
   rw [if_pos a,if_pos b];exact .cons ⟨h1,h2⟩ ih
theorem KV.length {kvs:List (κ × V)}{vs:List (κ × Value)}(r:KV kvs vs):kvs.length=vs.length:=Paired.length r
end
theorem zhb {P:Program}{w:World}{k:Key}{u:Value}(r:RelV (kV k) u):(zca P w).is k u=true:=by
 cases k with
 | inl i=>obtain ⟨t,e⟩:=(show ∃t,u=Value.int i t from r);subst e;exact zug P w i t
 | inr x=>obtain ⟨t,e⟩:=(show ∃t,u=Value.str x t from r);subst e;exact zuh P w x t
theorem zo0 {P:Program}{w:World}:∀{ks:List Key}{us:List Value},Vals (ks.map kV) us->ItemsAre (zca P w) ks us
 | [],_,r=>by rw [List.map_nil] at r;cases r;exact .nil
 | k :: ks,_,r=>by
  rw [List.map_cons] at r
  cases r with
  | cons h t=>exact .cons (zhb h) (zo0 t)
noncomputable abbrev KT (H:Hp):List (List Key × V)->List (List Key × Addr × Value)->Prop:=Paired fun p q=>p.1=q.1/\H q.2.1=some (.tup (p.1.map kV))/\RelV p.2 q.2.2
theorem KT.val {H:Hp}{kvs:List (List Key × V)}{xs:List (List Key × Addr × Value)}(r:KT H kvs xs) (k:List Key):RelO (zbv kvs k) ((atKey xs k).map (·.2)):=by
 induction r with
 | nil=>exact True.intro
 | @cons p q ps qs h t ih =>
  obtain ⟨h1,_,h2⟩:=h
  by_cases e:p.1=k
  ·have e':q.1=k:=h1.symm.trans e
   have b:atKey (q :: qs) k=some q.2:=by simp [atKey,List.find?_cons,e']
   rw [zg9 e,b];exact h2
  ·have e':¬q.1=k:=fun z=>e (h1.trans z)
   have b:atKey (q :: qs) k=atKey qs k:=by simp [atKey,List.find?_cons,e']
   rw [zha e,b];exact ih
theorem KT.repl {H:Hp}{kvs:List (List Key × V)}{xs:List (List Key × Addr × Value)}(r:KT H kvs xs) (k:List Key) {y:V}{u:Value}(ry:RelV y u) :
  KT H (kvs.map fun kv=>if kv.1=k then (kv.1,y) else kv) (xs.map (putAt k u)):=by
 induction r with
 | nil=>exact .nil
 | @cons p q ps qs h t ih =>
  rw [List.map_cons,List.map_cons]
  refine .cons ?_ ih
  obtain ⟨h1,h2,h3⟩:=h
  unfold putAt
  by_cases e:p.1=k
  ·rw [if_pos e,if_pos (h1.symm.trans e)];exact ⟨h1,h2,ry⟩
  ·rw [if_neg e,if_neg (fun z=>e (h1.trans z))];exact ⟨h1,h2,h3⟩
theorem KT.put {H:Hp}{kvs:List (List Key × V)}{xs:List (List Key × Addr × Value)}(r:KT H kvs xs) (k:List Key) {b:Addr}{y:V}{u:Value}(hb:H b=some (.tup (k.map kV))) (ry:RelV y u) :
  KT H (zbs kvs k y) (storedH xs k b u):=by
 have e:(kvs.any fun kv=>decide (kv.1=k))=(atKey xs k).isSome:=by
  rw [zoz,(r.val k).isSome_eq,Option.isSome_map]
 unfold zbs storedH
 rw [e]
 by_cases q:(atKey xs k).isSome=true
 ·rw [if_pos q,if_pos q];exact r.repl k ry
 ·rw [if_neg q,if_neg q];exact Paired.snoc r ⟨rfl,hb,ry⟩
theorem KT.keeps {H H':Hp}{kvs:List (List Key × V)}{xs:List (List Key × Addr × Value)}(r:KT H kvs xs) (ht:∀b ys,H b=some (.tup ys)->H' b=some (.tup ys)):KT H' kvs xs :=
 Paired.mapP r fun _ _ z=>⟨z.1,ht _ _ z.2.1,z.2.2⟩
section
variable {P:Program}{w:World}{H:Hp}{h:Heap}{a:Addr}
theorem zo1 {u:HO}(ok:HOk P w H h) (e:Rd H a u):ObjOk P w H h a u:=e.ok ok
theorem zhc {kvs:List (Key × V)}(ok:HOk P w H h) (e:Rd H a (.dK kvs)):kvs.length<=sizeLine/\(a == sysModules)=false/\∃vs,KV kvs vs/\h.DictOf (zca P w) a vs :=
 show ObjOk P w H h a (.dK kvs) from zo1 ok e
theorem zxn {kvs:List (Key × V)}(ok:HOk P w H h) (e:H a=some (.dK kvs)):kvs.length<=sizeLine/\(a == sysModules)=false/\∃vs,KV kvs vs/\h.DictOf (zca P w) a vs:=zhc ok (.inl e)
theorem zfa {ks:List Key}(ok:HOk P w H h) (e:H a=some (.tup (ks.map kV))):(tupleKind (zca P w)).is h ks a:=by
 obtain ⟨_,its,r,o,h1,h2,n,h3⟩:=(show ObjOk P w H h a (.tup (ks.map kV)) from ok a _ e)
 exact ⟨o,its.toArray,n,h1,h2,h3,by simpa using zo0 r⟩
theorem zf2 {kvs:List (List Key × V)}(ok:HOk P w H h) (e:Rd H a (.dT kvs)):kvs.length<=sizeLine/\(a == sysModules)=false /\
  ∃xs,KT H kvs xs/\h.DictOfH (tupleKind (zca P w)) a xs:=by
 obtain ⟨z,y,xs,r,o,es,ep,h1,h2,h3,h4,h5⟩:=(show ObjOk P w H h a (.dT kvs) from zo1 ok e)
 refine ⟨z,y,xs,r,o,es,ep,h1,h2,h3,h4,fun x hx=>?_,h5⟩
 have all:∀{l:List (List Key × V)} {m:List (List Key × Addr × Value)},KT H l m->∀x∈m,(tupleKind (zca P w)).is h x.1 x.2.1:=by
  intro l m q
  induction q with
  | nil=>intro x hx;exact nomatch hx
  | @cons p q ps qs hq t ih =>
   intro x hx
   rcases List.mem_cons.mp hx with e|hx
   ·subst e
    exact zfa ok (by rw [←hq.1];exact hq.2.1)
   ·exact ih x hx
 exact all r x hx
theorem zko {kvs:List (List Key × V)}(ok:HOk P w H h) (e:H a=some (.dT kvs)):kvs.length<=sizeLine/\(a == sysModules)=false /\
  ∃xs,KT H kvs xs/\h.DictOfH (tupleKind (zca P w)) a xs:=zf2 ok (.inl e)
end
noncomputable def zep (H:Hp) (a:Addr) (y:V) (r:Option V):Prop :=
 (∃kvs k,Rd H a (.dK kvs)/\y=kV k/\r=zbv kvs k)∨∃kvs k b,Rd H a (.dT kvs)/\y=.ref b/\H b=some (.tup (k.map kV))/\r=zbv kvs k
noncomputable def DPut (H:Hp) (a:Addr) (y v:V) (H':Hp):Prop :=
 (∃kvs k,H a=some (.dK kvs)/\y=kV k/\kvs.length<sizeLine/\H' = upd H a (.dK (zbs kvs k v))) ∨
 ∃kvs k b,H a=some (.dT kvs)/\y=.ref b/\H b=some (.tup (k.map kV))/\kvs.length<sizeLine/\H' = upd H a (.dT (zbs kvs k v))
theorem DPut.k {H:Hp}{a:Addr}{kvs:List (Key × V)}{k:Key}{v:V}(e:H a=some (.dK kvs)) (hl:kvs.length<sizeLine):DPut H a (kV k) v (upd H a (.dK (zbs kvs k v))):=.inl ⟨kvs,k,e,rfl,hl,rfl⟩
theorem DPut.t {H:Hp}{a b:Addr}{kvs:List (List Key × V)}{k:List Key}{v:V}(e:H a=some (.dT kvs)) (eb:H b=some (.tup (k.map kV))) (hl:kvs.length<sizeLine) :
  DPut H a (.ref b) v (upd H a (.dT (zbs kvs k v))):=.inr ⟨kvs,k,b,e,rfl,eb,hl,rfl⟩
section
variable {X:Cx}{pins:List (Addr × Obj)}{σ:St}{H:Hp}{s:Shared}{a:Addr}{y v:V}{u r:Value}{o:Option V}{A:Around}{E:Value->Shared->Prop}
theorem Inv.big (I:Inv X pins σ H s):sysModules<s.heap.objs.size:=by
 have h:mainGlobals<s.heap.objs.size:=(I.mod.glob.keeps I.bk).lt
 exact Nat.lt_trans (by decide) h
theorem zxo {Q:Value->Shared->Prop}(hu:A.units+1<cLine) (I:Inv X pins σ H s) (g:zep H a y o) (ry:RelV y u) (h:∀s',Inv X pins σ H s'->Q (.bool o.isSome) s') :
  wpAny (model X.prog X.w) A (compareOp .In u (.ref a)) Q E s:=by
 rcases g with ⟨kvs,k,e,ey,l⟩|⟨kvs,k,b,e,ey,eb,l⟩
 ·subst ey
  obtain ⟨z,hd,vs,rel,dd⟩:=zhc I.hok e
  refine wpAny_in_of (zhb ry) hd dd.mapOf ?_
  rw [←(rel.val k).isSome_eq,←l]
  exact h _ (I.tok _)
 ·subst ey
  cases (show u=Value.ref b from ry)
  obtain ⟨z,hd,xs,rel,dd⟩:=zf2 I.hok e
  refine wpAny_in_heap (tupleKind_room_in1 hu) (zfa I.hok eb) hd dd ?_
  have q:=(rel.val k).isSome_eq
  rw [Option.isSome_map] at q
  rw [←q,←l]
  exact h _ (I.tok _)
theorem zxp {Q:Value->Shared->Prop}(hu:A.units+1<cLine) (I:Inv X pins σ H s) (g:zep H a y o) (ry:RelV y u) (h:∀s',Inv X pins σ H s'->Q (.bool (!o.isSome)) s') :
  wpAny (model X.prog X.w) A (compareOp .NotIn u (.ref a)) Q E s:=by
 rcases g with ⟨kvs,k,e,ey,l⟩|⟨kvs,k,b,e,ey,eb,l⟩
 ·subst ey
  obtain ⟨z,hd,vs,rel,dd⟩:=zhc I.hok e
  refine wpAny_notIn_of (zhb ry) hd dd.mapOf ?_
  rw [←(rel.val k).isSome_eq,←l]
  exact h _ (I.tok _)
 ·subst ey
  cases (show u=Value.ref b from ry)
  obtain ⟨z,hd,xs,rel,dd⟩:=zf2 I.hok e
  refine wpAny_notIn_heap (tupleKind_room_in1 hu) (zfa I.hok eb) hd dd ?_
  have q:=(rel.val k).isSome_eq
  rw [Option.isSome_map] at q
  rw [←q,←l]
  exact h _ (I.tok _)
theorem ziq {h':Heap}{t':Nat}{ob:HO}(I:Inv X pins σ H s) (mu:Mut (H a)) (hs:Heap.SameBut a s.heap h') (he:∃q,h'.get? a=some q) (new:ObjOk X.prog X.w (upd H a ob) h' a ob) :
  Inv X pins σ (upd H a ob) { s with heap:=h',toks:=t' } :=
 I.write (x:=a) (e:=a) mu (.inl rfl) (fun b q hb z=>(hs.2 b hb).trans z) he new
theorem zxq {P:Program}{w:World}{H':Hp}{h':Heap}{kvs:List (Key × V)}{vs:List (Key × Value)}(z:kvs.length<=sizeLine) (hd:(a == sysModules)=false) (rel:KV kvs vs) (dd:h'.DictOf (zca P w) a vs) :
  ObjOk P w H' h' a (.dK kvs):=⟨z,hd,vs,rel,dd⟩
theorem zxr {H':Hp}{Q:Unit->Shared->Prop}(hu:A.units+1<cLine) (I:Inv X pins σ H s) (g:DPut H a y v H') (ry:RelV y u) (rv:RelV v r) (h:∀s',Inv X pins σ H' s'->Q () s') :
  wpAny (model X.prog X.w) A (setItem (.ref a) u r) Q E s:=by
 rcases g with ⟨kvs,k,e,ey,l,eH⟩|⟨kvs,k,b,e,ey,eb,l,eH⟩
 ·subst ey eH
  obtain ⟨z,hd,vs,rel,dd⟩:=zxn I.hok e
  have hz:vs.length<=sizeLine:=by rw [←rel.length];exact z
  have hl:(zbs kvs k v).length<=sizeLine:=by have:=zio kvs k v;omega
  refine wpAny_setItem_pairs (hsz:=hz) (zhb ry) dd fun h' dd' hs=>h _ ?_
  have he:∃q,h'.get? a=some q:=let ⟨q,_,_,hq,_⟩:=dd';⟨q,hq⟩
  exact ziq I (by rw [e];exact True.intro) hs he (zxq hl hd (rel.put k rv) dd')
 ·subst ey eH
  cases (show u=Value.ref b from ry)
  obtain ⟨z,hd,xs,rel,dd⟩:=zko I.hok e
  have hz:xs.length<=sizeLine:=by rw [←Paired.length rel];exact z
  have hl:(zbs kvs k v).length<=sizeLine:=by have:=zio kvs k v;omega
  refine wpAny_setItem_heap (hsz:=hz) (tupleKind_room_in1 hu) (zfa I.hok eb) dd fun h' dd' hs=>h _ ?_
  obtain ⟨q,es,ep,hq,h2,h3,h4,_,h5⟩:=dd'
  refine ziq I (by rw [e];exact True.intro) hs ⟨q,hq⟩ ⟨hl,hd,_,(rel.put k eb rv).keeps fun c ys ec=>?_,q,es,ep,hq,h2,h3,h4,h5⟩
  rw [zas (zcw ec e (fun z=>nomatch z))]
  exact ec
end
section
variable {X:Cx}{pins:List (Addr × Obj)}{σ:St}{H:Hp}{s:Shared}{a:Addr}{kvs:List (Key × V)}{k:Key}{u:Value}{A:Around}{E:Value->Shared->Prop}
end
noncomputable def zxs (td ty tv:TE):TS:=fun D σ H=>tv σ H fun v H1=>td σ H1 fun x H2=>ty σ H2 fun y H3=>∃a H4,x=.ref a/\DPut H3 a y v H4/\D.nx σ H4
section
variable {X:Cx}{o i e value:Expr}{pos pos' tpos:Pos}{td ty tv:TE}
theorem zxt (hu:X.A.units+1<cLine) (ho:PE X o td) (hi:PE X i ty) (hv:PE X value tv) (hs:swapsWith value (some (.Subscript o i pos')) pos.line X.env=pure false) :
  PS X (.Assign [.Subscript o i pos'] value pos) (zxs td ty tv):=by
 intro pins s σ H D I h
 refine wpAny_Assign_Subscript (thn (hv pins s σ H _ I h) fun r s1 ⟨v,H1,I1,rv,q1⟩=>thn (ho pins s1 σ H1 _ I1 q1) fun u s2 ⟨x,H2,I2,rx,q2⟩=>thn (hi pins s2 σ H2 _ I2 q2) fun iv s3 ⟨y,H3,I3,ry,a,H4,ex,g,q3⟩=>?_) hs
 subst ex
 obtain rfl:u=Value.ref a:=rx
 exact zxr hu I3 g ry rv fun s4 I4=>⟨σ,H4,I4,q3⟩
end
theorem zo2 {P:Program}{w:World}{H:Hp}(h:Heap) (hb:sysModules<h.objs.size):ObjOk P w H (h.push { cls:=.type "dict",data:=.dict #[] }) h.objs.size (.dT []) :=
 ⟨Nat.zero_le _,beq_eq_false_iff_ne.mpr (Ne.symm (Nat.ne_of_lt hb)),[],.nil,_,#[],0,Heap.get?_push_size _ rfl,⟨rfl,rfl,rfl⟩,rfl,rfl,List.nodup_nil⟩
noncomputable def zxu:TE:=fun _ H Q=>∀p,H p=none->Q (.ref p) (upd H p (.dT []))
section
variable {X:Cx}{pos:Pos}
theorem zxv:PE X (.Dict [] [] pos) zxu:=fun pins s σ H Q I h =>
 wpAny_Dict_empty ⟨.ref s.heap.objs.size,_,I.laid (a:=s.heap.objs.size) (o:=.dT []) (t':=s.toks) (fun _ _ q=>Heap.get?_push_of_some _ q) (Nat.le_refl _) (zo2 s.heap I.big),rfl,h _ (I.hok.fresh (Nat.le_refl _))⟩
end
structure M2 (X:Cx) (o:Expr) (m:Str) (apos:Pos) (e f:Expr) (cpos:Pos):Prop where
 base:attributeBase o m X.env (eval o X.env)=eval o X.env
 few:((backTo cpos (starEach [e,f] X.env)).all (fun x=>!x.1) && (backToKw cpos (keywordEach [] X.env)).all (fun x=>x.1.isSome)
  && decide (([e,f]:List Expr).length+([]:List Keyword).length+(if ([]:List Keyword).isEmpty then 0 else 1)<30))=true
 line:(apos.endLine == cpos.line)=true
 trees:backTo cpos (starEach [e,f] X.env)=[(false,eval e X.env),(false,eval f X.env)]
noncomputable def IsD (H:Hp) (a:Addr):Prop:=(∃kvs,Rd H a (.dK kvs))∨∃kvs,Rd H a (.dT kvs)
theorem zo3 {X:Cx}{pins:List (Addr × Obj)}{σ:St}{H:Hp}{s:Shared}{a:Addr}(I:Inv X pins σ H s) (d:IsD H a) :
  s.TypeIs (.ref a) "dict"/\(∀b,Value.ref a=.ref b->∃ob,s.heap.get? b=some ob/\ob.dict=none)/\(a == sysModules)=false:=by
 rcases d with ⟨kvs,e⟩|⟨kvs,e⟩
 ·obtain ⟨_,hd,vs,_,dd⟩:=zhc I.hok e
  refine ⟨dd.typeIs,fun b q=>?_,hd⟩
  cases q
  obtain ⟨ob,_,_,h1,h2,_⟩:=dd
  exact ⟨ob,h1,h2.2.1⟩
 ·obtain ⟨_,hd,xs,_,dd⟩:=zf2 I.hok e
  refine ⟨dd.typeIs,fun b q=>?_,hd⟩
  cases q
  obtain ⟨ob,_,_,h1,h2,_⟩:=dd
  exact ⟨ob,h1,h2.2.1⟩
section
variable {X:Cx}{pins:List (Addr × Obj)}{σ:St}{H:Hp}{s:Shared}{a:Addr}{y d:V}{u r:Value}{o:Option V}{A:Around}{E:Value->Shared->Prop}
theorem zxw {Q:Value->Shared->Prop}(hu:A.units+1<cLine) (I:Inv X pins σ H s) (g:zep H a y o) (ry:RelV y u) (rd:RelV d r) (h:∀w' s',Inv X pins σ H s'->RelV (o.getD d) w'->Q w' s') :
  wpAny (model X.prog X.w) A (call (.builtin "dict.get") [.ref a,u,r]) Q E s:=by
 rcases g with ⟨kvs,k,e,ey,l⟩|⟨kvs,k,b,e,ey,eb,l⟩
 ·subst ey
  obtain ⟨z,hd,vs,rel,dd⟩:=zhc I.hok e
  refine call_meetsIn PySem.F.slot_dict_get dd.typeIs PySem.F.entry_dict_get (PySem.F.args_dict_get_3 _ _ _) (meets_dict_get_default (zca X.prog X.w) a (zhb ry) hd r) ⟨_,dd.mapOf,h _ _ (I.tok _) ?_⟩
  rw [l]
  exact (rel.val k).getD rd
 ·subst ey
  cases (show u=Value.ref b from ry)
  obtain ⟨z,hd,xs,rel,dd⟩:=zf2 I.hok e
  refine call_meetsIn PySem.F.slot_dict_get dd.typeIs PySem.F.entry_dict_get (PySem.F.args_dict_get_3 _ _ _) (meetsH_dict_get_default (tupleKind (zca X.prog X.w)) a b hd r) ⟨tupleKind_room_in1 hu,k,xs,zfa I.hok eb,dd,h _ _ (I.tok _) ?_⟩
  rw [l]
  exact (rel.val k).getD rd
end
noncomputable def zxx (td ty tx:TE):TE:=fun σ H Q=>td σ H fun x H1=>∃a,x=.ref a/\IsD H1 a/\ty σ H1 fun y H2=>tx σ H2 fun z H3=>∃o,zep H3 a y o/\Q (o.getD z) H3
section
variable {X:Cx}{o e f:Expr}{apos cpos:Pos}{td ty tx:TE}
theorem zxy (hu:X.A.units+1<cLine) (ho:PE X o td) (he:PE X e ty) (hf:PE X f tx) (m:M2 X o "get" apos e f cpos):PE X (.Call (.Attribute o "get" apos) [e,f] [] cpos) (zxx td ty tx):=by
 intro pins s σ H Q I h
 refine wpAny_Call_method m.base m.few m.line PySem.F.plainAttrs_dict PySem.F.slot_dict_get PySem.F.type_dict_get (thn (ho pins s σ H _ I h) fun u s1 ⟨x,H1,I1,rx,a,ex,d,q1⟩=>?_)
 subst ex
 obtain rfl:u=Value.ref a:=rx
 obtain ⟨t1,t2,_⟩:=zo3 I1 d
 refine ⟨t1,t2,?_⟩
 rw [m.trees]
 refine Calls.callWith_builtin rfl (Calls.evalArgs_plain (Calls.spliced_cons (thn (he pins s1 σ H1 _ I1 q1) fun iv s2 ⟨y,H2,I2,ry,q2⟩ =>
  Calls.spliced_cons (thn (hf pins s2 σ H2 _ I2 q2) fun fv s3 ⟨z,H3,I3,rz,ov,g,q3⟩=>Calls.spliced_nil ?_))))
 exact zxw hu I3 g ry rz fun w' s4 I4 rw'=>⟨_,H3,I4,rw',q3⟩
end
section
variable {X:Cx}{pins:List (Addr × Obj)}{σ:St}{H:Hp}{s:Shared}{a:Addr}{kvs:List (Key × V)}{A:Around}{E:Value->Shared->Prop}
end
section
variable {X:Cx}{pins:List (Addr × Obj)}{σ:St}{H:Hp}{s:Shared}{a:Addr}{y:V}{u:Value}{A:Around}{E:Value->Shared->Prop}
end
end L2
namespace L2
open PySem PySem.Spec PyProof.Rows
section
variable {X:Cx}
end
section
variable {κ:Type} [DecidableEq κ]
end
end L2
namespace L3
noncomputable abbrev St:=L2.St
open PySem PySem.Spec PyProof.Rows L2
inductive D where
 | non|bl (b:Bool)|int (i:Int)|str (x:Str)|tup (xs:List D)|ref (n:Nat)|fn (a:Addr)
inductive Ob where
 | lst (xs:List D)|flst (xs:List D)|iset (f:Int->Bool) (n:Nat)|dct (kvs:List (Key × D))|fdct (kvs:List (Key × D))|tdct (kvs:List (List Key × D))|ftdct (kvs:List (List Key × D))|tset (ks:List (List Int))|fnc (x:Str)|exc (c:Str)
noncomputable def Ob.mut:Ob->Bool
 | .flst _=>false
 | .fnc _=>false
 | _=>true
noncomputable abbrev Sto:=List Ob
noncomputable abbrev Lo:=List (Option D)
mutual
inductive RD (ρ:List Addr) (H:Hp):D->V->Prop where
 | non:RD ρ H .non .non
 | bl (b:Bool):RD ρ H (.bl b) (.bl b)
 | int (i:Int):RD ρ H (.int i) (.int i)
 | str (x:Str):RD ρ H (.str x) (.str x)
 | tup {xs:List D} {a:Addr} {vs:List V}:H a=some (.tup vs)->RDs ρ H xs vs->RD ρ H (.tup xs) (.ref a)
 | ref {n:Nat} {a:Addr}:ρ[n]? = some a->RD ρ H (.ref n) (.ref a)
 | fn (a:Addr):RD ρ H (.fn a) (.ref a)
inductive RDs (ρ:List Addr) (H:Hp):List D->List V->Prop where
 | nil:RDs ρ H [] []
 | cons {x:D} {v:V} {xs:List D} {vs:List V}:RD ρ H x v->RDs ρ H xs vs->RDs ρ H (x :: xs) (v :: vs)
end
structure Ext0 (ρ:List Addr) (H:Hp) (ρ':List Addr) (H':Hp):Prop where
 pre:∀(n:Nat) (a:Addr),ρ[n]? = some a->ρ'[n]? = some a
 tup:∀a vs,H a=some (.tup vs)->H' a=some (.tup vs)
 frz:∀a o u,H a=some (.frz o u)->H' a=some (.frz o u)
structure Ext (ρ:List Addr) (H:Hp) (ρ':List Addr) (H':Hp):Prop extends Ext0 ρ H ρ' H' where
 out:∀a (vs:HO),H a=some vs->(∀n:Nat,ρ[n]?≠some a)->H' a=some vs/\∀n:Nat,ρ'[n]?≠some a
theorem Ext.refl (ρ:List Addr) (H:Hp):Ext ρ H ρ H:=⟨⟨fun _ _ h=>h,fun _ _ h=>h,fun _ _ _ h=>h⟩,fun _ _ h n=>⟨h,n⟩⟩
theorem Ext.trans {ρ ρ1 ρ2:List Addr}{H H1 H2:Hp}(a:Ext ρ H ρ1 H1) (b:Ext ρ1 H1 ρ2 H2):Ext ρ H ρ2 H2 :=
 ⟨⟨fun n x h=>b.pre n x (a.pre n x h),fun n x h=>b.tup n x (a.tup n x h),fun n o x h=>b.frz n o x (a.frz n o x h)⟩,fun x vs h n=>let ⟨h1,n1⟩:=a.out x vs h n;b.out x vs h1 n1⟩
section
variable {ρ ρ':List Addr}{H H':Hp}
mutual
theorem RD.mono0 (e:Ext0 ρ H ρ' H'):∀{d:D}{v:V},RD ρ H d v->RD ρ' H' d v
 | _,_,.non=>.non
 | _,_,.bl b=>.bl b
 | _,_,.int i=>.int i
 | _,_,.str x=>.str x
 | _,_,.tup h r=>.tup (e.tup _ _ h) (RDs.mono0 e r)
 | _,_,.ref h=>.ref (e.pre _ _ h)
 | _,_,.fn a=>.fn a
theorem RDs.mono0 (e:Ext0 ρ H ρ' H'):∀{d:List D}{v:List V},RDs ρ H d v->RDs ρ' H' d v
 | _,_,.nil=>.nil
 | _,_,.cons r q=>.cons (RD.mono0 e r) (RDs.mono0 e q)
end
theorem RD.mono {d:D}{v:V}(r:RD ρ H d v) (e:Ext ρ H ρ' H'):RD ρ' H' d v:=r.mono0 e.toExt0
theorem RDs.mono {d:List D}{v:List V}(r:RDs ρ H d v) (e:Ext ρ H ρ' H'):RDs ρ' H' d v:=r.mono0 e.toExt0
theorem RDs.length:∀{d:List D}{v:List V},RDs ρ H d v->d.length=v.length
 | _,_,.nil=>rfl
 | _,_,.cons _ q=>congrArg (· + 1) (RDs.length q)
theorem RDs.get:∀{d:List D}{v:List V}{i:Nat}{x:D},RDs ρ H d v->d[i]? = some x->∃u,v[i]? = some u/\RD ρ H x u
 | _,_,_,_,.nil,e=>by simp at e
 | _,_,0,_,.cons r _,e=>by simp at e;subst e;exact ⟨_,rfl,r⟩
 | _,_,i+1,x,.cons _ q,e=>by
  obtain ⟨u,h1,h2⟩:=RDs.get (i:=i) (x:=x) q (by simpa using e)
  exact ⟨u,by simpa using h1,h2⟩
theorem RDs.set {x:D}{u:V}(r:RD ρ H x u):∀{d:List D}{v:List V}(i:Nat),RDs ρ H d v->RDs ρ H (d.set i x) (v.set i u)
 | _,_,_,.nil=>.nil
 | _,_,0,.cons _ q=>.cons r q
 | _,_,i+1,.cons p q=>.cons p (RDs.set r i q)
theorem RDs.append:∀{d e:List D}{v w:List V},RDs ρ H d v->RDs ρ H e w->RDs ρ H (d++e) (v++w)
 | _,_,_,_,.nil,q=>q
 | _,_,_,_,.cons r p,q=>.cons r (RDs.append p q)
theorem RDs.take:∀{d:List D}{v:List V}(n:Nat),RDs ρ H d v->RDs ρ H (d.take n) (v.take n)
 | _,_,0,_=>.nil
 | _,_,_+1,.nil=>.nil
 | _,_,n+1,.cons r t=>.cons r (RDs.take n t)
theorem RDs.drop:∀{d:List D}{v:List V}(n:Nat),RDs ρ H d v->RDs ρ H (d.drop n) (v.drop n)
 | _,_,0,r=>r
 | _,_,_+1,.nil=>.nil
 | _,_,n+1,.cons _ t=>RDs.drop n t
theorem RDs.reverse:∀{d:List D}{v:List V},RDs ρ H d v->RDs ρ H d.reverse v.reverse
 | _,_,.nil=>.nil
 | _,_,.cons r t=>by rw [List.reverse_cons,List.reverse_cons];exact RDs.append (RDs.reverse t) (.cons r .nil)
theorem RDs.rep {xs:List D}{us:List V}(h:RDs ρ H xs us):∀k:Nat,RDs ρ H (List.replicate k xs).flatten (List.replicate k us).flatten
 | 0=>.nil
 | k+1=>by
  rw [List.replicate_succ,List.replicate_succ,List.flatten_cons,List.flatten_cons]
  exact RDs.append h (RDs.rep h k)
theorem RDs.one {x:D}{vs:List V}(h:RDs ρ H [x] vs):∃v,vs=[v]/\RD ρ H x v:=by
 cases h with
 | cons r q=>cases q;exact ⟨_,rfl,r⟩
theorem RDs.two {x y:D}{vs:List V}(h:RDs ρ H [x,y] vs):∃v u,vs=[v,u]/\RD ρ H x v/\RD ρ H y u:=by
 cases h with
 | cons r q=>obtain ⟨u,rfl,r2⟩:=q.one;exact ⟨_,_,rfl,r,r2⟩
end
noncomputable def Fz (K:PySem.W.Frag) (H:Hp) (a:Addr) (xs:List V):Prop:=(∃o,H a=some (.frz o (.lst xs))) ∨
  ∃(o:Obj) (its:Array Value) (n:Nat),K.lookup a=some o/\o.cls=.type "list"/\o.dict=none/\o.data=.seq its n/\its.size<=sizeLine/\Vals xs its.toList
theorem Fz.sq {K:PySem.W.Frag}{H:Hp}{a:Addr}{xs:List V}(h:Fz K H a xs):SqL K H a xs:=by
 rcases h with ⟨o,h⟩|h
 ·exact .inl (.inr ⟨o,h⟩)
 ·exact .inr h
noncomputable def ObR (K:PySem.W.Frag) (ρ:List Addr) (H:Hp):Ob->Addr->Prop
 | .lst xs,a=>∃vs,H a=some (.lst vs)/\RDs ρ H xs vs
 | .flst xs,a=>∃vs,Fz K H a vs/\RDs ρ H xs vs
 | .iset f n,a=>H a=some (.set f n)
 | .dct kvs,a=>∃vs,H a=some (.dK ((kvs.map (·.1)).zip vs))/\RDs ρ H (kvs.map (·.2)) vs
 | .fdct kvs,a=>∃o vs,H a=some (.frz o (.dK ((kvs.map (·.1)).zip vs)))/\RDs ρ H (kvs.map (·.2)) vs
 | .tdct kvs,a=>∃vs,H a=some (.dT ((kvs.map (·.1)).zip vs))/\RDs ρ H (kvs.map (·.2)) vs
 | .ftdct kvs,a=>∃o vs,H a=some (.frz o (.dT ((kvs.map (·.1)).zip vs)))/\RDs ρ H (kvs.map (·.2)) vs
 | .tset ks,a=>∃xs:List (List Int × Addr),ks=xs.map (·.1)/\H a=some (.ext (TS.TSet a xs))/\∀p∈xs,H p.2=some (.tup (p.1.map V.int))
 | .fnc x,a=>PySem.W.nsIn K mainGlobals x=some (some (.ref a))/\∃o,K.lookup a=some o
 | .exc c,a=>∃C,PySem.W.nsIn K mainGlobals c=some (some (.ref C))/\H a=some (.ext (fun h=>∃o,h.get? a=some o/\o.cls=.ref C))
structure Sim (K:PySem.W.Frag) (ρ:List Addr) (S:Sto) (H:Hp):Prop where
 len:ρ.length=S.length
 nd:∀(i j:Nat) (a:Addr) (o1 o2:Ob),ρ[i]? = some a->ρ[j]? = some a->S[i]? = some o1->S[j]? = some o2->o1.mut=true->o2.mut=true->i=j
 at':∀(n:Nat) (a:Addr) (o:Ob),ρ[n]? = some a->S[n]? = some o->ObR K ρ H o a
section
variable {K:PySem.W.Frag}{ρ ρ':List Addr}{H:Hp}{S:Sto}
theorem zcq {p:Addr}{o:HO}(hp:H p=none):Ext ρ H ρ (upd H p o) :=
 ⟨⟨fun _ _ h=>h,fun a vs h=>by rw [zas (zbp h hp)];exact h,fun a o vs h=>by rw [zas (zbp h hp)];exact h⟩,fun a vs h n=>⟨by rw [zas (zbp h hp)];exact h,n⟩⟩
theorem zf3 {p:Addr}{o:HO}{ys:List V}(hp:H p=some (.lst ys)):Ext0 ρ H ρ (upd H p o) :=
 ⟨fun _ _ h=>h,fun a vs h=>by rw [zas (zcw h hp (by intro z;cases z))];exact h,fun a o vs h=>by rw [zas (zcw h hp (by intro z;cases z))];exact h⟩
noncomputable def zdx (u:HO):Prop:=(∀vs,u≠.tup vs)/\∀o v,u≠.frz o v
theorem zo4 (ys:List V):zdx (.lst ys):=⟨fun _ z=>(by cases z),fun _ _ z=>(by cases z)⟩
theorem zdg {p:Addr}{o u:HO}(hp:H p=some u) (hu:zdx u):Ext0 ρ H ρ (upd H p o) :=
 ⟨fun _ _ h=>h,fun a vs h=>by rw [zas (zcw h hp (fun z=>hu.1 vs z.symm))];exact h,fun a o vs h=>by rw [zas (zcw h hp (fun z=>hu.2 o vs z.symm))];exact h⟩
theorem zf4 {p:Addr}{o u:HO}{n:Nat}(hn:ρ[n]? = some p) (hp:H p=some u) (hu:zdx u):Ext ρ H ρ (upd H p o) :=
 ⟨zdg hp hu,fun a vs h hm=>⟨by rw [zas (fun z=>hm n (by rw [z];exact hn))];exact h,hm⟩⟩
theorem zhd {p:Addr}{o:HO}{ys:List V}{n:Nat}(hn:ρ[n]? = some p) (hp:H p=some (.lst ys)):Ext ρ H ρ (upd H p o) :=
 ⟨zf3 hp,fun a vs h hm=>⟨by rw [zas (fun z=>hm n (by rw [z];exact hn))];exact h,hm⟩⟩
theorem ObR.laid {o:Ob}{a p:Addr}{u:HO}(h:ObR K ρ H o a) (hp:H p=none):ObR K ρ (upd H p u) o a:=by
 cases o with
 | lst xs =>
  obtain ⟨vs,e,r⟩:=h
  exact ⟨vs,by rw [zas (zbp e hp)];exact e,r.mono (zcq hp)⟩
 | flst xs =>
  obtain ⟨vs,e,r⟩:=h
  refine ⟨vs,?_,r.mono (zcq hp)⟩
  rcases e with ⟨o,e⟩|e
  ·exact .inl ⟨o,by rw [zas (zbp e hp)];exact e⟩
  ·exact .inr e
 | iset f n =>
  show upd H p u a=some (.set f n)
  have e:H a=some (.set f n):=h
  rw [zas (zbp e hp)];exact e
 | dct kvs =>
  obtain ⟨vs,e,r⟩:=h
  exact ⟨vs,by rw [zas (zbp e hp)];exact e,r.mono (zcq hp)⟩
 | fdct kvs =>
  obtain ⟨o,vs,e,r⟩:=h
  exact ⟨o,vs,by rw [zas (zbp e hp)];exact e,r.mono (zcq hp)⟩
 | tdct kvs =>
  obtain ⟨vs,e,r⟩:=h
  exact ⟨vs,by rw [zas (zbp e hp)];exact e,r.mono (zcq hp)⟩
 | ftdct kvs =>
  obtain ⟨o,vs,e,r⟩:=h
  exact ⟨o,vs,by rw [zas (zbp e hp)];exact e,r.mono (zcq hp)⟩
 | tset ks =>
  obtain ⟨xs,e0,e,r⟩:=h
  exact ⟨xs,e0,by rw [zas (zbp e hp)];exact e,fun p hq=>by rw [zas (zbp (r p hq) hp)];exact r p hq⟩
 | fnc x=>exact h
 | exc c =>
  obtain ⟨C,hc,e⟩:=h
  exact ⟨C,hc,by rw [zas (zbp e hp)];exact e⟩
theorem ObR.writtenG {o:Ob}{a p:Addr}{u u0:HO}(h:ObR K ρ H o a) (hp:H p=some u0) (hu:zdx u0) (hn:o.mut=true->a≠p):ObR K ρ (upd H p u) o a:=by
 cases o with
 | lst xs =>
  obtain ⟨vs,e,r⟩:=h
  exact ⟨vs,by rw [zas (hn rfl)];exact e,r.mono0 (zdg hp hu)⟩
 | flst xs =>
  obtain ⟨vs,e,r⟩:=h
  refine ⟨vs,?_,r.mono0 (zdg hp hu)⟩
  rcases e with ⟨o,e⟩|e
  ·exact .inl ⟨o,by rw [zas (zcw e hp (fun z=>hu.2 _ _ z.symm))];exact e⟩
  ·exact .inr e
 | iset f n =>
  show upd H p u a=some (.set f n)
  rw [zas (hn rfl)];exact h
 | dct kvs =>
  obtain ⟨vs,e,r⟩:=h
  exact ⟨vs,by rw [zas (hn rfl)];exact e,r.mono0 (zdg hp hu)⟩
 | tdct kvs =>
  obtain ⟨vs,e,r⟩:=h
  exact ⟨vs,by rw [zas (hn rfl)];exact e,r.mono0 (zdg hp hu)⟩
 | fdct kvs =>
  obtain ⟨o,vs,e,r⟩:=h
  exact ⟨o,vs,by rw [zas (hn rfl)];exact e,r.mono0 (zdg hp hu)⟩
 | ftdct kvs =>
  obtain ⟨o,vs,e,r⟩:=h
  exact ⟨o,vs,by rw [zas (hn rfl)];exact e,r.mono0 (zdg hp hu)⟩
 | tset ks =>
  obtain ⟨xs,e0,e,r⟩:=h
  exact ⟨xs,e0,by rw [zas (hn rfl)];exact e,fun p hq=>(zdg (ρ:=ρ) hp hu).tup _ _ (r p hq)⟩
 | fnc x=>exact h
 | exc c =>
  obtain ⟨C,hc,e⟩:=h
  exact ⟨C,hc,by rw [zas (hn rfl)];exact e⟩
theorem ObR.written {o:Ob}{a p:Addr}{u:HO}{ys:List V}(h:ObR K ρ H o a) (hp:H p=some (.lst ys)) (hn:o.mut=true->a≠p):ObR K ρ (upd H p u) o a:=h.writtenG hp (zo4 ys) hn
theorem ObR.more {o:Ob}{a:Addr}(h:ObR K ρ H o a) (e:Ext0 ρ H ρ' H):ObR K ρ' H o a:=by
 cases o with
 | lst xs=>obtain ⟨vs,e1,r⟩:=h;exact ⟨vs,e1,r.mono0 e⟩
 | flst xs=>obtain ⟨vs,e1,r⟩:=h;exact ⟨vs,e1,r.mono0 e⟩
 | iset f n=>exact h
 | dct kvs=>obtain ⟨vs,e1,r⟩:=h;exact ⟨vs,e1,r.mono0 e⟩
 | tdct kvs=>obtain ⟨vs,e1,r⟩:=h;exact ⟨vs,e1,r.mono0 e⟩
 | fdct kvs=>obtain ⟨o,vs,e1,r⟩:=h;exact ⟨o,vs,e1,r.mono0 e⟩
 | ftdct kvs=>obtain ⟨o,vs,e1,r⟩:=h;exact ⟨o,vs,e1,r.mono0 e⟩
 | tset ks=>exact h
 | fnc x=>exact h
 | exc c=>exact h
theorem Sim.laid (s:Sim K ρ S H) {p:Addr}{u:HO}(hp:H p=none):Sim K ρ S (upd H p u) :=
 ⟨s.len,s.nd,fun n a o h1 h2=>(s.at' n a o h1 h2).laid hp⟩
theorem Sim.lst {n:Nat}{xs:List D}(s:Sim K ρ S H) (h:S[n]? = some (.lst xs)):∃a vs,ρ[n]? = some a/\H a=some (.lst vs)/\RDs ρ H xs vs:=by
 have hl:n<ρ.length:=by rw [s.len];exact (List.getElem?_eq_some_iff.mp h).1
 obtain ⟨vs,e,r⟩:=s.at' n _ _ (List.getElem?_eq_getElem hl) h
 exact ⟨_,vs,List.getElem?_eq_getElem hl,e,r⟩
noncomputable def lstOf (S:Sto) (n:Nat):Option (List D):=match S[n]? with
 | some (.lst xs)=>some xs
 | some (.flst xs)=>some xs
 | _=>none
theorem Sim.lstOf {n:Nat}{xs:List D}(s:Sim K ρ S H) (h:L3.lstOf S n=some xs):∃a vs,ρ[n]? = some a/\SqL K H a vs/\RDs ρ H xs vs:=by
 unfold L3.lstOf at h
 cases e:S[n]? with
 | none=>rw [e] at h;cases h
 | some o =>
  have hl:n<ρ.length:=by rw [s.len];exact (List.getElem?_eq_some_iff.mp e).1
  have q:=s.at' n _ _ (List.getElem?_eq_getElem hl) e
  rw [e] at h
  cases o with
  | lst ys =>
   cases h
   obtain ⟨vs,e1,r⟩:=q
   exact ⟨_,vs,List.getElem?_eq_getElem hl,.inl (.inl e1),r⟩
  | flst ys =>
   cases h
   obtain ⟨vs,e1,r⟩:=q
   exact ⟨_,vs,List.getElem?_eq_getElem hl,e1.sq,r⟩
  | iset f n=>cases h
  | dct kvs=>cases h
  | fdct kvs=>cases h
  | ftdct kvs=>cases h
  | tset ks=>cases h
  | fnc x=>cases h
  | tdct kvs=>cases h
  | exc c=>cases h
theorem Sim.setG {n:Nat}{a:Addr}{o0 o1:Ob}{u0 u1:HO}(s:Sim K ρ S H) (ha:ρ[n]? = some a) (hS:S[n]? = some o0) (hm0:o0.mut=true) (hH:H a=some u0) (hu:zdx u0) (r:ObR K ρ (upd H a u1) o1 a):Sim K ρ (S.set n o1) (upd H a u1):=by
 have hl:n<S.length:=(List.getElem?_eq_some_iff.mp hS).1
 have key:∀(m:Nat) (w:Ob),w.mut=true->(S.set n o1)[m]? = some w->∃w',S[m]? = some w'/\w'.mut=true:=fun m w hw h=>by
  by_cases hmn:n=m
  ·subst hmn;exact ⟨_,hS,hm0⟩
  ·rw [List.getElem?_set_ne hmn] at h;exact ⟨_,h,hw⟩
 refine ⟨by rw [List.length_set];exact s.len,fun i j b x1 x2 h1 h2 h3 h4 m1 m2=>?_,fun m b o h1 h2=>?_⟩
 ·obtain ⟨_,h3,q3⟩:=key i x1 m1 h3
  obtain ⟨_,h4,q4⟩:=key j x2 m2 h4
  exact s.nd i j b _ _ h1 h2 h3 h4 q3 q4
 by_cases hmn:n=m
 ·subst hmn
  rw [ha] at h1;cases h1
  rw [List.getElem?_set_self hl] at h2
  cases h2
  exact r
 ·rw [List.getElem?_set_ne hmn] at h2
  exact (s.at' m b o h1 h2).writtenG hH hu (fun e z=>hmn (s.nd n m a _ _ ha (by rw [h1,z]) hS h2 hm0 e))
theorem Sim.set {n:Nat}{a:Addr}{ys:List V}{xs zs:List D}{vs:List V}(s:Sim K ρ S H) (ha:ρ[n]? = some a) (hS:S[n]? = some (.lst zs)) (hH:H a=some (.lst ys)) (r:RDs ρ H xs vs):Sim K ρ (S.set n (.lst xs)) (upd H a (.lst vs)) :=
 s.setG ha hS rfl hH (zo4 ys) ⟨vs,zb7,r.mono0 (zf3 hH)⟩
theorem ext0_push {a:Addr}:Ext0 ρ H (ρ++[a]) H :=
 ⟨fun n b h=>by rw [List.getElem?_append_left (List.getElem?_eq_some_iff.mp h).1];exact h,fun _ _ h=>h,fun _ _ _ h=>h⟩
theorem za8 {α:Type}{l:List α}{a b:α}{n:Nat}(h:(l++[a])[n]? = some b):l[n]? = some b∨(n=l.length/\b=a):=by
 by_cases hl:n<l.length
 ·rw [List.getElem?_append_left hl] at h;exact .inl h
 ·rw [List.getElem?_append_right (by omega)] at h
  have:n-l.length=0:=by
   have:=(List.getElem?_eq_some_iff.mp h).1
   simp at this;omega
  rw [this] at h;simp at h
  exact .inr ⟨by omega,h.symm⟩
theorem zo5 {a:Addr}{vs:List V}(ha:H a=none):Ext ρ H (ρ++[a]) (upd H a (.lst vs)) :=
 ⟨⟨ext0_push.pre (H:=H),fun b us h=>by rw [zas (zbp h ha)];exact h,fun b o us h=>by rw [zas (zbp h ha)];exact h⟩,fun b us h n=>⟨by rw [zas (zbp h ha)];exact h,fun i hi=>by
  rcases za8 hi with hi|⟨_,e⟩
  ·exact n i hi
  ·rw [e,ha] at h;cases h⟩⟩
theorem zo6 {a:Addr}{u:HO}(ha:H a=none):Ext ρ H (ρ++[a]) (upd H a u) :=
 ⟨⟨ext0_push.pre (H:=H),fun b us h=>by rw [zas (zbp h ha)];exact h,fun b o us h=>by rw [zas (zbp h ha)];exact h⟩,fun b us h n=>⟨by rw [zas (zbp h ha)];exact h,fun i hi=>by
  rcases za8 hi with hi|⟨_,e⟩
  ·exact n i hi
  ·rw [e,ha] at h;cases h⟩⟩
theorem Sim.pushG {a:Addr}{o1:Ob}{u:HO}(s:Sim K ρ S H) (ha:H a=none) (r:ObR K (ρ++[a]) (upd H a u) o1 a):Sim K (ρ++[a]) (S++[o1]) (upd H a u):=by
 have no:∀(n:Nat) (o:Ob),o.mut=true->ρ[n]? = some a->S[n]? = some o->False:=fun n o hm h1 h2=>by
  have q:=s.at' n a _ h1 h2
  cases o with
  | lst xs=>obtain ⟨vs,e,_⟩:=q;rw [ha] at e;cases e
  | flst xs=>cases hm
  | iset f n=>have q:H a=_:=q;rw [ha] at q;cases q
  | dct kvs=>obtain ⟨vs,e,_⟩:=q;rw [ha] at e;cases e
  | tdct kvs=>obtain ⟨vs,e,_⟩:=q;rw [ha] at e;cases e
  | fdct kvs=>obtain ⟨o,vs,e,_⟩:=q;rw [ha] at e;cases e
  | ftdct kvs=>obtain ⟨o,vs,e,_⟩:=q;rw [ha] at e;cases e
  | tset ks=>obtain ⟨xs,_,e,_⟩:=q;rw [ha] at e;cases e
  | fnc x=>cases hm
  | exc c=>obtain ⟨C,_,e⟩:=q;rw [ha] at e;cases e
 refine ⟨by simp [s.len],fun i j b x1 x2 h1 h2 h3 h4 m1 m2=>?_,fun n b o h1 h2=>?_⟩
 ·rcases za8 h3 with h3|⟨e3,_⟩ <;> rcases za8 h4 with h4|⟨e4,_⟩
  ·have l1:=(List.getElem?_eq_some_iff.mp h3).1
   have l2:=(List.getElem?_eq_some_iff.mp h4).1
   rcases za8 h1 with h1|⟨e1,f1⟩ <;> rcases za8 h2 with h2|⟨e2,f2⟩
   ·exact s.nd i j b _ _ h1 h2 h3 h4 m1 m2
   ·have:=s.len;omega
   ·have:=s.len;omega
   ·have:=s.len;omega
  ·have l1:=(List.getElem?_eq_some_iff.mp h3).1
   rcases za8 h2 with h2|⟨e2,f2⟩
   ·have:=(List.getElem?_eq_some_iff.mp h2).1;have:=s.len;omega
   ·subst f2
    rcases za8 h1 with h1|⟨e1,_⟩
    ·exact (no i _ m1 h1 h3).elim
    ·have:=s.len;omega
  ·have l1:=(List.getElem?_eq_some_iff.mp h4).1
   rcases za8 h1 with h1|⟨e2,f2⟩
   ·have:=(List.getElem?_eq_some_iff.mp h1).1;have:=s.len;omega
   ·subst f2
    rcases za8 h2 with h2|⟨e1,_⟩
    ·exact (no j _ m2 h2 h4).elim
    ·have:=s.len;omega
  ·omega
 ·rcases za8 h2 with h2|⟨e2,f2⟩
  ·rcases za8 h1 with h1|⟨e1,f1⟩
   ·exact ((s.at' n b o h1 h2).laid ha).more ext0_push
   ·have:=(List.getElem?_eq_some_iff.mp h2).1;have:=s.len;omega
  ·rcases za8 h1 with h1|⟨e1,f1⟩
   ·have:=(List.getElem?_eq_some_iff.mp h1).1;have:=s.len;omega
   ·subst f1 f2
    exact r
theorem Sim.push {a:Addr}{xs:List D}{vs:List V}(s:Sim K ρ S H) (ha:H a=none) (r:RDs ρ H xs vs):Sim K (ρ++[a]) (S++[.lst xs]) (upd H a (.lst vs)) :=
 s.pushG ha ⟨vs,zb7,r.mono (zo5 ha)⟩
theorem zdy {α:Type}(l:List α) (a:α):(l++[a])[l.length]? = some a:=by
 rw [List.getElem?_append_right (Nat.le_refl _)];simp
end
structure RO (ρ:List Addr) (H:Hp) (l:Lo) (σ:St):Prop where
 len:l.length=σ.length
 get:∀(i:Nat) (d:D),l[i]? = some (some d)->∃v,σ[i]? = some (some v)/\RD ρ H d v
theorem RO.mono {ρ ρ':List Addr}{H H':Hp}{l:Lo}{σ:St}(r:RO ρ H l σ) (e:Ext ρ H ρ' H'):RO ρ' H' l σ :=
 ⟨r.len,fun i d h=>let ⟨v,h1,h2⟩:=r.get i d h;⟨v,h1,h2.mono e⟩⟩
theorem RO.set {ρ:List Addr}{H:Hp}{l:Lo}{σ:St}{d:D}{v:V}(r:RO ρ H l σ) (i:Nat) (h:RD ρ H d v):RO ρ H (l.set i (some d)) (σ.set i (some v)):=by
 refine ⟨by simp [r.len],fun j x hj=>?_⟩
 by_cases hij:i=j
 ·subst hij
  have hl:i<l.length:=by have:=(List.getElem?_eq_some_iff.mp hj).1;simpa using this
  rw [List.getElem?_set_self hl] at hj
  cases hj
  exact ⟨v,List.getElem?_set_self (by rw [←r.len];exact hl),h⟩
 ·rw [List.getElem?_set_ne hij] at hj
  rw [List.getElem?_set_ne hij]
  exact r.get j x hj
noncomputable abbrev EM:=Lo->Sto->Option (D × Sto)
noncomputable abbrev TM:=Lo->Sto->Option (Bool × Sto)
noncomputable abbrev AM:=Lo->Sto->Option (List D × Sto)
noncomputable abbrev FM:=List D->Sto->Option (D × Sto)
inductive Fl where
 | nx|bk|ct|rt (d:D)
noncomputable abbrev SM:=Lo->Sto->Option (Fl × Lo × Sto)
noncomputable abbrev GM:=D->Lo->Sto->Option (Lo × Sto)
noncomputable abbrev GsM:=List D->Lo->Sto->Option (Lo × Sto)
noncomputable def Pv (K:PySem.W.Frag) (ρ:List Addr) (H:Hp) (v:D) (S:Sto) (Q:VK):Prop:=∀ρ' H' v',Ext ρ H ρ' H'->Sim K ρ' S H'->RD ρ' H' v v'->Q v' H'
theorem Pv.ext {K:PySem.W.Frag}{ρ ρ1:List Addr}{H H1:Hp}{v:D}{S:Sto}{Q:VK}(p:Pv K ρ H v S Q) (e:Ext ρ H ρ1 H1):Pv K ρ1 H1 v S Q:=fun ρ' H' v' e' s r=>p ρ' H' v' (e.trans e') s r
inductive te (K:PySem.W.Frag) (m:EM) (σ:St) (H:Hp) (Q:VK):Prop
 | mk (ρ:_) (l:_) (S:_) (v:_) (S':_) (_:Sim K ρ S H) (_:RO ρ H l σ) (_:m l S=some (v,S')) (_:Pv K ρ H v S' Q)
inductive tt (K:PySem.W.Frag) (m:TM) (σ:St) (H:Hp) (Q:Bool->Hp->Prop):Prop
 | mk (ρ:_) (l:_) (S:_) (v:_) (S':_) (_:Sim K ρ S H) (_:RO ρ H l σ) (_:m l S=some (v,S')) (_:∀ρ' H',Ext ρ H ρ' H'->Sim K ρ' S' H'->Q v H')
inductive ta (K:PySem.W.Frag) (m:AM) (σ:St) (H:Hp) (Q:List V->Hp->Prop):Prop
 | mk (ρ:_) (l:_) (S:_) (v:_) (S':_) (_:Sim K ρ S H) (_:RO ρ H l σ) (_:m l S=some (v,S')) (_:∀ρ' H' vs,Ext ρ H ρ' H'->Sim K ρ' S' H'->RDs ρ' H' v vs->Q vs H')
noncomputable def zfb (ρ:List Addr) (H:Hp) (E:Ends) (σ:St):Fl->Prop
 | .nx=>E.nx σ H
 | .bk=>E.bk σ H
 | .ct=>E.ct σ H
 | .rt d=>∀v,RD ρ H d v->E.rt v H
inductive ts (K:PySem.W.Frag) (m:SM) (E:Ends) (σ:St) (H:Hp):Prop
 | mk (ρ:_) (l:_) (S:_) (f:_) (l':_) (S':_) (_:Sim K ρ S H) (_:RO ρ H l σ) (_:m l S=some (f,l',S')) (_:∀ρ' H' σ',Ext ρ H ρ' H'->Sim K ρ' S' H'->RO ρ' H' l' σ'->zfb ρ' H' E σ' f)
inductive tg (K:PySem.W.Frag) (g:GM) (v:V) (σ:St) (H:Hp) (Q:St->Hp->Prop):Prop
 | mk (ρ:_) (l:_) (S:_) (d:_) (l':_) (S':_) (_:Sim K ρ S H) (_:RO ρ H l σ) (_:RD ρ H d v) (_:g d l S=some (l',S')) (_:∀ρ' H' σ',Ext ρ H ρ' H'->Sim K ρ' S' H'->RO ρ' H' l' σ'->Q σ' H')
inductive tgs (K:PySem.W.Frag) (g:GsM) (vs:List V) (σ:St) (H:Hp) (Q:St->Hp->Prop):Prop
 | mk (ρ:_) (l:_) (S:_) (ds:_) (l':_) (S':_) (_:Sim K ρ S H) (_:RO ρ H l σ) (_:RDs ρ H ds vs) (_:g ds l S=some (l',S')) (_:∀ρ' H' σ',Ext ρ H ρ' H'->Sim K ρ' S' H'->RO ρ' H' l' σ'->Q σ' H')
noncomputable def PE3 (X:Cx) (e:Expr) (m:EM):Prop:=PE X e (te X.K m)
noncomputable def PT3 (X:Cx) (e:Expr) (m:TM):Prop:=PT X e (tt X.K m)
noncomputable def PW3 (X:Cx) (e:Expr) (m:TM):Prop:=PW X e (tt X.K m)
noncomputable def PA3 (X:Cx) (es:List Expr) (m:AM):Prop:=PA X es (ta X.K m)
noncomputable def PS3 (X:Cx) (st:Stmt) (m:SM):Prop:=PS X st (ts X.K m)
noncomputable def zdh (X:Cx) (st:List Stmt) (m:SM):Prop:=PSs X st (ts X.K m)
noncomputable def PG3 (X:Cx) (tg':Expr) (m:GM):Prop:=PG X tg' (tg X.K m)
noncomputable def zir (X:Cx) (ts':List Expr) (m:GsM):Prop:=PGs X ts' (tgs X.K m)
theorem PE.imp {X:Cx}{e:Expr}{t u:TE}(h:PE X e t) (i:∀σ H Q,u σ H Q->t σ H Q):PE X e u:=fun pins s σ H Q I q=>h pins s σ H Q I (i _ _ _ q)
theorem PT.imp {X:Cx}{e:Expr}{t u:TT}(h:PT X e t) (i:∀σ H Q,u σ H Q->t σ H Q):PT X e u:=fun pins s σ H Q I q=>h pins s σ H Q I (i _ _ _ q)
theorem PW.imp {X:Cx}{e:Expr}{t u:TT}(h:PW X e t) (i:∀σ H Q,u σ H Q->t σ H Q):PW X e u:=fun wh pins s σ H Q I q=>h wh pins s σ H Q I (i _ _ _ q)
theorem PA.imp {X:Cx}{e:List Expr}{t u:TA}(h:PA X e t) (i:∀σ H Q,u σ H Q->t σ H Q):PA X e u:=fun pos pins s σ H Q I q=>h pos pins s σ H Q I (i _ _ _ q)
theorem PS.imp {X:Cx}{e:Stmt}{t u:TS}(h:PS X e t) (i:∀E σ H,u E σ H->t E σ H):PS X e u:=fun pins s σ H Q I q=>h pins s σ H Q I (i _ _ _ q)
theorem PSs.imp {X:Cx}{e:List Stmt}{t u:TS}(h:PSs X e t) (i:∀E σ H,u E σ H->t E σ H):PSs X e u:=fun pins s σ H Q I q=>h pins s σ H Q I (i _ _ _ q)
theorem PG.imp {X:Cx}{e:Expr}{t u:TG}(h:PG X e t) (i:∀v σ H Q,u v σ H Q->t v σ H Q):PG X e u:=fun pins s σ H v w Q I r q=>h pins s σ H v w Q I r (i _ _ _ _ q)
theorem PGs.imp {X:Cx}{e:List Expr}{t u:TGs}(h:PGs X e t) (i:∀v σ H Q,u v σ H Q->t v σ H Q):PGs X e u:=fun pins s σ H v w Q I r q=>h pins s σ H v w Q I r (i _ _ _ _ q)
inductive Bnd {α β:Type} (o:Option α) (f:α->Option β) (b:β):Prop
 | mk (a:α) (_:o=some a) (_:f a=some b)
theorem bnd {α β:Type}{o:Option α}{f:α->Option β}{b:β}(h:o.bind f=some b):Bnd o f b:=by
 obtain ⟨a,h1,h2⟩:=Option.bind_eq_some_iff.mp h
 exact ⟨a,h1,h2⟩
noncomputable def zaa (i:Nat):EM:=fun l S=>match l[i]? with
 | some (some d)=>some (d,S)
 | _=>none
noncomputable def eC (d:D):EM:=fun _ S=>some (d,S)
noncomputable def eOp (f:D->D->Sto->Option (D × Sto)) (a b:EM):EM:=fun l S=>(a l S).bind fun p=>(b l p.2).bind fun q=>f p.1 q.1 q.2
noncomputable def eUn (f:D->Sto->Option (D × Sto)) (a:EM):EM:=fun l S=>(a l S).bind fun p=>f p.1 p.2
noncomputable def zae:AM:=fun _ S=>some ([],S)
noncomputable def zac (a:EM) (r:AM):AM:=fun l S=>(a l S).bind fun p=>(r l p.2).bind fun q=>some (p.1 :: q.1,q.2)
noncomputable def zaf (f:FM) (as:AM):EM:=fun l S=>(as l S).bind fun p=>f p.1 p.2
noncomputable def tE (a:EM):TM:=fun l S=>(a l S).bind fun p=>match p.1 with
 | .bl b=>some (b,p.2)
 | _=>none
noncomputable def zck (a b:TM):TM:=fun l S=>(a l S).bind fun p=>if p.1=true then b l p.2 else some (false,p.2)
noncomputable def zdi (a b:TM):TM:=fun l S=>(a l S).bind fun p=>if p.1=true then some (true,p.2) else b l p.2
noncomputable def zeq (a:TM):TM:=fun l S=>(a l S).bind fun p=>some (!p.1,p.2)
noncomputable def zer (a b:EM):EM:=fun l S=>(a l S).bind fun p=>match p.1 with
 | .bl true=>b l p.2
 | .bl false=>some (.bl false,p.2)
 | _=>none
noncomputable def Op3 (K:PySem.W.Frag) (f:D->D->Sto->Option (D × Sto)) (r:R2):Prop :=
 ∀ρ S H x y x' y' v S' Q,Sim K ρ S H->RD ρ H x x'->RD ρ H y y'->f x y S=some (v,S')->Pv K ρ H v S' Q->r x' y' H Q
noncomputable def Fn3 (K:PySem.W.Frag) (f:FM) (r:List V->Hp->VK->Prop):Prop :=
 ∀ρ S H xs vs v S' Q,Sim K ρ S H->RDs ρ H xs vs->f xs S=some (v,S')->Pv K ρ H v S' Q->r vs H Q
noncomputable def Mt3 (K:PySem.W.Frag) (f:D->List D->Sto->Option (D × Sto)) (r:V->List V->Hp->VK->Prop):Prop :=
 ∀ρ S H x x' xs vs v S' Q,Sim K ρ S H->RD ρ H x x'->RDs ρ H xs vs->f x xs S=some (v,S')->Pv K ρ H v S' Q->r x' vs H Q
theorem zis {K:PySem.W.Frag}{f:D->D->Sto->Option (D × Sto)}{r:R2}(h:Op3 K f r) {a b:EM}(σ:St) (H:Hp) (Q:VK) (q:te K (eOp f a b) σ H Q):tOp r (te K a) (te K b) σ H Q:=by
 obtain ⟨ρ,l,S,v,S',sim,ro,hm,p⟩:=q
 obtain ⟨⟨x,S1⟩,h1,hm⟩:=bnd hm
 obtain ⟨⟨y,S2⟩,h2,hm⟩:=bnd hm
 exact ⟨ρ,l,S,x,S1,sim,ro,h1,fun ρ1 H1 x' e1 s1 r1=>⟨ρ1,l,S1,y,S2,s1,ro.mono e1,h2,fun ρ2 H2 y' e2 s2 r2=>h ρ2 S2 H2 x y x' y' v S' Q s2 (r1.mono e2) r2 hm (p.ext (e1.trans e2))⟩⟩
section
variable {X:Cx}{a b c:Expr}{es:List Expr}{ma mb:EM}{mA:AM}{pos:Pos}
theorem zab (i:Nat) {x:Str}(hN:X.N[i]? = some x:=by rfl) (hv:Vis X.env.scope x:=by first|exact Or.inl rfl|exact Or.inr (Or.inl rfl)|exact Or.inr (Or.inr rfl)) (hd:(x == ("__debug__":Str))=false:=by decide)
  (hcd:(x == ("__classdict__":Str))=false:=by decide):PE3 X (.Name x pos) (zaa i) :=
 PE.imp (zuo hN hv hd hcd) fun σ H Q hx1_=>by
  obtain ⟨ρ,l,S,v,S',sim,ro,hm,p⟩:=hx1_
  unfold zaa at hm
  split at hm
  ·rename_i d e
   cases hm
   obtain ⟨w,h1,h2⟩:=ro.get i _ e
   exact ⟨w,h1,p ρ H w (Ext.refl ..) sim h2⟩
  ·cases hm
theorem zkp {K:PySem.W.Frag}{d:D}{v:V}(h:∀ρ H,RD ρ H d v) (σ:St) (H:Hp) (Q:VK) (q:te K (eC d) σ H Q):tC v σ H Q:=by
 obtain ⟨ρ,l,S,w,S',sim,ro,hm,p⟩:=q
 cases hm
 exact p ρ H v (Ext.refl ..) sim (h ρ H)
theorem zak {i j}:PE3 X (.Constant (.int i) j pos) (eC (.int i)):=PE.imp zup (zkp fun _ _=>.int i)
theorem zdz {i j}:PE3 X (.Constant (.bool i) j pos) (eC (.bl i)):=PE.imp zuq (zkp fun _ _=>.bl i)
theorem zcc {j}:PE3 X (.Constant .none j pos) (eC .non):=PE.imp zur (zkp fun _ _=>.non)
theorem zhe {op:Operator}{f:D->D->Sto->Option (D × Sto)}{r:R2}(ho:OpR X (binaryOp op) r) (h3:Op3 X.K f r) (ha:PE3 X a ma) (hb:PE3 X b mb):PE3 X (.BinOp a op b pos) (eOp f ma mb):=PE.imp (zv6 ho ha hb) (zis h3)
theorem zo7 {op:CmpOp}{f:D->D->Sto->Option (D × Sto)}{r:R2}(ho:OpR X (compareOp op) r) (h3:Op3 X.K f r) (ha:PE3 X a ma) (hb:PE3 X b mb) (hm:behindInMarks op b=false):PE3 X (.Compare a [op] [b] pos) (eOp f ma mb):=PE.imp (zwi ho ha hb hm) (zis h3)
theorem zo8 {K:PySem.W.Frag}{m:EM}(σ:St) (H:Hp) (Q:Bool->Hp->Prop) (q:tt K (tE m) σ H Q):te K m σ H fun x H'=>∃k,x=.bl k/\Q k H':=by
 obtain ⟨ρ,l,S,v,S',sim,ro,hm,p⟩:=q
 obtain ⟨⟨x,S1⟩,h1,hm⟩:=bnd hm
 refine ⟨ρ,l,S,x,S1,sim,ro,h1,fun ρ' H' v' e s r=>?_⟩
 cases r with
 | bl k=>cases hm;exact ⟨_,rfl,p ρ' H' e s⟩
 | _=>cases hm
theorem zcr {op:CmpOp}{f:D->D->Sto->Option (D × Sto)}{r:R2}(ho:OpR X (compareOp op) r) (h3:Op3 X.K f r) (ha:PE3 X a ma) (hb:PE3 X b mb) (hm:behindInMarks op b=false):PT3 X (.Compare a [op] [b] pos) (tE (eOp f ma mb)) :=
 PT.imp (zwk ho ha hb hm) fun σ H Q q=>zis h3 σ H _ (zo8 σ H Q q)
theorem zfc {m:EM}(h:PE3 X a m) (he:∀whole,isTrue a X.env whole=(do let v ←whole;standAt a.pos;holding [v] (truthy v)):=by intro _;rfl):PT3 X a (tE m) :=
 PT.imp (zut h he) fun σ H Q q=>zo8 σ H Q q
variable {t u:TM}{rest:List Expr}
theorem zxz {K:PySem.W.Frag}(σ:St) (H:Hp) (Q:Bool->Hp->Prop) (q:tt K (zck t u) σ H Q):L2.tAnd (tt K t) (tt K u) σ H Q:=by
 obtain ⟨ρ,l,S,v,S',sim,ro,hm,p⟩:=q
 obtain ⟨⟨x,S1⟩,h1,hm⟩:=bnd hm
 refine ⟨ρ,l,S,x,S1,sim,ro,h1,fun ρ1 H1 e1 s1=>?_⟩
 cases x with
 | true=>exact zef ⟨ρ1,l,S1,v,S',s1,ro.mono e1,hm,fun ρ2 H2 e2 s2=>p ρ2 H2 (e1.trans e2) s2⟩
 | false=>cases hm;exact zee (p ρ1 H1 e1 s1)
theorem zx0 {K:PySem.W.Frag}(σ:St) (H:Hp) (Q:Bool->Hp->Prop) (q:tt K (zdi t u) σ H Q):L2.tOr (tt K t) (tt K u) σ H Q:=by
 obtain ⟨ρ,l,S,v,S',sim,ro,hm,p⟩:=q
 obtain ⟨⟨x,S1⟩,h1,hm⟩:=bnd hm
 refine ⟨ρ,l,S,x,S1,sim,ro,h1,fun ρ1 H1 e1 s1=>?_⟩
 cases x with
 | false=>exact zee ⟨ρ1,l,S1,v,S',s1,ro.mono e1,hm,fun ρ2 H2 e2 s2=>p ρ2 H2 (e1.trans e2) s2⟩
 | true=>cases hm;exact zef (p ρ1 H1 e1 s1)
theorem zfd (ha:PT3 X a t):PW3 X (.BoolOp .And [a] pos) t:=zuv ha
theorem zit (ha:PT3 X a t):PW3 X (.BoolOp .Or [a] pos) t:=zuw ha
theorem zes (ha:PT3 X a t) (hb:PW3 X (.BoolOp .And (b :: rest) pos) u):PW3 X (.BoolOp .And (a :: b :: rest) pos) (zck t u):=PW.imp (zux ha hb) zxz
theorem zf5 (ha:PT3 X a t) (hb:PW3 X (.BoolOp .Or (b :: rest) pos) u):PW3 X (.BoolOp .Or (a :: b :: rest) pos) (zdi t u):=PW.imp (zuy ha hb) zx0
theorem zdj (h:PW3 X a t):PT3 X a t:=PW.pt h
theorem ziu (ha:PT3 X a t):PT3 X (.UnaryOp .Not a pos) (zeq t):=PT.imp (zuz ha) fun σ H Q hx2_=>by
 obtain ⟨ρ,l,S,v,S',sim,ro,hm,p⟩:=hx2_
 obtain ⟨⟨x,S1⟩,h1,hm⟩:=bnd hm
 cases hm
 exact ⟨ρ,l,S,x,S1,sim,ro,h1,p⟩
theorem zo9 {op}(h:PE3 X a ma):PE3 X (.BoolOp op [a] pos) ma:=zu1 h
theorem ziv (ha:PE3 X a ma) (hb:PE3 X (.BoolOp .And (b :: rest) pos) mb):PE3 X (.BoolOp .And (a :: b :: rest) pos) (zer ma mb):=PE.imp (zu2 ha hb) fun σ H Q hx3_=>by
 obtain ⟨ρ,l,S,v,S',sim,ro,hm,p⟩:=hx3_
 obtain ⟨⟨x,S1⟩,h1,hm⟩:=bnd hm
 refine ⟨ρ,l,S,x,S1,sim,ro,h1,fun ρ1 H1 x' e1 s1 r1=>?_⟩
 cases r1 with
 | bl k =>
  refine ⟨k,rfl,?_⟩
  cases k with
  | true=>exact zef ⟨ρ1,l,S1,v,S',s1,ro.mono e1,hm,p.ext e1⟩
  | false=>cases hm;exact zee (p ρ1 H1 _ e1 s1 (.bl false))
 | _=>cases hm
theorem zah:PA3 X [] zae:=PA.imp zoa fun σ H Q hx7_=>by
 obtain ⟨ρ,l,S,v,S',sim,ro,hm,p⟩:=hx7_
 cases hm
 exact p ρ H [] (Ext.refl ..) sim .nil
theorem zad (ha:PE3 X a ma) (hr:PA3 X es mA) (hs:starEach (a :: es) X.env=(false,eval a X.env) :: starEach es X.env:=by rfl):PA3 X (a :: es) (zac ma mA):=PA.imp (zkk ha hr hs) fun σ H Q hx8_=>by
 obtain ⟨ρ,l,S,v,S',sim,ro,hm,p⟩:=hx8_
 obtain ⟨⟨x,S1⟩,h1,hm⟩:=bnd hm
 obtain ⟨⟨y,S2⟩,h2,hm⟩:=bnd hm
 cases hm
 exact ⟨ρ,l,S,x,S1,sim,ro,h1,fun ρ1 H1 x' e1 s1 r1=>⟨ρ1,l,S1,y,_,s1,ro.mono e1,h2,fun ρ2 H2 vs e2 s2 r2=>p ρ2 H2 _ (e1.trans e2) s2 (.cons (r1.mono e2) r2)⟩⟩
noncomputable def za2:FM:=fun xs S=>if xs.length<=sizeLine then some (.tup xs,S) else none
noncomputable def zbw:FM:=fun xs S=>if xs.length<=sizeLine then some (.ref S.length,S++[.lst xs]) else none
theorem zbl {α:Type}{c:Prop} [Decidable c] {a b:α}(h:(if c then some a else none)=some b):c/\a=b:=by
 by_cases hc:c
 ·rw [if_pos hc] at h;exact ⟨hc,Option.some.inj h⟩
 ·rw [if_neg hc] at h;cases h
theorem ziw {K:PySem.W.Frag}{ρ:List Addr}{S:Sto}{H:Hp}{xs:List D}{vs:List V}{Q:VK}(sim:Sim K ρ S H) (r:RDs ρ H xs vs) (p:Pv K ρ H (.tup xs) S Q):∀a,H a=none->Q (.ref a) (upd H a (.tup vs)):=fun a ha =>
 p ρ _ _ (zcq ha) (sim.laid ha) (.tup zb7 (r.mono (zcq ha)))
theorem zhf {K:PySem.W.Frag}{ρ:List Addr}{S:Sto}{H:Hp}{xs:List D}{vs:List V}{Q:VK}(sim:Sim K ρ S H) (r:RDs ρ H xs vs) (p:Pv K ρ H (.ref S.length) (S++[.lst xs]) Q):∀a,H a=none->Q (.ref a) (upd H a (.lst vs)):=fun a ha =>
 p (ρ++[a]) _ _ (zo5 ha) (sim.push ha r) (.ref (by rw [←sim.len];exact zdy ρ a))
theorem zbi {x1}(h:PA3 X es mA):PE3 X (.Tuple es x1 pos) (zaf za2 mA):=PE.imp (zww h) fun σ H Q hx9_=>by
 obtain ⟨ρ,l,S,v,S',sim,ro,hm,p⟩:=hx9_
 obtain ⟨⟨x,S1⟩,h1,hm⟩:=bnd hm
 obtain ⟨hz,e⟩:=zbl hm
 cases e
 exact ⟨ρ,l,S,x,_,sim,ro,h1,fun ρ1 H1 vs e1 s1 r1=>⟨by rw [←r1.length];exact hz,ziw s1 r1 (p.ext e1)⟩⟩
theorem zcl (h:PA3 X es mA):PE3 X (.List es pos) (zaf zbw mA):=PE.imp (zwx h) fun σ H Q hx10_=>by
 obtain ⟨ρ,l,S,v,S',sim,ro,hm,p⟩:=hx10_
 obtain ⟨⟨x,S1⟩,h1,hm⟩:=bnd hm
 obtain ⟨hz,e⟩:=zbl hm
 cases e
 exact ⟨ρ,l,S,x,_,sim,ro,h1,fun ρ1 H1 vs e1 s1 r1=>⟨by rw [←r1.length];exact hz,zhf s1 r1 (p.ext e1)⟩⟩
theorem zpa {K:PySem.W.Frag}{f:FM}{r:List V->Hp->VK->Prop}(h3:Fn3 K f r) (σ:St) (H:Hp) (Q:VK) (q:te K (zaf f mA) σ H Q):tCB r (ta K mA) σ H Q:=by
 obtain ⟨ρ,l,S,v,S',sim,ro,hm,p⟩:=q
 obtain ⟨⟨x,S1⟩,h1,hm⟩:=bnd hm
 exact ⟨ρ,l,S,x,S1,sim,ro,h1,fun ρ1 H1 vs e1 s1 r1=>h3 ρ1 S1 H1 x vs v S' Q s1 r1 hm (p.ext e1)⟩
theorem zet {x:Str}{p:Pos}{id:String}{f:FM}{r:List V->Hp->VK->Prop}(hc:CallR X (.builtin id) r) (h3:Fn3 X.K f r) (hg:Gl X x) (hm:X.mg x=none) (hv:bootBuiltins x=some (.builtin id)) (ha:PA3 X (a :: es) mA) (hn:x≠"__name__":=by decide) (hdb:(x == ("__debug__":Str))=false:=by decide)
  (he:starEach (a :: es) X.env=(false,eval a X.env) :: starEach es X.env:=by rfl) (hpl:(backTo pos (starEach es X.env)).any (·.1)=false:=by rfl):PE3 X (.Call (.Name x p) (a :: es) [] pos) (zaf f mA) :=
 PE.imp (zoi hc hg hm hv ha hn hdb he hpl) (zpa h3)
theorem zx1 {x:Str}{p:Pos}{T:String}{f:FM}{r:List V->Hp->VK->Prop}(hc:CallR X (.type T) r) (h3:Fn3 X.K f r) (hg:Gl X x) (hm:X.mg x=none) (hv:bootBuiltins x=some (.type T)) (ha:PA3 X (a :: es) mA) (hn:x≠"__name__":=by decide) (hdb:(x == ("__debug__":Str))=false:=by decide)
  (he:starEach (a :: es) X.env=(false,eval a X.env) :: starEach es X.env:=by rfl) (hpl:(backTo pos (starEach es X.env)).any (·.1)=false:=by rfl):PE3 X (.Call (.Name x p) (a :: es) [] pos) (zaf f mA) :=
 PE.imp (zw1 hc hg hm hv ha hn hdb he hpl) (zpa h3)
end
end L3
namespace L3
open PySem PySem.Spec PyProof.Rows L2
noncomputable def oI (C:Int->Int->Bool) (g:Int->Int->D):D->D->Sto->Option (D × Sto)
 | .int i,.int j,S=>if C i j=true then some (g i j,S) else none
 | _,_,_=>none
noncomputable def oI0 (g:Int->Int->D):D->D->Sto->Option (D × Sto)
 | .int i,.int j,S=>some (g i j,S)
 | _,_,_=>none
theorem zkq {K:PySem.W.Frag}{C:Int->Int->Bool}{C':Int->Int->Prop}{g:Int->Int->D}{g':Int->Int->V}(hC:∀i j,C i j=true->C' i j) (hg:∀ρ H i j,RD ρ H (g i j) (g' i j)):Op3 K (oI C g) (rI C' g'):=by
 intro ρ S H x y x' y' v S' Q sim rx ry h p
 unfold oI at h
 split at h
 ·rename_i i j
  cases rx;cases ry
  obtain ⟨hc,e⟩:=zbl h
  cases e
  exact ⟨i,j,rfl,rfl,hC i j hc,p ρ H _ (Ext.refl ..) sim (hg ρ H i j)⟩
 ·cases h
theorem zkr {K:PySem.W.Frag}{g:Int->Int->D}{g':Int->Int->V}(hg:∀ρ H i j,RD ρ H (g i j) (g' i j)):Op3 K (oI0 g) (rI0 g'):=by
 intro ρ S H x y x' y' v S' Q sim rx ry h p
 unfold oI0 at h
 split at h
 ·rename_i i j
  cases rx;cases ry
  cases h
  exact ⟨i,j,rfl,rfl,p ρ H _ (Ext.refl ..) sim (hg ρ H i j)⟩
 ·cases h
theorem Op3.or {K:PySem.W.Frag}{f:D->D->Sto->Option (D × Sto)}{g:D->D->Sto->Option (D × Sto)}{r r':R2}(h:Op3 K f r) (h':Op3 K g r'):Op3 K (fun x y S=>match f x y S with|some v=>some v|none=>g x y S) (fun x y H Q=>r x y H Q∨r' x y H Q):=by
 intro ρ S H x y x' y' v S' Q sim rx ry hm p
 dsimp only at hm
 cases e:f x y S with
 | some w=>rw [e] at hm;cases hm;exact .inl (h ρ S H x y x' y' _ _ Q sim rx ry e p)
 | none=>rw [e] at hm;exact .inr (h' ρ S H x y x' y' _ _ Q sim rx ry hm p)
noncomputable abbrev zks:=oI0 fun i j=>.int (i+j)
noncomputable abbrev zhg:=oI (fun i j=>decide (0<j/\j<1073741824)) fun i j=>.int (i / j)
noncomputable abbrev zdk:=oI (fun i j=>decide (0<j)) fun i j=>.int (i % j)
noncomputable abbrev zkt:=oI (fun i j=>decide (0<=j/\j<=1000000/\i.natAbs<2 ^ 64)) fun i j=>.int (i ^ j.toNat)
noncomputable abbrev dLt:=oI0 fun i j=>.bl (decide (i<j))
noncomputable abbrev dGt:=oI0 fun i j=>.bl (decide (j<i))
noncomputable abbrev dGe:=oI0 fun i j=>.bl (decide (j<=i))
section
variable {X:Cx}{a b:Expr}{ma mb:EM}{pos:Pos}
theorem zix (ha:PE3 X a ma) (hb:PE3 X b mb):PE3 X (.BinOp a .FloorDiv b pos) (eOp zhg ma mb):=zhe zv9 (zkq (fun i j h=>by first|(unfold CMul;exact of_decide_eq_true h)|(unfold zik;exact of_decide_eq_true h)|(unfold zil;exact of_decide_eq_true h)|exact of_decide_eq_true h) fun _ _ _ _=>.int _) ha hb
theorem zd0 (ha:PE3 X a ma) (hb:PE3 X b mb):PE3 X (.BinOp a .Mod b pos) (eOp zdk ma mb):=zhe zwa (zkq (fun i j h=>by first|(unfold CMul;exact of_decide_eq_true h)|(unfold zik;exact of_decide_eq_true h)|(unfold zil;exact of_decide_eq_true h)|exact of_decide_eq_true h) fun _ _ _ _=>.int _) ha hb
theorem zpb (ha:PE3 X a ma) (hb:PE3 X b mb):PE3 X (.BinOp a .Pow b pos) (eOp zkt ma mb):=zhe zwb (zkq (fun i j h=>by first|(unfold CMul;exact of_decide_eq_true h)|(unfold zik;exact of_decide_eq_true h)|(unfold zil;exact of_decide_eq_true h)|exact of_decide_eq_true h) fun _ _ _ _=>.int _) ha hb
theorem zku (ha:PE3 X a ma) (hb:PE3 X b mb):PT3 X (.Compare a [.Lt] [b] pos) (tE (eOp dLt ma mb)):=zcr zwe (zkr fun _ _ _ _=>.bl _) ha hb (zdf b)
theorem zhh (ha:PE3 X a ma) (hb:PE3 X b mb):PT3 X (.Compare a [.Gt] [b] pos) (tE (eOp dGt ma mb)):=zcr zwf (zkr fun _ _ _ _=>.bl _) ha hb (zdf b)
theorem zkv (ha:PE3 X a ma) (hb:PE3 X b mb):PT3 X (.Compare a [.GtE] [b] pos) (tE (eOp dGe ma mb)):=zcr zwg (zkr fun _ _ _ _=>.bl _) ha hb (zdf b)
end
noncomputable def sEq:D->D->Option Bool
 | .non,.non=>some true | .non,.int _=>some false | .int _,.non=>some false | .non,.bl _=>some false | .bl _,.non=>some false | .non,.str _=>some false | .str _,.non=>some false
 | .int i,.int j=>some (decide (i=j)) | .bl i,.bl j=>some (decide (i=j)) | .str i,.str j=>some (decide (i=j))
 | .int _,.str _=>some false | .str _,.int _=>some false | .bl _,.str _=>some false | .str _,.bl _=>some false
 | _,_=>none
noncomputable def dEq:D->D->Sto->Option (D × Sto):=fun x y S=>(sEq x y).bind fun b=>some (.bl b,S)
noncomputable def dNe:D->D->Sto->Option (D × Sto):=fun x y S=>(sEq x y).bind fun b=>some (.bl (!b),S)
theorem zpc {ρ:List Addr}{H:Hp}{x y:D}{x' y':V}{b:Bool}(rx:RD ρ H x x') (ry:RD ρ H y y') (h:sEq x y=some b):zkj x' y' = true/\decide (x' = y')=b:=by
 cases rx <;> cases ry <;> first
  | (unfold sEq at h;cases h;exact ⟨rfl,by simp⟩)
  | (unfold sEq at h;cases h;exact ⟨rfl,by simp;rfl⟩)
  | (unfold sEq at h;cases h)
theorem zx2 {K:PySem.W.Frag}:Op3 K dEq rEq:=by
 intro ρ S H x y x' y' v S' Q sim rx ry h p
 obtain ⟨b,h1,h⟩:=bnd h
 cases h
 obtain ⟨h2,h3⟩:=zpc rx ry h1
 exact ⟨h2,by rw [h3];exact p ρ H _ (Ext.refl ..) sim (.bl b)⟩
theorem zpd {K:PySem.W.Frag}:Op3 K dNe rNe:=by
 intro ρ S H x y x' y' v S' Q sim rx ry h p
 obtain ⟨b,h1,h⟩:=bnd h
 cases h
 obtain ⟨h2,h3⟩:=zpc rx ry h1
 exact ⟨h2,by rw [h3];exact p ρ H _ (Ext.refl ..) sim (.bl _)⟩
noncomputable def zdl:D->Bool
 | .non=>true
 | _=>false
noncomputable def dIs:D->D->Sto->Option (D × Sto)
 | x,.non,S=>some (.bl (zdl x),S)
 | _,_,_=>none
noncomputable def zcy:D->D->Sto->Option (D × Sto)
 | x,.non,S=>some (.bl (!zdl x),S)
 | _,_,_=>none
theorem zpe {ρ:List Addr}{H:Hp}{x:D}{x':V}(r:RD ρ H x x'):decide (x' = .non)=zdl x:=by
 cases r <;> simp [zdl]
theorem zx3 {K:PySem.W.Frag}:Op3 K dIs (fun x y H Q=>y=.non/\Q (.bl (decide (x=.non))) H):=by
 intro ρ S H x y x' y' v S' Q sim rx ry h p
 unfold dIs at h
 split at h
 ·cases h;cases ry
  exact ⟨rfl,by rw [zpe rx];exact p ρ H _ (Ext.refl ..) sim (.bl _)⟩
 ·cases h
theorem zpf {K:PySem.W.Frag}:Op3 K zcy (fun x y H Q=>y=.non/\Q (.bl (!decide (x=.non))) H):=by
 intro ρ S H x y x' y' v S' Q sim rx ry h p
 unfold zcy at h
 split at h
 ·cases h;cases ry
  exact ⟨rfl,by rw [zpe rx];exact p ρ H _ (Ext.refl ..) sim (.bl _)⟩
 ·cases h
section
variable {X:Cx}{a b:Expr}{ma mb:EM}{pos:Pos}
theorem zkw (ha:PE3 X a ma) (hb:PE3 X b mb):PE3 X (.Compare a [.NotEq] [b] pos) (eOp dNe ma mb):=zo7 zn6 zpd ha hb (zdf b)
theorem ziy (ha:PE3 X a ma) (hb:PE3 X b mb):PE3 X (.Compare a [.IsNot] [b] pos) (eOp zcy ma mb):=zo7 zn7 zpf ha hb (zdf b)
theorem ziz (ha:PE3 X a ma) (hb:PE3 X b mb):PT3 X (.Compare a [.Eq] [b] pos) (tE (eOp dEq ma mb)):=zcr zwd zx2 ha hb (zdf b)
theorem zi0 (ha:PE3 X a ma) (hb:PE3 X b mb):PT3 X (.Compare a [.NotEq] [b] pos) (tE (eOp dNe ma mb)):=zcr zn6 zpd ha hb (zdf b)
theorem zx4 (ha:PE3 X a ma) (hb:PE3 X b mb):PT3 X (.Compare a [.Is] [b] pos) (tE (eOp dIs ma mb)):=zcr zwh zx3 ha hb (zdf b)
theorem zpg (ha:PE3 X a ma) (hb:PE3 X b mb):PT3 X (.Compare a [.IsNot] [b] pos) (tE (eOp zcy ma mb)):=zcr zn7 zpf ha hb (zdf b)
end
noncomputable def dIx:D->D->Sto->Option (D × Sto)
 | .tup xs,.int i,S=>(atI xs i).bind fun v=>some (v,S)
 | .ref n,.int i,S=>(lstOf S n).bind fun xs=>(atI xs i).bind fun v=>some (v,S)
 | _,_,_=>none
theorem zph {ρ:List Addr}{H:Hp}{xs:List D}{vs:List V}{i:Int}{x:D}(r:RDs ρ H xs vs) (h:atI xs i=some x):∃v,atI vs i=some v/\RD ρ H x v:=by
 unfold atI at h ⊢
 rw [←r.length]
 cases e:ixN xs.length i with
 | none=>rw [e] at h;cases h
 | some j =>
  rw [e] at h
  exact r.get (i:=j) h
theorem zx5 {K:PySem.W.Frag}:Op3 K dIx (rIx K):=by
 intro ρ S H x y x' y' v S' Q sim rx ry h p
 unfold dIx at h
 split at h
 ·cases ry
  obtain ⟨w,h1,h⟩:=bnd h
  cases h
  cases rx with
  | tup ha r =>
   obtain ⟨u,h2,r2⟩:=zph r h1
   exact .inr (.inl ⟨_,_,_,u,rfl,rfl,SqT.of ha,h2,p ρ H u (Ext.refl ..) sim r2⟩)
 ·cases ry
  obtain ⟨xs,h0,h⟩:=bnd h
  obtain ⟨w,h1,h⟩:=bnd h
  cases h
  cases rx with
  | ref hn =>
   obtain ⟨a,vs,ha,sq,r⟩:=sim.lstOf h0
   rw [ha] at hn;cases hn
   obtain ⟨u,h2,r2⟩:=zph r h1
   exact .inl ⟨_,_,_,u,rfl,rfl,sq,h2,p ρ H u (Ext.refl ..) sim r2⟩
 ·cases h
section
variable {X:Cx}{a b:Expr}{ma mb:EM}{pos:Pos}
end
noncomputable abbrev OM:=Lo->Sto->Option (Option Int × Sto)
section
variable {X:Cx}{a b:Expr}{ma mb:EM}{pos p2:Pos}{lo hi:Option Expr}{ml mh:OM}
end
end L3
namespace HT
open PySem PyProof.Rows
section
variable {prog:Program}{w:World}{A:Around}{E:Value->Shared->Prop}{s:Shared}
end
end HT
namespace L3
open PySem PySem.Spec PyProof.Rows L2
section
variable {X:Cx}{a b:Expr}{ma mb:EM}{pos p2:Pos}{lo hi:Option Expr}{ml mh:OM}
end
noncomputable def zkx:D->D->Sto->Option (D × Sto)
 | .tup xs,.tup ys,S=>if xs.length+ys.length<=sizeLine then some (.tup (xs++ys),S) else none
 | _,_,_=>none
noncomputable def zky (K:PySem.W.Frag):R2:=fun x y H Q=>∃a b ys,x=.ref a/\y=.ref b/\SqT K H a []/\SqT K H b ys/\Q (.ref b) H
theorem zx6 {X:Cx}:OpR X (binaryOp .Add) (zky X.K):=by
 intro pins s σ H x y v u Q I rx ry h
 obtain ⟨a,b,ys,rfl,rfl,ha,hb,q⟩:=h
 cases rx
 cases ry
 obtain ⟨its,r1,p1,_⟩:=I.tuple ha
 obtain ⟨its2,r2,p2,_⟩:=I.tuple hb
 cases r1
 obtain ⟨⟨cls,dd,data,sl⟩,ho,hc,n,hd⟩:=id p1
 obtain ⟨⟨cls2,dd2,data2,sl2⟩,ho2,hc2,n2,hd2⟩:=id p2
 simp only at hc hd hc2 hd2
 subst hc hd hc2 hd2
 exact concat_meets ⟨_,ho,rfl⟩ ⟨_,ho2,rfl⟩ noFill_tuple_add seq_tuple_add PySem.F.slot_tuple_add PySem.F.entry_tuple_add (PySem.F.args_tuple_add_2 _ _)
   (tuple_addW0 a b ([]:List Value).toArray its2.toArray n n2 dd dd2 sl sl2 (by simp)) ⟨ho,ho2,⟨.ref b,H,I,rfl,q⟩⟩
theorem zx7 {K:PySem.W.Frag}:Op3 K zkx (fun x y H Q=>zkm K x y H Q∨zky K x y H Q):=by
 intro ρ S H x y x' y' v S' Q sim rx ry h p
 unfold zkx at h
 split at h
 ·obtain ⟨hz,e⟩:=zbl h
  cases e
  cases rx with
  | @tup xs a vs ha r =>
   cases ry with
   | @tup ys b ws hb q =>
    cases r with
    | nil=>exact .inr ⟨a,b,ws,rfl,rfl,SqT.of ha,SqT.of hb,p ρ H _ (Ext.refl ..) sim (.tup hb q)⟩
    | cons r1 r2 =>
     refine .inl ⟨a,b,_,ws,rfl,rfl,SqT.of ha,SqT.of hb,by simp,by rw [←(RDs.cons r1 r2).length,←q.length];exact hz,fun e=>?_,fun _=>?_⟩
     ·subst e
      cases q
      rw [List.append_nil] at p
      exact p ρ H _ (Ext.refl ..) sim (.tup ha (.cons r1 r2))
     ·exact ziw sim ((RDs.cons r1 r2).append q) p
 ·cases h
section
variable {X:Cx}{a b:Expr}{ma mb:EM}{pos:Pos}
end
end L3
namespace L3
open PySem PySem.Spec PyProof.Rows L2
noncomputable def zhi:FM
 | [.tup xs],S=>some (.int xs.length,S)
 | [.ref n],S=>(lstOf S n).bind fun xs=>some (.int xs.length,S)
 | _,_=>none
noncomputable def zfe:FM
 | [.int i],S=>some (.int (if i<0 then -i else i),S)
 | _,_=>none
noncomputable def zdm:FM
 | [.tup xs],S=>some (.tup xs,S)
 | [.ref n],S=>(lstOf S n).bind fun xs=>some (.tup xs,S)
 | _,_=>none
section
variable {K:PySem.W.Frag}
theorem zx8:Fn3 K zhi (fun xs H Q=>∃p ys,xs=[.ref p]/\(SqL K H p ys∨SqT K H p ys)/\Q (.int ys.length) H):=by
 intro ρ S H xs vs v S' Q sim r h p
 unfold zhi at h
 split at h
 ·cases h
  obtain ⟨w,rfl,rw'⟩:=r.one
  cases rw' with
  | tup ha r2=>exact ⟨_,_,rfl,.inr (SqT.of ha),by rw [←r2.length];exact p ρ H _ (Ext.refl ..) sim (.int _)⟩
 ·obtain ⟨ys,h1,h⟩:=bnd h
  cases h
  obtain ⟨w,rfl,rw'⟩:=r.one
  obtain ⟨a,us,ha,sq,r2⟩:=sim.lstOf h1
  cases rw' with
  | ref hn =>
   rw [ha] at hn;cases hn
   exact ⟨_,_,rfl,.inl sq,by rw [←r2.length];exact p ρ H _ (Ext.refl ..) sim (.int _)⟩
 ·cases h
theorem zx9:Fn3 K zfe (fun xs H Q=>∃i,xs=[.int i]/\Q (.int (if i<0 then -i else i)) H):=by
 intro ρ S H xs vs v S' Q sim r h p
 unfold zfe at h
 split at h
 ·cases h
  obtain ⟨w,rfl,rw'⟩:=r.one
  cases rw'
  exact ⟨_,rfl,p ρ H _ (Ext.refl ..) sim (.int _)⟩
 ·cases h
theorem zya:Fn3 K zdm (fun xs H Q=>∃p ys,xs=[.ref p]/\((SqL K H p ys/\∀l,H l=none->Q (.ref l) (upd H l (.tup ys)))∨(SqT K H p ys/\Q (.ref p) H))):=by
 intro ρ S H xs vs v S' Q sim r h p
 unfold zdm at h
 split at h
 ·cases h
  obtain ⟨w,rfl,rw'⟩:=r.one
  cases rw' with
  | tup ha r2=>exact ⟨_,_,rfl,.inr ⟨SqT.of ha,p ρ H _ (Ext.refl ..) sim (.tup ha r2)⟩⟩
 ·obtain ⟨ys,h1,h⟩:=bnd h
  cases h
  obtain ⟨w,rfl,rw'⟩:=r.one
  obtain ⟨a,us,ha,sq,r2⟩:=sim.lstOf h1
  cases rw' with
  | ref hn =>
   rw [ha] at hn;cases hn
   exact ⟨_,_,rfl,.inl ⟨sq,ziw sim r2 p⟩⟩
 ·cases h
end
noncomputable def tyD (S:Sto):D->Option String
 | .non=>some "NoneType" | .bl _=>some "bool" | .int _=>some "int" | .str _=>some "str" | .tup _=>some "tuple"
 | .ref n=>match S[n]? with
  | some (.lst _)=>some "list"
  | some (.dct _)=>some "dict"
  | _=>none
 | .fn _=>none
noncomputable def isI (T U:String):Bool:=T == U || (T == "bool" && U == "int")
noncomputable def zeu (U:String):D->Sto->Option (D × Sto):=fun x S=>(tyD S x).bind fun T=>some (.bl (isI T U),S)
noncomputable def zce:D->List D->Sto->Option (D × Sto)
 | .ref n,[x],S=>match S[n]? with
  | some (.lst xs)=>if xs.length<sizeLine then some (.non,S.set n (.lst (xs++[x]))) else none
  | _=>none
 | _,_,_=>none
noncomputable def zff:D->List D->Sto->Option (D × Sto)
 | .ref n,[],S=>match S[n]? with
  | some (.lst xs)=>some (.non,S.set n (.lst xs.reverse))
  | _=>none
 | _,_,_=>none
noncomputable def zfg:D->List D->Sto->Option (D × Sto)
 | .ref n,[],S=>match S[n]? with
  | some (.lst xs)=>(xs[xs.length-1]?).bind fun y=>some (y,S.set n (.lst xs.dropLast))
  | _=>none
 | _,_,_=>none
theorem RDs.dropLast {ρ:List Addr}{H:Hp}{xs:List D}{vs:List V}(h:RDs ρ H xs vs):RDs ρ H xs.dropLast vs.dropLast:=by
 rw [List.dropLast_eq_take,List.dropLast_eq_take,h.length]
 exact h.take _
section
variable {K:PySem.W.Frag}
theorem zyb:Mt3 K zce zor:=by
 intro ρ S H x x' xs vs v S' Q sim rx r h p
 unfold zce at h
 split at h
 ·split at h
  ·rename_i n y S ys e
   obtain ⟨hz,e2⟩:=zbl h
   cases e2
   obtain ⟨w,rfl,rw'⟩:=r.one
   obtain ⟨a,us,ha,hH,r2⟩:=sim.lst e
   cases rx with
   | ref hn =>
    rw [ha] at hn;cases hn
    exact ⟨a,us,w,rfl,rfl,hH,by rw [←r2.length];exact hz,p ρ _ _ (zhd ha hH) (sim.set ha e hH (r2.append (.cons rw' .nil))) .non⟩
  ·cases h
 ·cases h
theorem zyc:Mt3 K zff zot:=by
 intro ρ S H x x' xs vs v S' Q sim rx r h p
 unfold zff at h
 split at h
 ·split at h
  ·rename_i n S ys e
   cases h
   cases r
   obtain ⟨a,us,ha,hH,r2⟩:=sim.lst e
   cases rx with
   | ref hn =>
    rw [ha] at hn;cases hn
    exact ⟨a,us,rfl,rfl,hH,p ρ _ _ (zhd ha hH) (sim.set ha e hH r2.reverse) .non⟩
  ·cases h
 ·cases h
theorem zyd:Mt3 K zfg zos:=by
 intro ρ S H x x' xs vs v S' Q sim rx r h p
 unfold zfg at h
 split at h
 ·split at h
  ·rename_i n S ys e
   obtain ⟨y,h1,h⟩:=bnd h
   cases h
   cases r
   obtain ⟨a,us,ha,hH,r2⟩:=sim.lst e
   obtain ⟨w,hw,rw'⟩:=r2.get h1
   cases rx with
   | ref hn =>
    rw [ha] at hn;cases hn
    exact ⟨a,us,w,rfl,rfl,hH,by rw [←r2.length];exact hw,p ρ _ _ (zhd ha hH) (sim.set ha e hH r2.dropLast) (rw'.mono (zhd ha hH))⟩
  ·cases h
 ·cases h
end
noncomputable def zev:D->Sto->Option (List D)
 | .ref n,S=>lstOf S n
 | _,_=>none
noncomputable def zb0 (f:D->List D->Sto->Option (D × Sto)) (o:EM) (as:AM):EM:=fun l S=>(o l S).bind fun p=>(zev p.1 p.2).bind fun _=>(as l p.2).bind fun q=>f p.1 q.1 q.2
section
variable {X:Cx}{a o e:Expr}{es:List Expr}{mo:EM}{mA:AM}{name:Str}{apos cpos pos:Pos}{id:String}{f:D->List D->Sto->Option (D × Sto)}{r:V->List V->Hp->VK->Prop}
theorem zpi {K:PySem.W.Frag}{ρ:List Addr}{S:Sto}{H:Hp}{x:D}{x':V}{xs:List D}(sim:Sim K ρ S H) (rx:RD ρ H x x') (h:zev x S=some xs):tyV K "list" x' H:=by
 unfold zev at h
 split at h
 ·obtain ⟨a,us,ha,sq,r2⟩:=sim.lstOf h
  cases rx with
  | ref hn =>
   rw [ha] at hn;cases hn
   exact .inl ⟨rfl,us,sq⟩
 ·cases h
theorem zye (slot:Slot "list" name id) (hty:typeOf (.builtin id)=pure (.type "method_descriptor")) (hm:MtM X id r) (h3:Mt3 X.K f r) (ho:PE3 X o mo) (ha:PA3 X (e :: es) mA)
  (hbase:attributeBase o name X.env (eval o X.env)=eval o X.env:=by rfl)
  (hfew:((backTo cpos (starEach (e :: es) X.env)).all (fun x=>!x.1) && (backToKw cpos (keywordEach [] X.env)).all (fun x=>x.1.isSome)
   && decide ((e :: es).length+([]:List Keyword).length+(if ([]:List Keyword).isEmpty then 0 else 1)<30))=true:=by rfl)
  (hline:(apos.endLine == cpos.line)=true:=by rfl) (hs:starEach (e :: es) X.env=(false,eval e X.env) :: starEach es X.env:=by rfl) (hplain:(backTo cpos (starEach es X.env)).any (·.1)=false:=by rfl) :
  PE3 X (.Call (.Attribute o name apos) (e :: es) [] cpos) (zb0 f mo mA) :=
 PE.imp (zxe PySem.F.plainAttrs_list slot hty hm ho ha hbase hfew hline hs hplain) fun σ H Q hx1_=>by
  obtain ⟨ρ,l,S,v,S',sim,ro,hq,p⟩:=hx1_
  obtain ⟨⟨x,S1⟩,h1,hq⟩:=bnd hq
  obtain ⟨xs,h2,hq⟩:=bnd hq
  obtain ⟨⟨ys,S2⟩,h4,hq⟩:=bnd hq
  exact ⟨ρ,l,S,x,S1,sim,ro,h1,fun ρ1 H1 x' e1 s1 r1=>⟨zpi s1 r1 h2,ρ1,l,S1,ys,S2,s1,ro.mono e1,h4,fun ρ2 H2 vs e2 s2 r2=>h3 ρ2 S2 H2 x x' ys vs v S' Q s2 (r1.mono e2) r2 hq (p.ext (e1.trans e2))⟩⟩
theorem zpj (slot:Slot "list" name id) (hty:typeOf (.builtin id)=pure (.type "method_descriptor")) (hm:MtM X id r) (h3:Mt3 X.K f r) (ho:PE3 X o mo)
  (hbase:attributeBase o name X.env (eval o X.env)=eval o X.env:=by rfl) (hline:(apos.endLine == cpos.line)=true:=by rfl) :
  PE3 X (.Call (.Attribute o name apos) [] [] cpos) (zb0 f mo zae) :=
 PE.imp (zxd PySem.F.plainAttrs_list slot hty hm ho hbase hline) fun σ H Q hx2_=>by
  obtain ⟨ρ,l,S,v,S',sim,ro,hq,p⟩:=hx2_
  obtain ⟨⟨x,S1⟩,h1,hq⟩:=bnd hq
  obtain ⟨xs,h2,hq⟩:=bnd hq
  obtain ⟨⟨ys,S2⟩,h4,hq⟩:=bnd hq
  cases h4
  exact ⟨ρ,l,S,x,S1,sim,ro,h1,fun ρ1 H1 x' e1 s1 r1=>⟨zpi s1 r1 h2,h3 ρ1 S1 H1 x x' [] [] v S' Q s1 r1 .nil hq (p.ext e1)⟩⟩
theorem zdn {m:EM}(ho:PE3 X o mo) (he:PE3 X e m)
  (hbase:attributeBase o "append" X.env (eval o X.env)=eval o X.env:=by rfl)
  (hfew:((backTo cpos (starEach [e] X.env)).all (fun x=>!x.1) && (backToKw cpos (keywordEach [] X.env)).all (fun x=>x.1.isSome)
   && decide ([e].length+([]:List Keyword).length+(if ([]:List Keyword).isEmpty then 0 else 1)<30))=true:=by rfl)
  (hline:(apos.endLine == cpos.line)=true:=by rfl) (hs:starEach [e] X.env=(false,eval e X.env) :: starEach [] X.env:=by rfl) :
  PE3 X (.Call (.Attribute o "append" apos) [e] [] cpos) (zb0 zce mo (zac m zae)) :=
 zye PySem.F.slot_list_append PySem.F.type_list_append zim zyb ho (zad he zah hs) hbase hfew hline hs
theorem zyf (ho:PE3 X o mo) (hbase:attributeBase o "reverse" X.env (eval o X.env)=eval o X.env:=by rfl) (hline:(apos.endLine == cpos.line)=true:=by rfl) :
  PE3 X (.Call (.Attribute o "reverse" apos) [] [] cpos) (zb0 zff mo zae):=zpj PySem.F.slot_list_reverse PySem.F.type_list_reverse zxh zyc ho hbase hline
theorem zyg (ho:PE3 X o mo) (hbase:attributeBase o "pop" X.env (eval o X.env)=eval o X.env:=by rfl) (hline:(apos.endLine == cpos.line)=true:=by rfl) :
  PE3 X (.Call (.Attribute o "pop" apos) [] [] cpos) (zb0 zfg mo zae):=zpj PySem.F.slot_list_pop PySem.F.type_list_pop zxg zyd ho hbase hline
end
section
variable {X:Cx}{a:Expr}{ma:EM}{pos p p2:Pos}
theorem zyh {K:PySem.W.Frag}{T U:String}(hT:T∈["NoneType","bool","int","str","tuple","list","dict"]) (hU:U∈["bool","int","str","tuple","list"]):PySem.W.kitOne K (.type T) (.type U)=some (isI T U):=by
 simp only [List.mem_cons,List.not_mem_nil,or_false] at hT hU
 rcases hT with rfl|rfl|rfl|rfl|rfl|rfl|rfl <;> rcases hU with rfl|rfl|rfl|rfl|rfl <;> rfl
theorem zpk {U:String}{y:Str}(hg:Gl X "isinstance") (hm:X.mg "isinstance" = none) (hgy:Gl X y) (hmy:X.mg y=none) (hv:bootBuiltins y=some (.type U)) (hU:U∈["bool","int","str","tuple","list"]) (ha:PE3 X a ma)
  (hn:y≠"__name__":=by decide) (hdb:(y == ("__debug__":Str))=false:=by decide)
  (he:starEach (a :: [.Name y p2]) X.env=(false,eval a X.env) :: starEach [.Name y p2] X.env:=by rfl) (he2:starEach [.Name y p2] X.env=(false,eval (.Name y p2) X.env) :: starEach [] X.env:=by rfl) (hpl:(backTo pos (starEach [.Name y p2] X.env)).any (·.1)=false:=by rfl) :
  PE3 X (.Call (.Name "isinstance" p) [a,.Name y p2] [] pos) (eUn (zeu U) ma):=by
 have hy:PE X (.Name y p2) (tC (.ty U)):=zus hgy hmy hv rfl hn hdb
 refine PE.imp (zoi (id:="isinstance") (r:=fun xs H Q=>∃x T,xs=[x,.ty U]/\TyOf X.K H x (.type T)/\T∈["NoneType","bool","int","str","tuple","list","dict"]/\Q (.bl (isI T U)) H) ?_ hg hm (by decide +kernel) (zkk ha (zkk hy zoa he2) he) (by decide) (by decide) he hpl) ?_
 ·intro pins s σ H xs us Q I r h
  obtain ⟨x,T,rfl,ty,hT,q⟩:=h
  obtain ⟨u1,u2,rfl,r1,r2⟩:=r.two
  cases r2
  exact zwr I r1 ty (zyh hT hU) fun tk=>⟨.bl _,H,I.tok tk,rfl,q⟩
 ·rintro σ H Q ⟨ρ,l,S,v,S',sim,ro,hq,p⟩
  obtain ⟨⟨x,S1⟩,h1,hq⟩:=bnd hq
  obtain ⟨T,h2,hq⟩:=bnd hq
  cases hq
  refine ⟨ρ,l,S,x,_,sim,ro,h1,fun ρ1 H1 x' e1 s1 r1=>⟨x',T,rfl,?_⟩⟩
  have fin:=p ρ1 H1 _ e1 s1 (.bl (isI T U))
  cases r1 with
  | non=>cases h2;exact ⟨.non,by decide,fin⟩
  | bl b=>cases h2;exact ⟨.bl b,by decide,fin⟩
  | int b=>cases h2;exact ⟨.int b,by decide,fin⟩
  | str b=>cases h2;exact ⟨.str b,by decide,fin⟩
  | tup hh rr=>cases h2;exact ⟨.tup hh,by decide,fin⟩
  | @ref n b hn =>
   unfold tyD at h2
   dsimp only at h2
   split at h2
   ·rename_i ys ey
    cases h2
    obtain ⟨a',us,ha',hH,r2⟩:=s1.lst ey
    rw [ha'] at hn;cases hn
    exact ⟨.lst hH,by decide,fin⟩
   ·rename_i kvs ey
    cases h2
    obtain ⟨us,hH,r2⟩:=s1.at' n b _ hn ey
    exact ⟨.dK hH,by decide,fin⟩
   ·cases h2
  | fn b=>cases h2
end
noncomputable def sp3 (K:PySem.W.Frag) (n:Nat) (f:FM):Sp:=fun vs H Q _=>vs.length=n/\∃ρ ds S v S',Sim K ρ S H/\RDs ρ H ds vs/\f ds S=some (v,S')/\Pv K ρ H v S' Q
section
variable {X:Cx}{a:Expr}{es:List Expr}{mA:AM}{pos p:Pos}{x:Str}{k:Nat}{f:Addr}{fd:FuncData}{ps:List Str}{m:FM}
theorem zyi {n:Nat}(F:FnOk X.prog X.w X.K X.mg X.base CX0 k f fd ps (sp3 X.K n m)) (hr:Room k X.A) (hg:Gl X x) (hm:X.mg x=some (.ref f)) (hk:PySem.W.keepIn X.K (.ref f)=true) (hb:Binds X.K fd ps [])
  (ha:PA3 X (a :: es) mA) (hl:∀l S v S',mA l S=some (v,S')->v.length=n) (hdb:(x == ("__debug__":Str))=false:=by decide) (he:starEach (a :: es) X.env=(false,eval a X.env) :: starEach es X.env:=by rfl) (hpl:(backTo pos (starEach es X.env)).any (·.1)=false:=by rfl) :
  PE3 X (.Call (.Name x p) (a :: es) [] pos) (zaf m mA) :=
 PE.imp (zwy F hr hg hm hk hb .nil zox ha hdb he hpl) fun σ H Q hx3_=>by
  obtain ⟨ρ,l,S,v,S',sim,ro,hq,p⟩:=hx3_
  obtain ⟨⟨xs,S1⟩,h1,hq⟩:=bnd hq
  exact ⟨ρ,l,S,xs,S1,sim,ro,h1,fun ρ1 H1 vs e1 s1 r1=>⟨by rw [List.append_nil,←r1.length];exact hl _ _ _ _ h1,ρ1,xs,S1,v,S',s1,by rw [List.append_nil];exact r1,hq,p.ext e1⟩⟩
theorem za4:∀l S v S',zae l S=some (v,S')->v.length=0:=fun l S v S' h=>by cases h;rfl
theorem zan {n:Nat}{m:EM}{mA:AM}(h:∀l S v S',mA l S=some (v,S')->v.length=n):∀l S v S',zac m mA l S=some (v,S')->v.length=n+1:=fun l S v S' q=>by
 obtain ⟨⟨x,S1⟩,h1,q⟩:=bnd q
 obtain ⟨⟨y,S2⟩,h2,q⟩:=bnd q
 cases q
 rw [List.length_cons,h _ _ _ _ h2]
end
end L3
namespace L3
open PySem PySem.Spec PyProof.Rows L2
noncomputable def zbj:SM:=fun l S=>some (.nx,l,S)
noncomputable def zai (a b:SM):SM:=fun l S=>(a l S).bind fun p=>match p.1 with
 | .nx=>b p.2.1 p.2.2
 | f=>some (f,p.2)
noncomputable def zch (e:EM):SM:=fun l S=>(e l S).bind fun p=>some (.nx,l,p.2)
noncomputable def za9 (e:EM):SM:=fun l S=>(e l S).bind fun p=>some (.rt p.1,l,p.2)
noncomputable def sIf (c:TM) (a b:SM):SM:=fun l S=>(c l S).bind fun p=>if p.1=true then a l p.2 else b l p.2
noncomputable def zam (e:EM) (g:GM):SM:=fun l S=>(e l S).bind fun p=>(g p.1 l p.2).bind fun q=>some (.nx,q)
noncomputable def zag (i:Nat):GM:=fun d l S=>some (l.set i (some d),S)
noncomputable def zc5:GsM
 | [],l,S=>some (l,S)
 | _,_,_=>none
noncomputable def zb4 (g:GM) (r:GsM):GsM
 | x :: xs,l,S=>(g x l S).bind fun p=>r xs p.1 p.2
 | _,_,_=>none
noncomputable def zc6 (n:Nat) (g:GsM):GM
 | .tup xs,l,S=>if xs.length=n then g xs l S else none
 | _,_,_=>none
noncomputable def zfh:D->D->D->Sto->Option Sto
 | .ref n,.int i,v,S=>match S[n]? with
  | some (.lst xs)=>(ixN xs.length i).bind fun j=>some (S.set n (.lst (xs.set j v)))
  | _=>none
 | _,_,_,_=>none
noncomputable def zf6 (o i:EM):GM:=fun v l S=>(o l S).bind fun p=>(i l p.2).bind fun q=>(zfh p.1 q.1 v q.2).bind fun S'=>some (l,S')
section
variable {X:Cx}{st:Stmt}{rest:List Stmt}{m n:SM}{e c:Expr}{me:EM}{pos:Pos}
theorem zb1:zdh X [] zbj:=PSs.imp zu6 fun E σ H hx1_=>by
 obtain ⟨ρ,l,S,f,l',S',sim,ro,hm,p⟩:=hx1_
 cases hm
 exact p ρ H σ (Ext.refl ..) sim ro
theorem zal (h1:PS3 X st m) (h2:zdh X rest n):zdh X (st :: rest) (zai m n):=PSs.imp (zu7 h1 h2) fun E σ H hx2_=>by
 obtain ⟨ρ,l,S,f,l',S',sim,ro,hm,p⟩:=hx2_
 obtain ⟨⟨g,l1,S1⟩,q1,hm⟩:=bnd hm
 refine ⟨ρ,l,S,g,l1,S1,sim,ro,q1,fun ρ1 H1 σ1 e1 s1 r1=>?_⟩
 cases g with
 | nx=>exact ⟨ρ1,l1,S1,f,l',S',s1,r1,hm,fun ρ2 H2 σ2 e2 s2 r2=>p ρ2 H2 σ2 (e1.trans e2) s2 r2⟩
 | bk=>cases hm;exact p ρ1 H1 σ1 e1 s1 r1
 | ct=>cases hm;exact p ρ1 H1 σ1 e1 s1 r1
 | rt d=>cases hm;exact p ρ1 H1 σ1 e1 s1 r1
theorem zau (h1:PS3 X st m):zdh X [st] m:=zu8 h1
theorem zcz (he:PE3 X e me) (hs:swapsWith e none pos.line X.env=pure false:=by rfl):PS3 X (.Expr e pos) (zch me):=PS.imp (zva he hs) fun E σ H hx6_=>by
 obtain ⟨ρ,l,S,f,l',S',sim,ro,hm,p⟩:=hx6_
 obtain ⟨⟨x,S1⟩,q1,hm⟩:=bnd hm
 cases hm
 exact ⟨ρ,l,S,x,_,sim,ro,q1,fun ρ1 H1 x' e1 s1 _=>p ρ1 H1 σ e1 s1 (ro.mono e1)⟩
theorem zbf (he:PE3 X e me):PS3 X (.Return (some e) pos) (za9 me):=PS.imp (zvc he) fun E σ H hx7_=>by
 obtain ⟨ρ,l,S,f,l',S',sim,ro,hm,p⟩:=hx7_
 obtain ⟨⟨x,S1⟩,q1,hm⟩:=bnd hm
 cases hm
 exact ⟨ρ,l,S,x,_,sim,ro,q1,fun ρ1 H1 x' e1 s1 r1=>p ρ1 H1 σ e1 s1 (ro.mono e1) x' r1⟩
theorem zbx {c:Expr}{a b:List Stmt}{mc:TM}(hc:PT3 X c mc) (ha:zdh X a m) (hb:zdh X b n):PS3 X (.If c a b pos) (sIf mc m n):=PS.imp (zve hc ha hb) fun E σ H hx9_=>by
 obtain ⟨ρ,l,S,f,l',S',sim,ro,hm,p⟩:=hx9_
 obtain ⟨⟨x,S1⟩,q1,hm⟩:=bnd hm
 refine ⟨ρ,l,S,x,S1,sim,ro,q1,fun ρ1 H1 e1 s1=>?_⟩
 cases x with
 | true=>exact zef ⟨ρ1,l,S1,f,l',S',s1,ro.mono e1,hm,fun ρ2 H2 σ2 e2 s2 r2=>p ρ2 H2 σ2 (e1.trans e2) s2 r2⟩
 | false=>exact zee ⟨ρ1,l,S1,f,l',S',s1,ro.mono e1,hm,fun ρ2 H2 σ2 e2 s2 r2=>p ρ2 H2 σ2 (e1.trans e2) s2 r2⟩
variable {tgt o i:Expr}{g:GM}{gs:GsM}{ts':List Expr}{mo mi:EM}
theorem za5 (j:Nat) {x:Str}(hN:X.N.Nodup) (hi:X.N[j]? = some x:=by rfl) (hx:Loc X.env.scope x:=by first|exact Or.inl rfl|exact Or.inr rfl) (hf:X.fn x=true∨X.env.scope.names.lookup x=some .local:=by first|exact .inl rfl|exact .inr rfl|assumption):PG3 X (.Name x pos) (zag j) :=
 PG.imp (zvf hN hi hx hf) fun v σ H Q hx11_=>by
  obtain ⟨ρ,l,S,d,l',S',sim,ro,rd,hm,p⟩:=hx11_
  cases hm
  exact p ρ H _ (Ext.refl ..) sim (ro.set j rd)
theorem zeg:zir X [] zc5:=PGs.imp zvi fun v σ H Q hx12_=>by
 obtain ⟨ρ,l,S,d,l',S',sim,ro,rd,hm,p⟩:=hx12_
 cases rd with
 | nil=>cases hm;exact ⟨rfl,p ρ H _ (Ext.refl ..) sim ro⟩
 | cons _ _=>cases hm
theorem zcf (h1:PG3 X tgt g) (h2:zir X ts' gs) (hs:(assignEach (tgt :: ts') X.env).map (·.2)=assign tgt X.env :: (assignEach ts' X.env).map (·.2):=by rfl):zir X (tgt :: ts') (zb4 g gs):=PGs.imp (zvj h1 h2 hs) fun v σ H Q hx13_=>by
 obtain ⟨ρ,l,S,d,l',S',sim,ro,rd,hm,p⟩:=hx13_
 cases rd with
 | nil=>cases hm
 | @cons x v' xs vs r1 r2 =>
  obtain ⟨⟨l1,S1⟩,q1,hm⟩:=bnd hm
  exact ⟨v',vs,rfl,ρ,l,S,x,l1,S1,sim,ro,r1,q1,fun ρ1 H1 σ1 e1 s1 ro1=>⟨ρ1,l1,S1,xs,l',S',s1,ro1,r2.mono e1,hm,fun ρ2 H2 σ2 e2 s2 ro2=>p ρ2 H2 σ2 (e1.trans e2) s2 ro2⟩⟩
theorem zeh {es:List Expr}{k n:Nat}(hc:X.calm=true) (h:zir X es gs) (hn:(assignEach es X.env).length=n:=by rfl) (hst:(assignEach es X.env).findIdx? (·.1)=none:=by rfl):PG3 X (.Tuple es k pos) (zc6 n gs) :=
 PG.imp (zvl hc h hn hst) fun v σ H Q hx14_=>by
  obtain ⟨ρ,l,S,d,l',S',sim,ro,rd,hm,p⟩:=hx14_
  cases rd with
  | @tup xs a vs ha r =>
   have hm:(if xs.length=n then gs xs l S else none)=some (l',S'):=hm
   by_cases hl:xs.length=n
   ·rw [if_pos hl] at hm
    exact ⟨a,vs,rfl,SqT.of ha,by rw [←r.length];exact hl,ρ,l,S,xs,l',S',sim,ro,r,hm,p⟩
   ·rw [if_neg hl] at hm;cases hm
  | _=>cases hm
theorem zyj {K:PySem.W.Frag}{ρ:List Addr}{S S':Sto}{H:Hp}{x y z:D}{x' y' z':V}{Q:Hp->Prop}(sim:Sim K ρ S H) (rx:RD ρ H x x') (ry:RD ρ H y y') (rz:RD ρ H z z') (h:zfh x y z S=some S') (q:∀H',Ext ρ H ρ H'->Sim K ρ S' H'->Q H'):zon x' y' z' H Q:=by
 unfold zfh at h
 split at h
 ·split at h
  ·rename_i hx
   obtain ⟨j,hj,h⟩:=bnd h
   cases h
   cases ry
   obtain ⟨a,us,ha',hH,r3⟩:=sim.lst hx
   cases rx with
   | ref hn =>
    rw [ha'] at hn;cases hn
    exact ⟨a,us,_,j,rfl,rfl,hH,by rw [←r3.length];exact hj,q _ (zhd ha' hH) (sim.set ha' hx hH (r3.set rz j))⟩
  ·cases h
 ·cases h
theorem zkz (ho:PE3 X o mo) (hi:PE3 X i mi)
  (ha:∀v,assign (.Subscript o i pos) X.env v=(do
   let ov ←holding [v] (eval o X.env)
   let iv ←holding [v,ov] (eval i X.env)
   standAt pos
   holding [v,ov,iv] (setItem ov iv v)
   release [v,ov,iv] []):=by intro _;rfl):PG3 X (.Subscript o i pos) (zf6 mo mi) :=
 PG.imp (zvn ho hi zw6 ha) fun v σ H Q hx15_=>by
  obtain ⟨ρ,l,S,d,l',S',sim,ro,rd,hm,p⟩:=hx15_
  obtain ⟨⟨x,S1⟩,q1,hm⟩:=bnd hm
  obtain ⟨⟨y,S2⟩,q2,hm⟩:=bnd hm
  obtain ⟨S3,q3,hm⟩:=bnd hm
  cases hm
  exact ⟨ρ,l,S,x,S1,sim,ro,q1,fun ρ1 H1 x' e1 s1 r1=>⟨ρ1,l,S1,y,S2,s1,ro.mono e1,q2,fun ρ2 H2 y' e2 s2 r2=>zyj s2 (r1.mono e2) r2 (rd.mono (e1.trans e2)) q3 fun H3 e3 s3=>p ρ2 H3 σ (e1.trans (e2.trans e3)) s3 (ro.mono (e1.trans (e2.trans e3)))⟩⟩
theorem zfi (he:PE3 X e me) (hg:PG3 X tgt g) (hs:swapsWithSole [tgt] e pos.line X.env=pure false:=by rfl) (hw:swappedStores [tgt] e X.env=pure none:=by rfl)
  (h1:(assignEach [tgt] X.env).map (·.2)=[assign tgt X.env]:=by rfl):PS3 X (.Assign [tgt] e pos) (zam me g):=PS.imp (zvo he hg hs hw h1) fun E σ H hx16_=>by
 obtain ⟨ρ,l,S,f,l',S',sim,ro,hm,p⟩:=hx16_
 obtain ⟨⟨x,S1⟩,q1,hm⟩:=bnd hm
 obtain ⟨⟨l2,S2⟩,q2,hm⟩:=bnd hm
 cases hm
 exact ⟨ρ,l,S,x,S1,sim,ro,q1,fun ρ1 H1 x' e1 s1 r1=>⟨ρ1,l,S1,x,_,_,s1,ro.mono e1,r1,q2,fun ρ2 H2 σ2 e2 s2 r2=>p ρ2 H2 σ2 (e1.trans e2) s2 r2⟩⟩
theorem zar (j:Nat) {x:Str}{pos':Pos}(hN:X.N.Nodup) (he:PE3 X e me) (hi:X.N[j]? = some x:=by rfl) (hx:Loc X.env.scope x:=by first|exact Or.inl rfl|exact Or.inr rfl) (hs:swapsWith e (some (.Name x pos')) pos.line X.env=pure false:=by rfl) (hf:X.fn x=true∨X.env.scope.names.lookup x=some .local:=by first|exact .inl rfl|exact .inr rfl|assumption) :
  PS3 X (.Assign [.Name x pos'] e pos) (zam me (zag j)):=PS.imp (zvp hN hi hx he hs hf) fun E σ H hx17_=>by
 obtain ⟨ρ,l,S,f,l',S',sim,ro,hm,p⟩:=hx17_
 obtain ⟨⟨x,S1⟩,q1,hm⟩:=bnd hm
 cases hm
 exact ⟨ρ,l,S,x,_,sim,ro,q1,fun ρ1 H1 x' e1 s1 r1=>p ρ1 H1 _ e1 s1 ((ro.mono e1).set j r1)⟩
end
noncomputable def zcs (g:GM) (b:SM):List D->SM
 | [],l,S=>some (.nx,l,S)
 | x :: xs,l,S=>(g x l S).bind fun p=>(b p.1 p.2).bind fun q=>match q.1 with
  | .nx=>zcs g b xs q.2.1 q.2.2
  | .ct=>zcs g b xs q.2.1 q.2.2
  | .bk=>some (.nx,q.2)
  | .rt d=>some (.rt d,q.2)
noncomputable def zc7 (g:GM) (b:SM) (n:Nat):Nat->Nat->SM
 | 0,_,_,_=>none
 | k+1,i,l,S=>(lstOf S n).bind fun xs=>match xs[i]? with
  | none=>some (.nx,l,S)
  | some x=>(g x l S).bind fun p=>(b p.1 p.2).bind fun q=>match q.1 with
   | .nx=>zc7 g b n k (i+1) q.2.1 q.2.2
   | .ct=>zc7 g b n k (i+1) q.2.1 q.2.2
   | .bk=>some (.nx,q.2)
   | .rt d=>some (.rt d,q.2)
noncomputable def zc0 (e:EM) (g:GM) (b:SM):SM:=fun l S=>(e l S).bind fun p=>match p.1 with
 | .tup xs=>zcs g b xs l p.2
 | .ref n=>(lstOf p.2 n).bind fun xs=>zc7 g b n (xs.length+1) 0 l p.2
 | _=>none
noncomputable def zav (lo:Int) (n:Nat):List D:=(List.range n).map fun (i:Nat)=>.int (lo+i)
noncomputable def zbg (as:AM):Lo->Sto->Option ((Int × Nat) × Sto):=fun l S=>(as l S).bind fun p=>match p.1 with
 | [.int j]=>if -(2 ^ 62)<=j/\j<2 ^ 62 then some ((0,j.toNat),p.2) else none
 | _=>none
noncomputable def zf7 (as:AM):Lo->Sto->Option ((Int × Nat) × Sto):=fun l S=>(as l S).bind fun p=>match p.1 with
 | [.int i,.int j]=>if -(2 ^ 62)<=i/\i<2 ^ 62/\-(2 ^ 62)<=j/\j<2 ^ 62 then some ((i,(j-i).toNat),p.2) else none
 | _=>none
noncomputable def zd1 (r:Lo->Sto->Option ((Int × Nat) × Sto)) (g:GM) (b:SM):SM:=fun l S=>(r l S).bind fun p=>zcs g b (zav p.1.1 p.1.2) l p.2
section
variable {K:PySem.W.Frag}{g:GM}{b:SM}{E:Ends}
theorem zpl {next:SM}{x:D}{v:V}{ρ:List Addr}{l:Lo}{S:Sto}{H:Hp}{σ:St}{f:Fl}{l':Lo}{S':Sto}(sim:Sim K ρ S H) (ro:RO ρ H l σ) (rx:RD ρ H x v)
  (hm:((g x l S).bind fun p=>(b p.1 p.2).bind fun q=>match q.1 with
   | .nx=>next q.2.1 q.2.2
   | .ct=>next q.2.1 q.2.2
   | .bk=>some (.nx,q.2)
   | .rt d=>some (.rt d,q.2))=some (f,l',S')) (p:∀ρ' H' σ',Ext ρ H ρ' H'->Sim K ρ' S' H'->RO ρ' H' l' σ'->zfb ρ' H' E σ' f)
  {N:St->Hp->Prop} (hN:∀ρ1 H1 σ1 l1 S1,Ext ρ H ρ1 H1->Sim K ρ1 S1 H1->RO ρ1 H1 l1 σ1->next l1 S1=some (f,l',S')->N σ1 H1) :
  tg K g v σ H fun σ2 H2=>ts K b { E with nx:=N,ct:=N,bk:=E.nx } σ2 H2:=by
 obtain ⟨⟨l1,S1⟩,q1,hm⟩:=bnd hm
 obtain ⟨⟨fl,l2,S2⟩,q2,hm⟩:=bnd hm
 refine ⟨ρ,l,S,x,l1,S1,sim,ro,rx,q1,fun ρ1 H1 σ1 e1 s1 r1=>⟨ρ1,l1,S1,fl,l2,S2,s1,r1,q2,fun ρ2 H2 σ2 e2 s2 r2=>?_⟩⟩
 cases fl with
 | nx=>exact hN ρ2 H2 σ2 l2 S2 (e1.trans e2) s2 r2 hm
 | ct=>exact hN ρ2 H2 σ2 l2 S2 (e1.trans e2) s2 r2 hm
 | bk=>cases hm;exact p ρ2 H2 σ2 (e1.trans e2) s2 r2
 | rt d=>cases hm;exact p ρ2 H2 σ2 (e1.trans e2) s2 r2
end
section
variable {X:Cx}{tgt iter:Expr}{body:List Stmt}{g:GM}{b:SM}{m:EM}{pos:Pos}
theorem zpm {K:PySem.W.Frag}{J:It}{vs:List V}{xs:List D}{ρ:List Addr}{l:Lo}{S:Sto}{H:Hp}{σ:St}{f:Fl}{l':Lo}{S':Sto}{E:Ends}(R:List Addr->Hp->Prop) (hR:∀ρ H ρ' H',Ext ρ H ρ' H'->R ρ H->R ρ' H')
  (hgo:∀(i:Nat) ρ H v,R ρ H->vs[i]? = some v->J.go i H) (hy:∀(i:Nat) ρ H v H',R ρ H->i<vs.length->J.yld i H v H'->H' = H/\vs[i]? = some v) (hst:∀ρ H,R ρ H->J.stop vs.length H)
  (hv:∀ρ H,R ρ H->RDs ρ H xs vs) (r0:R ρ H)
  (sim:Sim K ρ S H) (ro:RO ρ H l σ) (hm:zcs g b xs l S=some (f,l',S')) (p:∀ρ' H' σ',Ext ρ H ρ' H'->Sim K ρ' S' H'->RO ρ' H' l' σ'->zfb ρ' H' E σ' f) :
  ∃W:Nat->Nat->St->Hp->Prop,(∃m,W 0 m σ H)/\∀i m σ H,W i m σ H ->
   (J.stop i H/\E.nx σ H)∨(J.go i H/\∃N:St->Hp->Prop,(∀σ' H',N σ' H'->∃m',m' < m/\W (i+1) m' σ' H')/\∀x H',J.yld i H x H'->tg K g x σ H' fun σ2 H2=>ts K b { E with nx:=N,ct:=N,bk:=E.nx } σ2 H2):=by
 refine ⟨fun i m σ1 H1=>m=xs.length-i/\i<=xs.length/\∃ρ1 l1 S1,Ext ρ H ρ1 H1/\Sim K ρ1 S1 H1/\RO ρ1 H1 l1 σ1/\zcs g b (xs.drop i) l1 S1=some (f,l',S'),⟨xs.length,by simp,Nat.zero_le _,ρ,l,S,Ext.refl ..,sim,ro,hm⟩,?_⟩
 rintro i m σ1 H1 ⟨rfl,hi,ρ1,l1,S1,e1,s1,ro1,hm1⟩
 have R1:=hR _ _ _ _ e1 r0
 have hlen:=(hv _ _ r0).length
 by_cases hlt:i<xs.length
 ·have hx:xs[i]? = some xs[i]:=List.getElem?_eq_getElem hlt
  obtain ⟨v,hvi,rv⟩:=(hv _ _ R1).get hx
  rw [List.drop_eq_getElem_cons hlt] at hm1
  refine .inr ⟨hgo i ρ1 H1 v R1 hvi,_,fun σ' H' h=>h,fun y H' hyl=>?_⟩
  obtain ⟨e,hy2⟩:=hy i ρ1 H1 y H' R1 (by omega) hyl
  subst e
  rw [hvi] at hy2;cases hy2
  refine zpl (next:=zcs g b (xs.drop (i+1))) s1 ro1 rv hm1 (fun ρ' H' σ' e'=>p ρ' H' σ' (e1.trans e')) fun ρ2 H2 σ2 l2 S2 e2 s2 ro2 hm2=>?_
  exact ⟨xs.length-(i+1),by omega,rfl,hlt,ρ2,l2,S2,e1.trans e2,s2,ro2,hm2⟩
 ·have hil:i=xs.length:=by omega
  subst hil
  rw [List.drop_length] at hm1
  cases hm1
  exact .inl ⟨by rw [hlen];exact hst _ _ R1,p ρ1 H1 σ1 e1 s1 ro1⟩
theorem zyk (ρ:List Addr) (H:Hp) (lo:Int) (n:Nat):RDs ρ H (zav lo n) ((List.range n).map fun (i:Nat)=>V.int (lo+i)):=by
 unfold zav
 generalize List.range n=l
 induction l with
 | nil=>exact .nil
 | cons a r ih=>exact .cons (.int _) ih
theorem zyl {lo:Int}{n i:Nat}{v:V}(h:i<n) (hv:v=.int (lo+i)):((List.range n).map fun (i:Nat)=>V.int (lo+i))[i]? = some v:=by
 rw [List.getElem?_map,List.getElem?_range h,hv];rfl
theorem PI.or {wi wj:TI}(h:PI X tgt iter wi) (h':PI X tgt iter wj):PI X tgt iter (fun σ H R=>wi σ H R∨wj σ H R):=by
 intro pins s σ H R I q
 rcases q with q|q
 ·exact h pins s σ H R I q
 ·exact h' pins s σ H R I q
theorem zym {K:PySem.W.Frag}{n:Nat}{a:Addr}{ρ:List Addr}{l:Lo}{S:Sto}{H:Hp}{σ:St}{f:Fl}{l':Lo}{S':Sto}{E:Ends}{k:Nat}(ha:ρ[n]? = some a)
  (sim:Sim K ρ S H) (ro:RO ρ H l σ) (hm:zc7 g b n k 0 l S=some (f,l',S')) (p:∀ρ' H' σ',Ext ρ H ρ' H'->Sim K ρ' S' H'->RO ρ' H' l' σ'->zfb ρ' H' E σ' f) :
  ∃W:Nat->Nat->St->Hp->Prop,(∃m,W 0 m σ H)/\∀i m σ H,W i m σ H ->
   ((Itl K a).stop i H/\E.nx σ H)∨((Itl K a).go i H/\∃N:St->Hp->Prop,(∀σ' H',N σ' H'->∃m',m' < m/\W (i+1) m' σ' H')/\∀x H',(Itl K a).yld i H x H'->tg K g x σ H' fun σ2 H2=>ts K b { E with nx:=N,ct:=N,bk:=E.nx } σ2 H2):=by
 refine ⟨fun i m σ1 H1=>∃ρ1 l1 S1,Ext ρ H ρ1 H1/\Sim K ρ1 S1 H1/\RO ρ1 H1 l1 σ1/\zc7 g b n m i l1 S1=some (f,l',S'),⟨k,ρ,l,S,Ext.refl ..,sim,ro,hm⟩,?_⟩
 rintro i m σ1 H1 ⟨ρ1,l1,S1,e1,s1,ro1,hm1⟩
 cases m with
 | zero=>cases hm1
 | succ m =>
  have ha1:=e1.pre n a ha
  unfold zc7 at hm1
  obtain ⟨xs,hx,hm1⟩:=bnd hm1
  obtain ⟨a',vs,ha',sq,rv⟩:=s1.lstOf hx
  rw [ha1] at ha';cases ha'
  cases hi:xs[i]? with
  | none =>
   rw [hi] at hm1
   cases hm1
   have hl:xs.length<=i:=List.getElem?_eq_none_iff.mp hi
   exact .inl ⟨⟨vs,sq,by rw [←rv.length];exact hl⟩,p ρ1 H1 σ1 e1 s1 ro1⟩
  | some x =>
   rw [hi] at hm1
   obtain ⟨v,hvi,r⟩:=rv.get hi
   refine .inr ⟨⟨vs,v,sq,hvi⟩,_,fun σ' H' h=>h,fun y H' hyl=>?_⟩
   obtain ⟨e,hy2⟩:=hyl
   subst e
   have hy3:=hy2 vs sq
   rw [hvi] at hy3;cases hy3
   refine zpl (next:=zc7 g b n m (i+1)) s1 ro1 r hm1 (fun ρ' H' σ' e'=>p ρ' H' σ' (e1.trans e')) fun ρ2 H2 σ2 l2 S2 e2 s2 ro2 hm2=>?_
   exact ⟨m,Nat.lt_succ_self m,ρ2,l2,S2,e1.trans e2,s2,ro2,hm2⟩
theorem zfj (hp:PassesOwn (model X.prog X.w) X.A X.env X.xe) (hc:X.calm=true) (hi:PE3 X iter m) (hg:PG3 X tgt g) (hb:zdh X body b)
  (hs:∀x,foldedSetIterable iter X.env x=pure x:=by intro _;rfl):PS3 X (.For tgt iter body [] pos) (zc0 m g b) :=
 PS.imp (zn1 hp hc (PI.or (znx hi) (zny hi)) hg hb hs) fun E σ H hx18_=>by
  obtain ⟨ρ,l,S,f,l',S',sim,ro,hm,p⟩:=hx18_
  obtain ⟨⟨x,S1⟩,q1,hm⟩:=bnd hm
  dsimp only at hm
  split at hm
  ·rename_i xs
   refine .inr ⟨ρ,l,S,.tup xs,S1,sim,ro,q1,fun ρ1 H1 x' e1 s1 r1=>?_⟩
   cases r1 with
   | @tup xs a vs ha r =>
    refine ⟨a,rfl,⟨vs,SqT.of ha⟩,zpm (vs:=vs) (fun ρ' H'=>H' a=some (.tup vs)/\RDs ρ' H' xs vs) (fun ρ H ρ' H' e ⟨h1,h2⟩=>⟨e.tup _ _ h1,h2.mono e⟩)
     (fun i ρ H v ⟨h1,_⟩ hv=>⟨vs,v,SqT.of h1,hv⟩) (fun i ρ H v H' ⟨h1,_⟩ _ hy=>⟨hy.1,hy.2 vs (SqT.of h1)⟩) (fun ρ H ⟨h1,_⟩=>⟨vs,SqT.of h1,Nat.le_refl _⟩) (fun ρ H h=>h.2) ⟨ha,r⟩ s1 (ro.mono e1) hm fun ρ' H' σ' e'=>p ρ' H' σ' (e1.trans e')⟩
  ·rename_i n
   obtain ⟨xs,hx,hm⟩:=bnd hm
   refine .inl ⟨ρ,l,S,.ref n,S1,sim,ro,q1,fun ρ1 H1 x' e1 s1 r1=>?_⟩
   obtain ⟨a,vs,ha,sq,rv⟩:=s1.lstOf hx
   cases r1 with
   | ref hn =>
    rw [ha] at hn;cases hn
    exact ⟨a,rfl,⟨vs,sq⟩,zym ha s1 (ro.mono e1) hm (fun ρ' H' σ' e'=>p ρ' H' σ' (e1.trans e'))⟩
  ·cases hm
theorem zf8 {a:Expr}{mA:AM}{p0 pos':Pos}(hp:PassesOwn (model X.prog X.w) X.A X.env X.xe) (hc:X.calm=true) (hgl:Gl X "range") (hmg:X.mg "range" = none) (ha:PA3 X [a] mA) (hg:PG3 X tgt g) (hb:zdh X body b)
  (hs:∀x,foldedSetIterable (.Call (.Name "range" p0) [a] [] pos') X.env x=pure x:=by intro _;rfl) (hst:starEach [a] X.env=[(false,eval a X.env)]:=by rfl):PS3 X (.For tgt (.Call (.Name "range" p0) [a] [] pos') body [] pos) (zd1 (zbg mA) g b) :=
 PS.imp (zn1 hp hc (zn0 hgl hmg ha hst) hg hb hs) fun E σ H hx19_=>by
  obtain ⟨ρ,l,S,f,l',S',sim,ro,hm,p⟩:=hx19_
  obtain ⟨⟨⟨lo,n⟩,S1⟩,q1,hm⟩:=bnd hm
  obtain ⟨⟨xs,S2⟩,q2,q1⟩:=bnd q1
  dsimp only at q1 hm
  split at q1
  ·rename_i j
   obtain ⟨hz,e⟩:=zbl q1
   cases e
   refine ⟨ρ,l,S,[.int j],S1,sim,ro,q2,fun ρ1 H1 vs e1 s1 r1=>?_⟩
   obtain ⟨v,rfl,rv⟩:=r1.one
   cases rv
   refine ⟨j,rfl,hz.1,hz.2,zpm (vs:=(List.range j.toNat).map fun (i:Nat)=>V.int (0+i)) (fun _ _=>True) (fun _ _ _ _ _ h=>h) (fun i ρ H v _ hv=>?_) (fun i ρ H v H' _ hl hy=>⟨hy.1,?_⟩) (fun ρ H _=>?_) (fun ρ H _=>zyk ρ H 0 j.toNat) trivial s1 (ro.mono e1) hm fun ρ' H' σ' e'=>p ρ' H' σ' (e1.trans e')⟩
   ·have:=(List.getElem?_eq_some_iff.mp hv).1
    simp at this
    show i<j.toNat
    omega
   ·obtain ⟨_,hy⟩:=hy
    exact zyl (by simpa using hl) hy
   ·show j.toNat<=_
    simp
  ·cases q1
end
noncomputable def zbt (n:Nat) (b:SM):FM:=fun ds S=>(b (ds.map some++List.replicate (n-ds.length) none) S).bind fun p=>match p.1 with
 | .rt d=>some (d,p.2.2)
 | .nx=>some (.non,p.2.2)
 | _=>none
theorem RDs.locals {ρ:List Addr}{H:Hp}{ds:List D}{vs:List V}(r:RDs ρ H ds vs) (N:List Str):RO ρ H (ds.map some++List.replicate (N.length-ds.length) none) (L2.start N vs):=by
 unfold L2.start
 rw [←r.length]
 refine ⟨by simp [r.length],fun i d h=>?_⟩
 by_cases hl:i<ds.length
 ·rw [List.getElem?_append_left (by simpa using hl),List.getElem?_map] at h
  cases e:ds[i]? with
  | none=>rw [e] at h;cases h
  | some d' =>
   rw [e] at h
   have h':some (some d')=some (some d):=h
   cases h'
   obtain ⟨v,h1,h2⟩:=r.get e
   exact ⟨v,by rw [List.getElem?_append_left (by rw [List.length_map,←r.length];exact hl),List.getElem?_map,h1];rfl,h2⟩
 ·rw [List.getElem?_append_right (by simpa using hl),List.getElem?_replicate] at h
  split at h
  ·cases h
  ·cases h
theorem zpn {P:Program}{w:World}{K:PySem.W.Frag}{mg:Str->Option Value}{base:Heap}{x qual:Str}{st:Stmt}{f:Addr}{fd:FuncData}{N ps:List Str}{k n:Nat}{b:SM}(F:Fun K x qual st f fd) (S:FnScope N ps (zat st)) (hn:ps.length=n)
  (hbody:∀(cdv:Value),PySem.W.codeIn K cdv qual=true->∀(A:Around) (outer:List Env) (s:Shared) (H:Hp) (E:XK),Room k (A.deeper (envOfC qual (zat st) s.heap.objs.size f cdv)) ->
   zdh (ze9 CX0 P w K mg base N qual (zat st) f cdv A outer s H E).nox (zbm st) b):FnOk P w K mg base CX0 (k+1) f fd ps (sp3 K n (zbt N.length b)):=by
 obtain ⟨oc,od,kV,doc,pm,an,cdv,ct,osl,rfl,lk,hcd⟩:=F.ex
 refine zw0 lk hcd S (fun vs H Q E h=>by rw [h.1,hn]) fun A outer s H vs Q E hr h=>?_
 obtain ⟨hl,ρ,ds,S0,v,S',sim,rd,hm,p⟩:=h
 refine ⟨_,PSs.nox (hbody cdv hcd A outer s H E hr),?_⟩
 obtain ⟨⟨fl,l',S1⟩,q,hm⟩:=bnd hm
 refine ⟨ρ,_,S0,fl,l',S1,sim,rd.locals N,q,fun ρ' H' σ' e' s' r'=>?_⟩
 cases fl with
 | nx=>cases hm;exact p ρ' H' _ e' s' .non
 | rt d=>cases hm;exact fun v' rv=>p ρ' H' v' e' s' rv
 | bk=>cases hm
 | ct=>cases hm
end L3
namespace L3
open PySem PySem.Spec PyProof.Rows L2
noncomputable def zbn (env:Env):List (Str × NameKind)->List (Str × Addr)->List (Str × Addr)
 | [],cs=>cs
 | (n,k) :: r,cs=>if k == .free then (match env.cells.lookup n with|some c=>zbn env r ((n,c) :: cs)|none=>zbn env r cs) else zbn env r cs
theorem zpo (env:Env):∀(names:List (Str × NameKind)) (cs:List (Str × Addr)),(∀x∈names,x.2=.free->∃c,env.cells.lookup x.1=some c) ->
  (forIn names cs (fun x r=>if (x.2 == NameKind.free)=true then do let c ←cellOf env x.1;pure (ForInStep.yield ((x.1,c) :: r)) else pure (ForInStep.yield r)):Sem (List (Str × Addr)))=pure (zbn env names cs)
 | [],cs,_=>rfl
 | (n,k) :: r,cs,h=>by
  have ih:=fun cs=>zpo env r cs fun x hx=>h x (List.mem_cons_of_mem _ hx)
  rw [List.forIn_cons]
  by_cases hk:k=.free
  ·subst hk
   obtain ⟨c,hc⟩:=h (n,.free) List.mem_cons_self rfl
   simp only [beq_self_eq_true,if_true,cellOf,hc,zbn,pure_bind,bind_assoc]
   exact ih _
  ·have hb:(k == NameKind.free)=false:=by simpa using hk
   simp only [hb,Bool.false_eq_true,if_false,zbn,pure_bind]
   exact ih _
theorem zi1 (scope:Scope) (env:Env) (h:∀x∈scope.names,x.2=.free->∃c,env.cells.lookup x.1=some c):closureFor scope env=pure (zbn env scope.names []):=by
 have e:=zpo env scope.names [] h
 unfold closureFor
 show (forIn scope.names ([]:List (Str × Addr)) (fun (x:Str × NameKind) (r:List (Str × Addr))=>if (x.2 == NameKind.free)=true then do let c ←cellOf env x.1;pure (ForInStep.yield ((x.1,c) :: r)) else pure (ForInStep.yield r)) >>= fun cs=>pure cs)=_
 rw [e,pure_bind]
theorem zfk (env:Env):∀(names:List (Str × NameKind)) (cs:List (Str × Addr)),(∀x c,cs.lookup x=some c->env.cells.lookup x=some c)->∀x c,(zbn env names cs).lookup x=some c->env.cells.lookup x=some c
 | [],cs,h,x,c,q=>h x c q
 | (n,k) :: r,cs,h,x,c,q=>by
  unfold zbn at q
  split at q
  ·split at q
   ·rename_i c' e
    refine zfk env r _ (fun y d hy=>?_) x c q
    rw [List.lookup_cons] at hy
    split at hy
    ·rename_i hb
     have:y=n:=by simpa using hb
     cases hy
     rw [this];exact e
    ·exact h y d hy
   ·exact zfk env r cs h x c q
  ·exact zfk env r cs h x c q
theorem zdo (env:Env):∀(names:List (Str × NameKind)) (cs:List (Str × Addr)) (x:Str),((x,NameKind.free)∈names∨∃c,cs.lookup x=some c)->(∃c,env.cells.lookup x=some c)->∃c,(zbn env names cs).lookup x=some c
 | [],cs,x,h,_=>by
  rcases h with h|h
  ·cases h
  ·exact h
 | (n,k) :: r,cs,x,h,hx=>by
  unfold zbn
  by_cases hk:(k == NameKind.free)=true
  ·rw [if_pos hk]
   split
   ·rename_i c' e
    refine zdo env r _ x ?_ hx
    by_cases hxn:x=n
    ·exact .inr ⟨c',by rw [hxn,List.lookup_cons];simp⟩
    ·rcases h with h|⟨c,h⟩
     ·rcases List.mem_cons.mp h with h|h
      ·cases h;exact absurd rfl hxn
      ·exact .inl h
     ·exact .inr ⟨c,by
       rw [List.lookup_cons]
       have:(x == n)=false:=by simpa using hxn
       rw [this];exact h⟩
   ·rename_i e
    refine zdo env r _ x ?_ hx
    rcases h with h|h
    ·rcases List.mem_cons.mp h with h|h
     ·cases h
      obtain ⟨c,hc⟩:=hx
      rw [hc] at e;cases e
     ·exact .inl h
    ·exact .inr h
  ·rw [if_neg hk]
   refine zdo env r _ x ?_ hx
   rcases h with h|h
   ·rcases List.mem_cons.mp h with h|h
    ·cases h;exact absurd rfl hk
    ·exact .inl h
   ·exact .inr h
noncomputable def cxC (X:Cx) (N':List Str) (scope:Scope) (C:Addr) (s:Shared) (H:Hp) (fp:List Addr) (pins:List (Addr × Obj)):Cx where
 prog:=X.prog
 w:=X.w
 K:=X.K
 mg:=X.mg
 base:=X.base
 A:=X.A
 N:=N'
 s₀:=s
 H₀:=H
 env:=compEnvC scope (zbn X.env scope.names []) C X.env
 outer:=X.stack
 stack:=X.stack
 ex:=fp
 fn:=fun _=>false
 calm:=X.calm
 pn:=X.pn++pins
 xe:=fun _ _=>False
section
variable {prog:Program}{w:World}{A:Around}{R:Result->Shared->Prop}{s:Shared}
theorem zpp {elt target iter:Expr}{ifs:List Expr}{scope:Scope}{pos:Pos}{it acc:Value}{env:Env}(I:Nat->Shared->Prop)
  (turn:∀n s,I n s->wpAny (model prog w) A (pyNext it) (fun r s₁=>match r with
   | none=>R (.ok .next) s₁
   | some v=>wpAny (model prog w) A (letOwnedTupleGo target it v) (fun _ s₁'=>wpAny (model prog w) A (assign target env v) (fun _ s₂ =>
     wpAny (model prog w) A (forIn ifs true fun c r=>if r=true then do let ok ←isTrue c env (eval c env);pure (ForInStep.yield ok) else pure (ForInStep.yield r)) (fun ok s₃ =>
      if ok=true then wpAny (model prog w) A (eval elt env) (fun x s₄ =>
       wpAny (model prog w) A (call (.builtin "list.append") [acc,x]) (fun _ s₅=>∃m,m<n/\I m s₅) (fun _ _=>False) s₄) (fun _ _=>False) s₃
      else ∃m,m<n/\I m s₃) (fun _ _=>False) s₂) (fun _ _=>False) s₁') (fun _ _=>False) s₁) (fun _ _=>False) s)
  (n:Nat) (h:I n s) :
  codeAny (model prog w) A (.compLoop (.ListComp elt [⟨target,iter,ifs,0⟩] scope pos) 0 it acc env) R s:=by
 refine codeAny_loop rfl I (fun n s hI=>?_) n h
 show wpAny _ A ((compTurn (.ListComp elt [⟨target,iter,ifs,0⟩] scope pos) 0 it acc env).onRaise (fun x=>do noteFrame x env;theTreesLotGoes x)) _ _ s
 refine wpAny_noted ?_
 rw [compTurn_list]
 refine wpAny_bind (wpAny_standAt (wpAny_bind (wpAny_mono (turn n s hI) (fun r s₁ h₁=>?_) fun _ _ h'=>h'.elim)))
 cases r with
 | none=>exact wpAny_pure h₁
 | some v =>
  refine wpAny_bind (wpAny_mono h₁ (fun _ s₁' h₁=>?_) fun _ _ h'=>h'.elim)
  refine wpAny_bind (wpAny_mono h₁ (fun _ s₂ h₂=>wpAny_bind (wpAny_mono h₂ (fun ok s₃ h₃=>?_) fun _ _ h'=>h'.elim)) fun _ _ h'=>h'.elim)
  cases ok with
  | false=>exact wpAny_pure ⟨rfl,h₃⟩
  | true =>
   exact wpAny_bind (wpAny_bind (wpAny_mono h₃ (fun x s₄ h₄=>wpAny_bind (wpAny_mono h₄ (fun _ s₅ h₅=>wpAny_pure (wpAny_pure ⟨rfl,h₅⟩)) fun _ _ h'=>h'.elim)) fun _ _ h'=>h'.elim))
end
noncomputable def PTs (X:Cx) (ifs:List Expr) (t:TT):Prop:=∀(pins:List (Addr × Obj)) (s:Shared) (σ:St) (H:Hp) (Q:Bool->Hp->Prop),Inv X pins σ H s->t σ H Q ->
 wpAny (model X.prog X.w) X.A (forIn ifs true fun c r=>if r=true then do let ok ←isTrue c X.env (eval c X.env);pure (ForInStep.yield ok) else pure (ForInStep.yield r)) (TP X pins σ Q) X.xe s
theorem zyn {X:Cx}:PTs X [] (fun _ H Q=>Q true H):=fun _ _ _ H _ I h=>wpAny_tests_nil ⟨H,I,h⟩
theorem zyo {X:Cx}{c:Expr}{t:TT}(h:PT X c t):PTs X [c] t:=fun pins s σ H Q I q=>wpAny_tests_one (h pins s σ H Q I q)
noncomputable def zf9 (K:PySem.W.Frag) (wi:TI) (src:St->St) (g:TG) (tts:TT) (t:TE):TE:=fun σ H Q=>wi σ H fun J H1=>∀D,H1 D=none->K.lookup D=none->∃W:Nat->Nat->St->Hp->Prop,
 (∃m,W 0 m (src σ) (upd H1 D (.lst [])))/\∀i m σ' H',W i m σ' H' ->
  (J.stop i H'/\Q (.ref D) H')∨(J.go i H'/\∃N:St->Hp->Prop,(∀σ' H',N σ' H'->∃m',m' < m/\W (i+1) m' σ' H') /\
   ∀x H'',J.yld i H' x H''->g x σ' H'' fun σ2 H2=>tts σ2 H2 fun b H3=>if b=true then t σ2 H3 (fun v H4=>∃ys,H4 D=some (.lst ys)/\ys.length<sizeLine/\N σ2 (upd H4 D (.lst (ys++[v])))) else N σ2 H3)
theorem zhj {scope:Scope}{env:Env}:∀{names:List (Str × NameKind)}{x:Str},names.lookup x=some .free ->
  ((names.map fun (n,k)=>if (k == NameKind.free && env.scope.kind == .function && env.kindOf n == some .cell) then (n,NameKind.cell) else (n,k)).lookup x=some .cell ∨
   (names.map fun (n,k)=>if (k == NameKind.free && env.scope.kind == .function && env.kindOf n == some .cell) then (n,NameKind.cell) else (n,k)).lookup x=some .free)
 | [],x,h=>by simp at h
 | (n,k) :: r,x,h=>by
  have ih:=@zhj scope env r x
  show List.lookup x ((if (k == NameKind.free && env.scope.kind == .function && env.kindOf n == some .cell)=true then (n,NameKind.cell) else (n,k)) :: _)=_∨List.lookup x ((if (k == NameKind.free && env.scope.kind == .function && env.kindOf n == some .cell)=true then (n,NameKind.cell) else (n,k)) :: _)=_
  cases hx:x == n with
  | true =>
   simp only [List.lookup_cons,hx] at h
   cases h
   by_cases hc:(NameKind.free == NameKind.free && env.scope.kind == .function && env.kindOf n == some .cell)=true
   ·rw [if_pos hc];simp [List.lookup_cons,hx]
   ·rw [if_neg hc];simp [List.lookup_cons,hx]
  | false =>
   simp only [List.lookup_cons,hx] at h
   by_cases hc:(k == NameKind.free && env.scope.kind == .function && env.kindOf n == some .cell)=true
   ·rw [if_pos hc];simp only [List.lookup_cons,hx];exact ih h
   ·rw [if_neg hc];simp only [List.lookup_cons,hx];exact ih h
structure CompSc (X:Cx) (N':List Str) (scope:Scope) (src:St->St):Prop where
 kind:scope.kind=.function
 nocell:∀y∈scope.names,y.2≠.cell
 names:∀y∈scope.names,y.2=.local->scope.names.lookup y.1=some .local
 free:∀y∈scope.names,y.2=.free->X.env.kindOf y.1=some .cell∨X.env.kindOf y.1=some .free
 rel:∀y,(relabel scope X.env).names.lookup y=some .cell∨(relabel scope X.env).names.lookup y=some .free->(y,NameKind.free)∈scope.names
 len:∀σ,(src σ).length=N'.length
 src:∀σ (i:Nat) v x,(src σ)[i]? = some (some v)->N'[i]? = some x->∃j:Nat,X.N[j]? = some x/\σ[j]? = some (some v)/\scope.names.lookup x=some .free
theorem zpq {X:Cx}{N':List Str}{elt iter tgt:Expr}{ifs:List Expr}{scope:Scope}{pos pos':Pos}{use:Option (Value->Sem Unit)}{R:Value->Shared->Prop}{pins:List (Addr × Obj)}{s:Shared}{σ:St}{H:Hp}{Q:VK}{wi:TI}{src:St->St}{g:TG}{tts:TT}{t:TE}(hcalm:X.calm=true) (sc:CompSc X N' scope src)
  (hi:PI X tgt iter wi) (hg:∀C s H fp pins,PG (cxC X N' scope C s H fp pins) tgt g) (ht:∀C s H fp pins,PTs (cxC X N' scope C s H fp pins) ifs tts) (he:∀C s H fp pins,PE (cxC X N' scope C s H fp pins) elt t)
  (hs:∀x,foldedSetIterable iter X.env x=pure x) (I:Inv X pins σ H s) (h:zf9 X.K wi src g tts t σ H Q)
  (fin:∀D H5 s6 C mC,Inv X pins σ H5 s6->zcb X pins H5 C->s6.heap.Ns C mC->Q (.ref D) H5->compPost (model X.prog X.w) X.A X.xe use R (.ref D) C (.ok .next) s6) :
  wpAny (model X.prog X.w) X.A (comprehension (.ListComp elt [⟨tgt,iter,ifs,0⟩] scope pos) scope X.env pos' (newList []) false (eval iter X.env) use) R X.xe s:=by
 have hasC:∀x∈scope.names,x.2=.free->∃c,X.env.cells.lookup x.1=some c:=fun x hx hf=>I.ok.has x.1 (sc.free x hx hf)
 refine wpAny_comprehension_free (use:=use) (env:=X.env) rfl hs (zi1 scope X.env hasC) sc.kind sc.names ?_
 show wpAny (model X.prog X.w) X.A (eval iter X.env) _ _ s
 refine wpAny_mono (hi pins s σ H _ I h) (fun v s1 h1=>wpAny_mono h1 (fun itv s2 h2=>?_) fun _ _ z=>z) fun _ _ z=>z
 obtain ⟨it,fp,tn,J,H2,rfl,I2,T,st2,f2,q⟩:=h2
 refine wpAny_newObj_type ?_ (by show 0<=sizeLine;exact Nat.zero_le _)
 have hD:H2 s2.heap.objs.size=none:=I2.hok.fresh (Nat.le_refl _)
 have I3:Inv X pins σ (upd H2 s2.heap.objs.size (.lst [])) { s2 with heap:=s2.heap.push { cls:=.type "list",data:=.seq ([]:List Value).toArray } }:=I2.lnew (t':=s2.toks) .nil (Nat.zero_le _)
 obtain ⟨W,⟨m0,w0⟩,turn⟩:=q s2.heap.objs.size hD (by
  cases e:X.K.lookup s2.heap.objs.size with
  | none=>rfl
  | some o=>exact absurd (Heap.lt_size (I2.kIn _ o e)) (Nat.lt_irrefl _))
 refine wpAny_newFunctionEnv sc.nocell (by intro y hy;simp at hy) (fun h' hns hsb=>?_) sc.kind
 have fpIn:∀b∈fp,∃o,s2.heap.get? b=some o/\∀v,o.data≠.cell v:=T.obj 0 s2.heap st2
 have fpD:∀b∈fp,b≠s2.heap.objs.size:=fun b hb=>let ⟨o,e,_⟩:=fpIn b hb;Nat.ne_of_lt (Heap.lt_size e)
 have f3:∀b∈fp,zcb X pins (upd H2 s2.heap.objs.size (.lst [])) b:=fun b hb=>⟨by rw [zas (fpD b hb)];exact (f2 b hb).1,(f2 b hb).2⟩
 have st3:tn 0 (s2.heap.push { cls:=.type "list",data:=.seq ([]:List Value).toArray }):=T.keep _ _ _ st2 fun b hb o e=>Heap.get?_push_of_some _ e
 clear q hD h st2 f2 fpD
 generalize upd H2 s2.heap.objs.size (.lst [])=H3 at *
 generalize hDe:s2.heap.objs.size=D at *
 have fpIn3:∀b∈fp,∃o,(s2.heap.push { cls:=.type "list",data:=.seq ([]:List Value).toArray }).get? b=some o/\∀v,o.data≠.cell v:=T.obj 0 _ st3
 clear fpIn
 generalize s2.heap.push { cls:=.type "list",data:=.seq ([]:List Value).toArray }=h3 at *
 have old:∀b o,h3.get? b=some o->h'.get? b=some o:=fun b o e=>hsb.extBut b o (Nat.ne_of_lt (Heap.lt_size e)) (Heap.get?_push_of_some _ e)
 have stkNo:∀b,b≠X.env.locals->b ∉ X.fs->b ∉ frs X.stack:=fun b h1 h2 hb=>by
  rcases List.mem_cons.mp (I3.stkSub b hb) with z|z
  ·exact h1 z
  ·exact h2 z
 have sub:=zfk X.env scope.names [] (fun x c z=>by simp at z)
 have cNe:∀b o,h3.get? b=some o->b≠h3.objs.size:=fun b o e=>Nat.ne_of_lt (Heap.lt_size e)
 have I4:Inv (cxC X N' scope h3.objs.size { s2 with heap:=h3 } H3 fp pins) [] (src σ) H3 { s2 with heap:=h',toks:=s2.toks+([]:List (Str × Value)).length }:=by
  refine ⟨⟨I3.ok.mod,sc.kind,I3.ok.glob,I3.ok.blt,Nat.le_refl _,fun x y c h1 h2=>I3.ok.inj x y c (sub x c h1) (sub y c h2),fun x hx=>?_,fun x c z=>absurd (show false=true from z) Bool.false_ne_true,I3.ok.hd,I3.ok.frames,.inl rfl,fun b hb=>⟨?_,fun x c z=>(f3 b hb).2.2.2.2.1 x c (sub x c z)⟩,fun b o e=>I3.bs b o e,Nat.le_trans I3.ok.bsz I3.sz,fun b o e hb=>?_,fun b hb=>stkNo b (f3 b hb).2.1 (f3 b hb).2.2.1,I3.stack,I3.stkFree⟩,
   rfl,I3.bare,Un.kept old,⟨_,hns,fun i x v h1 h2 h3'=>?_⟩,fun x c z=>?_,I3.hok.fresh (Nat.le_refl _),fun x c z=>I3.freeC x c (sub x c z),fun p hp=>?_,I3.hok.kept old,sc.len σ⟩
  ·have hm:=sc.rel x hx
   exact zdo X.env scope.names [] x (.inl hm) (hasC _ hm rfl)
  ·obtain ⟨o,e,_⟩:=fpIn3 b hb
   exact cNe b o e
  ·rcases (f3 b hb).2.2.2.1 with z|z
   ·exact I3.ok.noex b o e z
   ·have:=Heap.lt_size (I3.ok.bs b o e).1
    exact absurd (Nat.lt_of_lt_of_le this z) (Nat.lt_irrefl _)
  ·obtain ⟨j,e1,e2,e3⟩:=sc.src σ i v x h2 h1
   obtain ⟨m,hn,hl⟩:=I3.loc
   have hmem:=PySem.mem_of_lookup e3
   have hk:=sc.free (x,.free) hmem rfl
   have vis:Vis X.env.scope x:=by
    rcases hk with k|k
    ·exact .inr (.inl k)
    ·exact .inr (.inr k)
   obtain ⟨u,r,lk⟩:=hl j x v e1 e2 vis
   refine ⟨u,r,.inr ⟨?_,?_⟩⟩
   ·exact zhj (scope:=scope) e3
   ·rcases lk with ⟨k,_⟩|⟨_,c,hc,hcell⟩
    ·rcases hk with k' | k' <;> (rw [k] at k';cases k')
    ·obtain ⟨c',hc'⟩:=zdo X.env scope.names [] x (.inl hmem) ⟨c,hc⟩
     have:=sub x c' hc'
     rw [hc] at this;cases this
     obtain ⟨o,ho,hd⟩:=hcell
     exact ⟨c,hc',o,old _ _ ho,hd⟩
  ·obtain ⟨v,o,ho,hd⟩:=I3.cell x c (sub x c z)
   exact ⟨v,o,old _ _ ho,hd⟩
  ·have hp':p∈X.pn++pins:=by simpa [cxC] using hp
   obtain ⟨e,n,ne,nf,d⟩:=I3.pin p hp'
   exact ⟨old _ _ e,n,cNe _ _ e,stkNo _ ne nf,d⟩
 have st4:tn 0 h':=T.keep _ _ _ st3 fun b hb o e=>old b o e
 have fr4:∀b∈fp,H3 b=none:=fun b hb=>(f3 b hb).1
 have stat:∀{H':Hp},(∀b∈fp,H' b=none)->∀b∈fp,zcb (cxC X N' scope h3.objs.size { s2 with heap:=h3 } H3 fp pins) [] H' b:=fun hn b hb=>by
  obtain ⟨g0,g1,g2,g3,g4,g5⟩:=f3 b hb
  obtain ⟨o,e,_⟩:=fpIn3 b hb
  exact ⟨hn b hb,cNe b o e,stkNo b g1 g2,.inl hb,fun x c z=>g4 x c (sub x c z),fun p hp=>g5 p (by simpa [cxC] using hp)⟩
 have loop:codeAny (model X.prog X.w) X.A (.compLoop (.ListComp elt [⟨tgt,iter,ifs,0⟩] scope pos) 0 (.ref it) (.ref D) (compEnvC scope (zbn X.env scope.names []) h3.objs.size X.env))
   (compPost (model X.prog X.w) X.A X.xe use R (.ref D) h3.objs.size) { s2 with heap:=h',toks:=s2.toks+([]:List (Str × Value)).length }:=by
  refine zpp (fun n s'=>∃i σ' H',Inv (cxC X N' scope h3.objs.size { s2 with heap:=h3 } H3 fp pins) [] σ' H' s'/\tn i s'.heap/\(∀b∈fp,H' b=none)/\W i n σ' H') ?_ m0 ⟨0,src σ,H3,I4,st4,fr4,w0⟩
  rintro n s5 ⟨i,σ5,H5,I5,st5,fr5,w5⟩
  rcases turn i n σ5 H5 w5 with ⟨stop,qn⟩|⟨go,N,hN,step⟩
  ·refine wpAny_mono (T.done (cxC X N' scope h3.objs.size { s2 with heap:=h3 } H3 fp pins) rfl rfl rfl hcalm i [] s5 σ5 H5 (fun _ _=>False) I5 (stat fr5) st5 stop) (fun r s6 hr=>?_) fun _ _ z=>z
   obtain ⟨hr,I6⟩:=hr
   subst hr
   obtain ⟨mC,hnC,_⟩:=I6.loc
   have IX:Inv X pins σ H5 s6:=I3.call' (s':=s6) (ch:=fp) I6.os I6.base I6.hok I6.bare fun b hb=>⟨(f3 b hb).2.2.2.1,(f3 b hb).2.1,(f3 b hb).2.2.2.2.1,(f3 b hb).2.2.2.2.2⟩
   exact fin D H5 s6 h3.objs.size mC IX (I3.fpOk (Nat.le_refl _) I6.free) hnC qn
  ·refine wpAny_mono (T.item (cxC X N' scope h3.objs.size { s2 with heap:=h3 } H3 fp pins) rfl rfl rfl hcalm i [] s5 σ5 H5 (fun _ _=>False) I5 (stat fr5) st5 go) (fun r s6 hr=>?_) fun _ _ z=>z
   obtain ⟨u,hr,h6⟩:=hr
   subst hr
   refine wpAny_mono h6 (fun _ s7 h7=>?_) fun _ _ z=>z
   obtain ⟨x,H7,I7,r7,y7,st7,fr7⟩:=h7
   have I7':=I7.pinned (stat fr7) (T.obj _ _ st7)
   refine wpAny_mono (hg _ _ _ _ _ _ s7 σ5 H7 x u _ I7' r7 (step x H7 y7)) (fun _ s8 h8=>?_) fun _ _ z=>z
   obtain ⟨σ8,H8,I8,q8⟩:=h8
   have again:∀{H9:Hp} {s9:Shared},Inv (cxC X N' scope h3.objs.size { s2 with heap:=h3 } H3 fp pins) ([]++zcx fp s7.heap) σ8 H9 s9->N σ8 H9->∃m,m<n/\∃i σ' H',Inv (cxC X N' scope h3.objs.size { s2 with heap:=h3 } H3 fp pins) [] σ' H' s9/\tn i s9.heap/\(∀b∈fp,H' b=none)/\W i m σ' H':=fun {H9 s9} I9 n9=>by
    obtain ⟨m',hm,w9⟩:=hN σ8 H9 n9
    refine ⟨m',hm,i+1,σ8,H9,I9.unpinned,T.keep _ _ _ st7 fun b hb o e=>(I9.pin (b,o) (List.mem_append_right _ (List.mem_append_right _ (zc4 hb e)))).1,fun b hb=>?_,w9⟩
    obtain ⟨o,e,d⟩:=T.obj _ _ st7 b hb
    exact (I9.pin (b,o) (List.mem_append_right _ (List.mem_append_right _ (zc4 hb e)))).2.1
   refine wpAny_mono (ht _ _ _ _ _ _ s8 σ8 H8 _ I8 q8) (fun ok s9 h9=>?_) fun _ _ z=>z
   obtain ⟨H9,I9,q9⟩:=h9
   cases ok with
   | false=>exact again I9 q9
   | true =>
    refine wpAny_mono (he _ _ _ _ _ _ s9 σ8 H9 _ I9 q9) (fun y s10 h10=>?_) fun _ _ z=>z
    obtain ⟨vy,H10,I10,r10,ys,hys,hz,nx⟩:=h10
    refine wpAny_mono (zim (X:=cxC X N' scope h3.objs.size { s2 with heap:=h3 } H3 fp pins) _ s10 σ8 H10 (.ref D) [vy] (.ref D) [y] (fun _ H'=>N σ8 H') I10 rfl (.cons r10 .nil) ⟨D,ys,vy,rfl,rfl,hys,hz,nx⟩) (fun _ s11 h11=>?_) fun _ _ z=>z
    obtain ⟨_,H11,I11,_,n11⟩:=h11
    exact again I11 n11
 exact codeAny_compStart_list loop (T.self _ 0 _ _ _ st4 loop)
theorem zyp {X:Cx}{N':List Str}{elt iter tgt:Expr}{ifs:List Expr}{scope:Scope}{pos:Pos}{wi:TI}{src:St->St}{g:TG}{tts:TT}{t:TE}(hcalm:X.calm=true) (sc:CompSc X N' scope src)
  (hi:PI X tgt iter wi) (hg:∀C s H fp pins,PG (cxC X N' scope C s H fp pins) tgt g) (ht:∀C s H fp pins,PTs (cxC X N' scope C s H fp pins) ifs tts) (he:∀C s H fp pins,PE (cxC X N' scope C s H fp pins) elt t)
  (hs:∀x,foldedSetIterable iter X.env x=pure x:=by intro _;rfl):PE X (.ListComp elt [⟨tgt,iter,ifs,0⟩] scope pos) (zf9 X.K wi src g tts t):=by
 intro pins s σ H Q I h
 rw [eval_ListComp]
 refine zpq (use:=none) hcalm sc hi hg ht he hs I h fun D H5 s6 C mC IX fp hn q=>⟨mC,hn,fun h'' sb=>⟨.ref D,H5,?_,rfl,q⟩⟩
 exact IX.turned (t':=s6.toks) (fun b o hb e=>sb.extBut b o hb e) fp.1 fp.2.1 fp.2.2.2.1 fp.2.2.2.2.1 fp.2.2.2.2.2
theorem zyq {X:Cx}{N':List Str}{elt iter tgt:Expr}{ifs:List Expr}{scope:Scope}{pos spos py:Pos}{wi:TI}{src:St->St}{g:TG}{tts:TT}{t:TE}{i:Nat}{y:Str}(hN:X.N.Nodup) (hi':X.N[i]? = some y) (hx:Loc X.env.scope y)
  (hsw:swapsWith (.ListComp elt [⟨tgt,iter,ifs,0⟩] scope pos) (some (.Name y py)) spos.line X.env=pure true) (hf:X.fn y=true∨X.env.scope.names.lookup y=some .local)
  (hcalm:X.calm=true) (sc:CompSc X N' scope src)
  (hi:PI X tgt iter wi) (hg:∀C s H fp pins,PG (cxC X N' scope C s H fp pins) tgt g) (ht:∀C s H fp pins,PTs (cxC X N' scope C s H fp pins) ifs tts) (he:∀C s H fp pins,PE (cxC X N' scope C s H fp pins) elt t)
  (hs:∀x,foldedSetIterable iter X.env x=pure x:=by intro _;rfl):PS X (.Assign [.Name y py] (.ListComp elt [⟨tgt,iter,ifs,0⟩] scope pos) spos) (zii (zf9 X.K wi src g tts t) (zih i)):=by
 intro pins s σ H D I h
 rw [exec_Assign_Name_used _ _ _ _ hsw]
 refine wpAny_bind (wpAny_standAt (wpAny_bind ?_))
 show wpAny _ X.A (do let _ ←comprehension (.ListComp elt [⟨tgt,iter,ifs,0⟩] scope pos) scope X.env _ (newList []) false (eval iter X.env) (some (assign (.Name y py) X.env))) _ _ s
 refine wpAny_bind (wpAny_mono (zpq (use:=some (assign (.Name y py) X.env)) (R:=fun _ s'=>SP X pins D .next s') hcalm sc hi hg ht he hs I h fun D' H5 s6 C mC IX fp hn q=>?_) (fun _ s' hq=>wpAny_pure (wpAny_pure hq)) fun _ _ e=>e)
 show wpAny _ X.A (assign (.Name y py) X.env (.ref D')) _ _ s6
 refine wpAny_assign_Name (zkf (v:=.ref D') IX hN hi' hx rfl (fun s' I' ha=>?_) hf)
 obtain ⟨a,sb,ha⟩:=ha
 have hCa:C≠a:=by
  rcases ha with ha|ha
  ·rw [ha];exact fp.2.1
  ·exact fun z=>fp.2.2.2.2.1 y a ha z.symm
 refine ⟨mC,hn.sameBut sb hCa,fun h'' sb''=>⟨_,H5,?_,q⟩⟩
 exact I'.turned (t':=s'.toks) (fun b o hb e=>sb''.extBut b o hb e) fp.1 fp.2.1 fp.2.2.2.1 fp.2.2.2.2.1 fp.2.2.2.2.2
end L3
namespace L3
open PySem PySem.Spec PyProof.Rows L2
section
variable {K:PySem.W.Frag}{ρ ρ':List Addr}{H H':Hp}{S:Sto}
theorem Sim.notin {a:Addr}(s:Sim K ρ S H) (h1:H a=none) (h2:K.lookup a=none):∀n:Nat,ρ[n]?≠some a:=fun n hn=>by
 have hl:n<S.length:=by rw [←s.len];exact (List.getElem?_eq_some_iff.mp hn).1
 have q:=s.at' n a _ hn (List.getElem?_eq_getElem hl)
 cases e:S[n] with
 | lst xs=>rw [e] at q;obtain ⟨vs,z,_⟩:=q;rw [h1] at z;cases z
 | flst xs =>
  rw [e] at q
  obtain ⟨vs,z,_⟩:=q
  rcases z with ⟨o,z⟩|⟨o,_,_,z,_⟩
  ·rw [h1] at z;cases z
  ·rw [h2] at z;cases z
 | iset g m=>rw [e] at q;have q:H a=_:=q;rw [h1] at q;cases q
 | dct kvs=>rw [e] at q;obtain ⟨vs,z,_⟩:=q;rw [h1] at z;cases z
 | tdct kvs=>rw [e] at q;obtain ⟨vs,z,_⟩:=q;rw [h1] at z;cases z
 | fdct kvs=>rw [e] at q;obtain ⟨o,vs,z,_⟩:=q;rw [h1] at z;cases z
 | ftdct kvs=>rw [e] at q;obtain ⟨o,vs,z,_⟩:=q;rw [h1] at z;cases z
 | tset ks=>rw [e] at q;obtain ⟨xs,_,z,_⟩:=q;rw [h1] at z;cases z
 | fnc x=>rw [e] at q;obtain ⟨_,o,z⟩:=q;rw [h2] at z;cases z
 | exc c=>rw [e] at q;obtain ⟨C,_,z⟩:=q;rw [h1] at z;cases z
theorem Sim.adopt {a:Addr}{xs:List D}{vs:List V}(s:Sim K ρ S H) (ha:H a=some (.lst vs)) (hn:∀n:Nat,ρ[n]?≠some a) (r:RDs ρ H xs vs):Sim K (ρ++[a]) (S++[.lst xs]) H:=by
 refine ⟨by simp [s.len],fun i j b x1 x2 h1 h2 h3 h4 m1 m2=>?_,fun n b o h1 h2=>?_⟩
 ·rcases za8 h1 with g1|⟨e1,f1⟩ <;> rcases za8 h2 with g2|⟨e2,f2⟩
  ·rcases za8 h3 with h3|⟨e3,_⟩ <;> rcases za8 h4 with h4|⟨e4,_⟩
   ·exact s.nd i j b _ _ g1 g2 h3 h4 m1 m2
   ·have:=(List.getElem?_eq_some_iff.mp g2).1;have:=s.len;omega
   ·have:=(List.getElem?_eq_some_iff.mp g1).1;have:=s.len;omega
   ·omega
  ·subst f2;exact absurd g1 (hn i)
  ·subst f1;exact absurd g2 (hn j)
  ·omega
 ·rcases za8 h1 with h1|⟨e1,f1⟩
  ·rcases za8 h2 with h2|⟨e2,f2⟩
   ·exact (s.at' n b o h1 h2).more ext0_push
   ·have:=(List.getElem?_eq_some_iff.mp h1).1;have:=s.len;omega
  ·subst f1
   rcases za8 h2 with h2|⟨e2,f2⟩
   ·have:=(List.getElem?_eq_some_iff.mp h2).1;have:=s.len;omega
   ·subst f2
    exact ⟨vs,ha,r.mono0 ext0_push⟩
theorem Sim.beside {a:Addr}{ys:List V}{u:HO}(s:Sim K ρ S H) (ha:H a=some (.lst ys)) (hn:∀n:Nat,ρ[n]?≠some a):Sim K ρ S (upd H a u) :=
 ⟨s.len,s.nd,fun n b o h1 h2=>(s.at' n b o h1 h2).written ha fun _ z=>hn n (by rw [h1,z])⟩
theorem Ext.beside {a:Addr}{ys:List V}{u:HO}{ρ0:List Addr}{H0:Hp}(e:Ext ρ0 H0 ρ H) (h0:H0 a=none) (ha:H a=some (.lst ys)):Ext ρ0 H0 ρ (upd H a u) :=
 ⟨⟨e.pre,fun b vs h=>by rw [zas (zcw (e.tup b vs h) ha (by intro z;cases z))];exact e.tup b vs h,fun b o vs h=>by rw [zas (zcw (e.frz b o vs h) ha (by intro z;cases z))];exact e.frz b o vs h⟩,fun b vs h n=>⟨by rw [zas (zbp h h0)];exact (e.out b vs h n).1,(e.out b vs h n).2⟩⟩
theorem Ext.adopt {a:Addr}{ρ0:List Addr}{H0:Hp}(e:Ext ρ0 H0 ρ H) (h0:H0 a=none):Ext ρ0 H0 (ρ++[a]) H :=
 ⟨⟨fun n b h=>(ext0_push (H:=H)).pre n b (e.pre n b h),e.tup,e.frz⟩,fun b vs h n=>⟨(e.out b vs h n).1,fun i hi=>by
  rcases za8 hi with hi|⟨_,z⟩
  ·exact (e.out b vs h n).2 i hi
  ·rw [z,h0] at h;cases h⟩⟩
end
noncomputable abbrev ItM:=Nat->Sto->Option (Option D)
noncomputable abbrev IM:=Lo->Sto->Option (ItM × Nat × Sto)
noncomputable def zhk (K:PySem.W.Frag) (ρ:List Addr) (H:Hp) (it:ItM) (J:It):Prop:=∀(i:Nat) ρ' S' H',Ext ρ H ρ' H'->Sim K ρ' S' H' ->
 (it i S' = some none->J.stop i H')/\∀x,it i S' = some (some x)->J.go i H'/\∀y H'',J.yld i H' y H''->H'' = H'/\RD ρ' H' x y
inductive ti (K:PySem.W.Frag) (im:IM) (σ:St) (H:Hp) (R:It->Hp->Prop):Prop
 | mk (ρ:_) (l:_) (S:_) (it:_) (k:_) (S':_) (_:Sim K ρ S H) (_:RO ρ H l σ) (_:im l S=some (it,k,S')) (_:∀ρ' H' J,Ext ρ H ρ' H'->Sim K ρ' S' H'->zhk K ρ' H' it J->R J H')
noncomputable def PI3 (X:Cx) (tgt iter:Expr) (im:IM):Prop:=PI X tgt iter (ti X.K im)
theorem PI.imp {X:Cx}{tgt iter:Expr}{t u:TI}(h:PI X tgt iter t) (i:∀σ H R,u σ H R->t σ H R):PI X tgt iter u:=fun pins s σ H Q I q=>h pins s σ H Q I (i _ _ _ q)
noncomputable def itX (xs:List D):ItM:=fun i _=>some xs[i]?
noncomputable def itL (n:Nat):ItM:=fun i S=>(lstOf S n).bind fun xs=>some xs[i]?
noncomputable def zcn (e:EM):IM:=fun l S=>(e l S).bind fun p=>match p.1 with
 | .tup xs=>some (itX xs,xs.length+1,p.2)
 | .ref n=>(lstOf p.2 n).bind fun xs=>some (itL n,xs.length+1,p.2)
 | _=>none
noncomputable def zco (r:Lo->Sto->Option ((Int × Nat) × Sto)):IM:=fun l S=>(r l S).bind fun p=>some (itX (zav p.1.1 p.1.2),p.1.2+1,p.2)
section
variable {K:PySem.W.Frag}
theorem zyr {ρ:List Addr}{H:Hp}{a:Addr}{xs:List D}{vs:List V}(ha:H a=some (.tup vs)) (r:RDs ρ H xs vs):zhk K ρ H (itX xs) (Itt K a):=by
 intro i ρ' S' H' e s
 have ha':=SqT.of (K:=K) (e.tup _ _ ha)
 have r':=r.mono e
 refine ⟨fun h=>?_,fun x h=>?_⟩
 ·have h:xs[i]? = none:=Option.some.inj h
  exact ⟨vs,ha',by rw [←r.length];exact List.getElem?_eq_none_iff.mp h⟩
 ·have h:xs[i]? = some x:=Option.some.inj h
  obtain ⟨v,hv,rv⟩:=r'.get h
  refine ⟨⟨vs,v,ha',hv⟩,fun y H'' ⟨e1,e2⟩=>⟨e1,?_⟩⟩
  have:=e2 vs ha'
  rw [hv] at this;cases this
  exact rv
theorem zys {ρ:List Addr}{H:Hp}{a:Addr}{n:Nat}(ha:ρ[n]? = some a):zhk K ρ H (itL n) (Itl K a):=by
 intro i ρ' S' H' e s
 have ha':=e.pre _ _ ha
 refine ⟨fun h=>?_,fun x h=>?_⟩
 ·obtain ⟨xs,h1,h⟩:=bnd h
  have h:xs[i]? = none:=Option.some.inj h
  obtain ⟨b,vs,hb,sq,r⟩:=s.lstOf h1
  rw [ha'] at hb;cases hb
  exact ⟨vs,sq,by rw [←r.length];exact List.getElem?_eq_none_iff.mp h⟩
 ·obtain ⟨xs,h1,h⟩:=bnd h
  have h:xs[i]? = some x:=Option.some.inj h
  obtain ⟨b,vs,hb,sq,r⟩:=s.lstOf h1
  rw [ha'] at hb;cases hb
  obtain ⟨v,hv,rv⟩:=r.get h
  refine ⟨⟨vs,v,sq,hv⟩,fun y H'' ⟨e1,e2⟩=>⟨e1,?_⟩⟩
  have:=e2 vs sq
  rw [hv] at this;cases this
  exact rv
theorem zyt {ρ:List Addr}{H:Hp}{lo:Int}{n:Nat}:zhk K ρ H (itX (zav lo n)) (Itr lo n):=by
 intro i ρ' S' H' e s
 refine ⟨fun h=>?_,fun x h=>?_⟩
 ·have h:(zav lo n)[i]? = none:=Option.some.inj h
  have:=List.getElem?_eq_none_iff.mp h
  simp [zav] at this
  exact this
 ·have h:(zav lo n)[i]? = some x:=Option.some.inj h
  have hl:=(List.getElem?_eq_some_iff.mp h).1
  simp only [zav,List.length_map,List.length_range] at hl
  refine ⟨hl,fun y H'' ⟨e1,e2⟩=>⟨e1,?_⟩⟩
  unfold zav at h
  rw [List.getElem?_map,List.getElem?_range hl] at h
  cases h
  rw [e2]
  exact .int _
end
section
variable {X:Cx}{tgt iter:Expr}{m:EM}{mA:AM}{p0 pos':Pos}{a a2:Expr}
theorem zhl (hi:PE3 X iter m):PI3 X tgt iter (zcn m):=PI.imp (PI.or (znx hi) (zny hi)) fun σ H R hx1_=>by
 obtain ⟨ρ,l,S,it,k,S',sim,ro,hm,p⟩:=hx1_
 obtain ⟨⟨x,S1⟩,q1,hm⟩:=bnd hm
 dsimp only at hm
 split at hm
 ·rename_i xs
  cases hm
  refine .inr ⟨ρ,l,S,.tup xs,_,sim,ro,q1,fun ρ1 H1 x' e1 s1 r1=>?_⟩
  cases r1 with
  | @tup xs a vs ha r=>exact ⟨a,rfl,⟨vs,SqT.of ha⟩,p ρ1 H1 _ e1 s1 (zyr ha r)⟩
 ·rename_i n
  obtain ⟨xs,hx,hm⟩:=bnd hm
  cases hm
  refine .inl ⟨ρ,l,S,.ref n,_,sim,ro,q1,fun ρ1 H1 x' e1 s1 r1=>?_⟩
  obtain ⟨a,vs,ha,sq,rv⟩:=s1.lstOf hx
  cases r1 with
  | ref hn =>
   rw [ha] at hn;cases hn
   exact ⟨a,rfl,⟨vs,sq⟩,p ρ1 H1 _ e1 s1 (zys ha)⟩
 ·cases hm
theorem zga (hgl:Gl X "range") (hmg:X.mg "range" = none) (ha:PA3 X [a] mA) (hst:starEach [a] X.env=[(false,eval a X.env)]:=by rfl):PI3 X tgt (.Call (.Name "range" p0) [a] [] pos') (zco (zbg mA)) :=
 PI.imp (zn0 hgl hmg ha hst) fun σ H R hx2_=>by
  obtain ⟨ρ,l,S,it,k,S',sim,ro,hm,p⟩:=hx2_
  obtain ⟨⟨⟨lo,n⟩,S1⟩,q1,hm⟩:=bnd hm
  cases hm
  obtain ⟨⟨xs,S2⟩,q2,q1⟩:=bnd q1
  dsimp only at q1
  split at q1
  ·rename_i j
   obtain ⟨hz,e⟩:=zbl q1
   cases e
   refine ⟨ρ,l,S,[.int j],_,sim,ro,q2,fun ρ1 H1 vs e1 s1 r1=>?_⟩
   obtain ⟨v,rfl,rv⟩:=r1.one
   cases rv
   exact ⟨j,rfl,hz.1,hz.2,p ρ1 H1 _ e1 s1 zyt⟩
  ·cases q1
end
noncomputable def zbq (it:ItM) (g:GM) (t:TM) (e:EM):Nat->Nat->Lo->Sto->Option (List D × Sto)
 | 0,_,_,_=>none
 | k+1,i,l,S=>(it i S).bind fun o=>match o with
  | none=>some ([],S)
  | some x=>(g x l S).bind fun p=>(t p.1 p.2).bind fun q=>if q.1=true then (e p.1 q.2).bind fun r=>(zbq it g t e k (i+1) p.1 r.2).bind fun z=>some (r.1 :: z.1,z.2) else zbq it g t e k (i+1) p.1 q.2
noncomputable def za3 {α:Type}(ixs:List (Option Nat)) (l:List (Option α)):List (Option α):=ixs.map fun o=>match o with
 | some j=>(l[j]?).join
 | none=>none
noncomputable def zbo (im:IM) (ixs:List (Option Nat)) (g:GM) (t:TM) (e:EM):EM:=fun l S=>(im l S).bind fun p=>(zbq p.1 g t e p.2.1 0 (za3 ixs l) p.2.2).bind fun z=>if z.1.length<=sizeLine then some (.ref z.2.length,z.2++[.lst z.1]) else none
noncomputable def zay:TM:=fun _ S=>some (true,S)
theorem zk0 {ρ:List Addr}{H:Hp}{l:Lo}{σ:St}(ixs:List (Option Nat)) (r:RO ρ H l σ):RO ρ H (za3 ixs l) (za3 ixs σ):=by
 refine ⟨by simp [za3],fun i d h=>?_⟩
 unfold za3 at h ⊢
 rw [List.getElem?_map] at h ⊢
 cases e:ixs[i]? with
 | none=>rw [e] at h;cases h
 | some o =>
  rw [e] at h
  cases o with
  | none=>cases h
  | some j =>
   have h:((l[j]?).join:Option D)=some d:=Option.some.inj h
   cases e2:l[j]? with
   | none=>rw [e2] at h;cases h
   | some o2 =>
    rw [e2] at h
    have h:o2=some d:=h
    subst h
    obtain ⟨v,h1,h2⟩:=r.get j d e2
    exact ⟨v,by show some ((σ[j]?).join)=_;rw [h1];rfl,h2⟩
inductive CI3 (K:PySem.W.Frag) (it:ItM) (g:GM) (t:TM) (e:EM) (S2:Sto) (all:List D) (ρ1:List Addr) (H1:Hp) (Da:Addr) (i m:Nat) (σ':St) (H':Hp):Prop
 | mk (ρ':List Addr) (l':Lo) (S':Sto) (ds:List D) (vs:List V) (rest:List D) (_:Ext ρ1 H1 ρ' H') (_:Sim K ρ' S' H') (_:RO ρ' H' l' σ') (_:H' Da=some (.lst vs)) (_:(∀n:Nat,ρ'[n]?≠some Da)) (_:RDs ρ' H' ds vs) (_:zbq it g t e m i l' S' = some (rest,S2)) (_:ds++rest=all)
theorem zk1 {K:PySem.W.Frag}{im:IM}{ixs:List (Option Nat)}{g:GM}{t:TM}{e:EM}(σ:St) (H:Hp) (Q:VK) (q:te K (zbo im ixs g t e) σ H Q):zf9 K (ti K im) (za3 ixs) (tg K g) (tt K t) (te K e) σ H Q:=by
 obtain ⟨ρ,l,S,v,S',sim,ro,hm,p⟩:=q
 obtain ⟨⟨it,k,S1⟩,q1,hm⟩:=bnd hm
 obtain ⟨⟨all,S2⟩,q2,hm⟩:=bnd hm
 obtain ⟨hz,he⟩:=zbl hm
 cases he
 refine ⟨ρ,l,S,it,k,S1,sim,ro,q1,fun ρ1 H1 J e1 s1 io D hD hK=>?_⟩
 dsimp only at q2 hz p
 refine ⟨fun i m σ' H'=>CI3 K it g t e S2 all ρ1 H1 D i m σ' H',⟨k,?_⟩,?_⟩
 ·exact ⟨ρ1,za3 ixs l,S1,[],[],all,zcq hD,s1.laid hD,(zk0 ixs (ro.mono e1)).mono (zcq hD),zb7,s1.notin hD hK,.nil,q2,rfl⟩
 ·rintro i m σ' H' ⟨ρ',l',S',ds,vs,rest,e2,s2,ro2,hD2,hn2,rd2,hc,hall⟩
  cases m with
  | zero=>cases hc
  | succ m =>
   unfold zbq at hc
   obtain ⟨o,ho,hc⟩:=bnd hc
   obtain ⟨iStop,iGo⟩:=io i ρ' S' H' e2 s2
   cases o with
   | none =>
    cases hc
    rw [List.append_nil] at hall
    subst hall
    refine .inl ⟨iStop ho,p (ρ'++[D]) H' (.ref D) (e1.trans (e2.adopt hD)) (s2.adopt hD2 hn2 rd2) (.ref ?_)⟩
    rw [←s2.len];exact zdy ρ' D
   | some x =>
    obtain ⟨⟨l3,S3⟩,q3,hc⟩:=bnd hc
    obtain ⟨⟨b,S4⟩,q4,hc⟩:=bnd hc
    obtain ⟨hgo,hy⟩:=iGo x ho
    refine .inr ⟨hgo,_,fun σ' H' h=>h,fun y H'' hyl=>?_⟩
    obtain ⟨rfl,ry⟩:=hy y H'' hyl
    refine ⟨ρ',l',S',x,l3,S3,s2,ro2,ry,q3,fun ρ3 H3 σ3 e3 s3 ro3=>⟨ρ3,l3,S3,b,S4,s3,ro3,q4,fun ρ4 H4 e4 s4=>?_⟩⟩
    obtain ⟨hD3,hn3⟩:=e3.out D _ hD2 hn2
    obtain ⟨hD4,hn4⟩:=e4.out D _ hD3 hn3
    cases b with
    | false=>exact zee ⟨m,Nat.lt_succ_self m,ρ4,l3,S4,ds,vs,rest,e2.trans (e3.trans e4),s4,ro3.mono e4,hD4,hn4,rd2.mono (e3.trans e4),hc,hall⟩
    | true =>
     have hc:((e l3 S4).bind fun r=>(zbq it g t e m (i+1) l3 r.2).bind fun z=>some (r.1 :: z.1,z.2))=some (rest,S2):=hc
     obtain ⟨⟨y5,S5⟩,q5,hc⟩:=bnd hc
     obtain ⟨⟨rest',S6⟩,q6,hc⟩:=bnd hc
     cases hc
     refine zef ⟨ρ4,l3,S4,y5,S5,s4,ro3.mono e4,q5,fun ρ5 H5 v5 e5 s5 r5=>?_⟩
     obtain ⟨hD5,hn5⟩:=e5.out D _ hD4 hn4
     have e25:=e2.trans (e3.trans (e4.trans e5))
     have rd5:=rd2.mono (e3.trans (e4.trans e5))
     have hlen:vs.length<sizeLine:=by
      have h1:=rd5.length
      have h2:=congrArg List.length hall
      rw [List.length_append,List.length_cons] at h2
      omega
     refine ⟨vs,hD5,hlen,m,Nat.lt_succ_self m,ρ5,l3,S5,ds++[y5],vs++[v5],rest',e25.beside hD hD5,s5.beside hD5 hn5,?_,zb7,hn5,((rd5.append (.cons r5 .nil)).mono0 (zf3 hD5)),q6,by rw [←hall];simp⟩
     have r0:=(ro3.mono e4).mono e5
     exact ⟨r0.len,fun i d h=>let ⟨w,h1,h2⟩:=r0.get i d h;⟨w,h1,h2.mono0 (zf3 hD5)⟩⟩
theorem zd2 {X:Cx}:PTs X [] (tt X.K zay):=fun pins s σ H Q I hx4_=>by
 obtain ⟨ρ,l,S,v,S',sim,ro,hm,p⟩:=hx4_
 cases hm
 exact zyn pins s σ H Q I (p ρ H (Ext.refl ..) sim)
theorem zk2 {X:Cx}{c:Expr}{t:TM}(h:PT3 X c t):PTs X [c] (tt X.K t):=zyo h
theorem zgb {X:Cx}{N':List Str}{elt iter tgt:Expr}{ifs:List Expr}{scope:Scope}{pos:Pos}{im:IM}{ixs:List (Option Nat)}{g:GM}{t:TM}{e:EM}(hcalm:X.calm=true) (sc:CompSc X N' scope (za3 ixs))
  (hi:PI3 X tgt iter im) (hg:∀C s H fp pins,PG3 (cxC X N' scope C s H fp pins) tgt g) (ht:∀C s H fp pins,PTs (cxC X N' scope C s H fp pins) ifs (tt X.K t)) (he:∀C s H fp pins,PE3 (cxC X N' scope C s H fp pins) elt e)
  (hs:∀x,foldedSetIterable iter X.env x=pure x:=by intro _;rfl):PE3 X (.ListComp elt [⟨tgt,iter,ifs,0⟩] scope pos) (zbo im ixs g t e) :=
 PE.imp (zyp (g:=tg X.K g) (tts:=tt X.K t) (t:=te X.K e) hcalm sc hi hg ht he hs) zk1
theorem zk3 (j:Nat) {X:Cx}{N':List Str}{elt iter tgt:Expr}{ifs:List Expr}{scope:Scope}{pos spos py:Pos}{y:Str}{im:IM}{ixs:List (Option Nat)}{g:GM}{t:TM}{e:EM}(hN:X.N.Nodup) (hcalm:X.calm=true) (sc:CompSc X N' scope (za3 ixs))
  (hi:PI3 X tgt iter im) (hg:∀C s H fp pins,PG3 (cxC X N' scope C s H fp pins) tgt g) (ht:∀C s H fp pins,PTs (cxC X N' scope C s H fp pins) ifs (tt X.K t)) (he:∀C s H fp pins,PE3 (cxC X N' scope C s H fp pins) elt e)
  (hi':X.N[j]? = some y:=by rfl) (hx:Loc X.env.scope y:=by first|exact Or.inl rfl|exact Or.inr rfl)
  (hsw:swapsWith (.ListComp elt [⟨tgt,iter,ifs,0⟩] scope pos) (some (.Name y py)) spos.line X.env=pure true:=by with_unfolding_all rfl) (hf:X.fn y=true∨X.env.scope.names.lookup y=some .local:=by first|exact .inl rfl|exact .inr rfl|assumption)
  (hs:∀x,foldedSetIterable iter X.env x=pure x:=by intro _;rfl):PS3 X (.Assign [.Name y py] (.ListComp elt [⟨tgt,iter,ifs,0⟩] scope pos) spos) (zam (zbo im ixs g t e) (zag j)) :=
 PS.imp (zyq (g:=tg X.K g) (tts:=tt X.K t) (t:=te X.K e) hN hi' hx hsw hf hcalm sc hi hg ht he hs) fun E σ H hx5_=>by
  obtain ⟨ρ,l,S,f,l',S',sim,ro,hm,p⟩:=hx5_
  obtain ⟨⟨x,S1⟩,q1,hm⟩:=bnd hm
  cases hm
  exact zk1 σ H _ ⟨ρ,l,S,x,S1,sim,ro,q1,fun ρ1 H1 x' e1 s1 r1=>p ρ1 H1 _ e1 s1 ((ro.mono e1).set j r1)⟩
end L3
namespace L3
open PySem PySem.Spec PyProof.Rows L2
noncomputable def zk4:D->D->Sto->Option (D × Sto)
 | .int i,.int j,S=>some (.int (i+j),S)
 | .tup xs,.tup ys,S=>if xs.length+ys.length<=sizeLine then some (.tup (xs++ys),S) else none
 | .ref n,.ref m,S=>match S[n]?,S[m]? with
  | some (.lst xs),some (.lst ys)=>if xs.length+ys.length<=sizeLine then some (.ref S.length,S++[.lst (xs++ys)]) else none
  | _,_=>none
 | _,_,_=>none
theorem zyu {K:PySem.W.Frag}:Op3 K zk4 (fun x y H Q=>rI0 (fun i j=>.int (i+j)) x y H Q∨(zkm K x y H Q∨zky K x y H Q)∨zou x y H Q):=by
 intro ρ S H x y x' y' v S' Q sim rx ry h p
 unfold zk4 at h
 split at h
 ·cases rx;cases ry;cases h
  exact .inl ⟨_,_,rfl,rfl,p ρ H _ (Ext.refl ..) sim (.int _)⟩
 ·refine .inr (.inl (zx7 ρ S H _ _ x' y' v S' Q sim rx ry ?_ p))
  unfold zkx
  exact h
 ·split at h
  ·rename_i xs ys e1 e2
   obtain ⟨hz,e⟩:=zbl h
   cases e
   obtain ⟨a,us,ha,hH,r2⟩:=sim.lst e1
   obtain ⟨b,ws,hb,hH2,r3⟩:=sim.lst e2
   cases rx with
   | ref hn =>
    rw [ha] at hn;cases hn
    cases ry with
    | ref hm =>
     rw [hb] at hm;cases hm
     exact .inr (.inr ⟨a,b,us,ws,rfl,rfl,hH,hH2,by rw [←r2.length,←r3.length];exact hz,zhf sim (r2.append r3) p⟩)
  ·cases h
 ·cases h
section
variable {X:Cx}{a b:Expr}{ma mb:EM}{pos:Pos}
end
noncomputable def Has (P:Program) (w:World) (K:PySem.W.Frag) (mg:Str->Option Value) (base:Heap) (x:Str) (k n:Nat) (m:FM):Prop :=
 ∃(f:Addr) (fd:FuncData) (ps:List Str),FnOk P w K mg base CX0 k f fd ps (sp3 K n m)/\mg x=some (.ref f)/\PySem.W.keepIn K (.ref f)=true/\Binds K fd ps []
section
variable {X:Cx}{a:Expr}{es:List Expr}{mA:AM}{pos p:Pos}{x:Str}{k j n:Nat}{m:FM}
theorem za6 (F:Has X.prog X.w X.K X.mg X.base x k n m) (hr:Room j X.A) (hkj:k<=j) (hg:Gl X x)
  (ha:PA3 X (a :: es) mA) (hl:∀l S v S',mA l S=some (v,S')->v.length=n) (hdb:(x == ("__debug__":Str))=false:=by decide) (he:starEach (a :: es) X.env=(false,eval a X.env) :: starEach es X.env:=by rfl) (hpl:(backTo pos (starEach es X.env)).any (·.1)=false:=by rfl) :
  PE3 X (.Call (.Name x p) (a :: es) [] pos) (zaf m mA):=by
 obtain ⟨f,fd,ps,F,hm,hk,hb⟩:=F
 exact zyi F (hr.mono hkj) hg hm hk hb ha hl hdb he hpl
theorem zyv:bootBuiltins "abs" = some (.builtin "abs"):=by decide +kernel
theorem zpr:bootBuiltins "tuple" = some (.type "tuple"):=by decide +kernel
theorem zyw:bootBuiltins "list" = some (.type "list"):=by decide +kernel
theorem zyx:bootBuiltins "min" = some (.builtin "min"):=by decide +kernel
theorem zyy:bootBuiltins "max" = some (.builtin "max"):=by decide +kernel
theorem zk5 (hg:Gl X "abs") (hm:X.mg "abs" = none) (ha:PA3 X (a :: es) mA) (he:starEach (a :: es) X.env=(false,eval a X.env) :: starEach es X.env:=by rfl) (hpl:(backTo pos (starEach es X.env)).any (·.1)=false:=by rfl):PE3 X (.Call (.Name "abs" p) (a :: es) [] pos) (zaf zfe mA) :=
 zet zwo zx9 hg hm zyv ha (by decide) (by decide) he hpl
theorem zhm (hg:Gl X "tuple") (hm:X.mg "tuple" = none) (ha:PA3 X (a :: es) mA) (he:starEach (a :: es) X.env=(false,eval a X.env) :: starEach es X.env:=by rfl) (hpl:(backTo pos (starEach es X.env)).any (·.1)=false:=by rfl):PE3 X (.Call (.Name "tuple" p) (a :: es) [] pos) (zaf zdm mA) :=
 zx1 zxb zya hg hm zpr ha (by decide) (by decide) he hpl
end
theorem zcd {P:Program}{w:World}{K:PySem.W.Frag}{mg:Str->Option Value}{base:Heap}{x:Str}{st:Stmt}{f:Addr}{fd:FuncData}{N ps:List Str}{k n:Nat}{b:SM}(F:Fun K x x st f fd) (hm:mg x=some (.ref f)) (S:FnScope N ps (zat st)) (hn:ps.length=n) (hb:Binds K fd ps [])
  (hbody:∀(cdv:Value),PySem.W.codeIn K cdv x=true->∀(A:Around) (outer:List Env) (s:Shared) (H:Hp) (E:XK),Room k (A.deeper (envOfC x (zat st) s.heap.objs.size f cdv)) ->
   zdh (ze9 CX0 P w K mg base N x (zat st) f cdv A outer s H E).nox (zbm st) b):Has P w K mg base x (k+1) n (zbt N.length b) :=
 ⟨f,fd,ps,zpn F S hn hbody,hm,F.kp,hb⟩
noncomputable def chk (scO scope:Scope) (NO N':List Str) (ixs:List (Option Nat)):Bool :=
 decide (scope.kind=.function) && (scope.names.all fun y=>y.2 != .cell) && (scope.names.all fun y=>y.2 != .local || scope.names.lookup y.1 == some .local) &&
 (scope.names.all fun y=>y.2 != .free || (scO.names.lookup y.1 == some .cell || scO.names.lookup y.1 == some .free)) && (ixs.length == N'.length) &&
 ((List.range ixs.length).all fun i=>match ixs[i]? with|some (some j)=>(NO[j]? == N'[i]? && (match N'[i]? with|some x=>scope.names.lookup x == some .free|none=>false))|_=>true)
theorem zd3 {X:Cx}{scO scope:Scope}{NO N':List Str}{ixs:List (Option Nat)}(hX:X.env.scope=scO) (hN:X.N=NO) (h:chk scO scope NO N' ixs=true):CompSc X N' scope (za3 ixs):=by
 unfold chk at h
 simp only [Bool.and_eq_true,decide_eq_true_eq,List.all_eq_true,beq_iff_eq,Bool.or_eq_true,bne_iff_ne,ne_eq] at h
 obtain ⟨⟨⟨⟨⟨h1,h2⟩,h3⟩,h4⟩,h5⟩,h6⟩:=h
 refine ⟨h1,h2,fun y hy hl=>?_,fun y hy hl=>?_,fun y hy=>?_,fun σ=>by simp [za3,h5],fun σ i v x hv hx=>?_⟩
 ·rcases h3 y hy with z|z
  ·exact absurd hl z
  ·exact z
 ·show X.env.scope.names.lookup y.1=_∨X.env.scope.names.lookup y.1=_
  rw [hX]
  rcases h4 y hy with z|z
  ·exact absurd hl z
  ·exact z
 ·have mem:∃k,(k=NameKind.cell∨k=NameKind.free)/\(y,k)∈(relabel scope X.env).names:=by
   rcases hy with z|z
   ·exact ⟨_,.inl rfl,PySem.mem_of_lookup z⟩
   ·exact ⟨_,.inr rfl,PySem.mem_of_lookup z⟩
  obtain ⟨k,hk,hm⟩:=mem
  unfold relabel at hm
  obtain ⟨⟨n,k'⟩,hm1,hm2⟩:=List.mem_map.mp hm
  dsimp only at hm2
  split at hm2
  ·rename_i hc
   have:k' = .free:=by
    rw [Bool.and_eq_true,Bool.and_eq_true] at hc
    exact eq_of_beq hc.1.1
   cases hm2
   rw [←this];exact hm1
  ·cases hm2
   rcases hk with z|z
   ·exact absurd z (h2 _ hm1)
   ·rw [←z];exact hm1
 ·have hl:i<ixs.length:=by
   have:=(List.getElem?_eq_some_iff.mp hv).1
   simpa [za3] using this
  unfold za3 at hv
  rw [List.getElem?_map] at hv
  have q:=h6 i (List.mem_range.mpr hl)
  cases e:ixs[i]? with
  | none=>rw [e] at hv;cases hv
  | some o =>
   rw [e] at hv
   cases o with
   | none=>cases hv
   | some j =>
    rw [e] at q
    dsimp only at q
    rw [hx] at q
    simp only [Bool.and_eq_true,beq_iff_eq] at q
    have hv:((σ[j]?).join:Option V)=some v:=Option.some.inj hv
    refine ⟨j,by rw [hN];exact q.1,?_,q.2⟩
    cases e2:σ[j]? with
    | none=>rw [e2] at hv;cases hv
    | some o2=>rw [e2] at hv;have hv:o2=some v:=hv;rw [hv]
theorem zyz {K:PySem.W.Frag}{H:Hp}{a:Addr}{ns:List Int}{m:FM}(hO:zin H) (hS:SqL K H a (ns.map V.int)) (h:∃S',m [.ref 0] [.flst (ns.map D.int)]=some (.bl true,S')):sp3 K 1 m [.ref a] H (fun v _=>v=.bl true) fun _ _ _=>False:=by
 obtain ⟨S',h⟩:=h
 have rn:∀ns:List Int,RDs [a] H (ns.map D.int) (ns.map V.int):=fun ns=>by
  induction ns with
  | nil=>exact .nil
  | cons x r ih=>exact .cons (.int x) ih
 refine ⟨rfl,[a],[.ref 0],_,_,S',⟨rfl,fun i j b o1 o2 h1 h2 h3 h4 m1 m2=>?_,fun n b o h1 h2=>?_⟩,.cons (.ref rfl) .nil,h,fun ρ' H' v' e s r=>?_⟩
 ·cases i with
  | zero=>cases h3;cases m1
  | succ i=>cases h3
 ·cases n with
  | succ n=>cases h1
  | zero =>
   cases h1;cases h2
   refine ⟨_,?_,rn ns⟩
   rcases hS with (z|⟨o,z⟩)|z
   ·rcases hO a with y|⟨o,xs,y⟩ <;> (rw [z] at y;cases y)
   ·exact .inl ⟨o,z⟩
   ·exact .inr z
 ·cases r;rfl
noncomputable def top (b:List Stmt) (i:Nat):Stmt:=b.getD i (.Pass ⟨0,0,0,0⟩)
end L3
namespace L3
open PySem
noncomputable def We (m:EM) (l:Lo) (S:Sto) (Q:D->Sto->Prop):Prop:=∃v S',m l S=some (v,S')/\Q v S'
noncomputable def Wt (m:TM) (l:Lo) (S:Sto) (Q:Bool->Sto->Prop):Prop:=∃v S',m l S=some (v,S')/\Q v S'
noncomputable def Wa (m:AM) (l:Lo) (S:Sto) (Q:List D->Sto->Prop):Prop:=∃v S',m l S=some (v,S')/\Q v S'
noncomputable def Wo (o:Option (D × Sto)) (Q:D->Sto->Prop):Prop:=∃v S',o=some (v,S')/\Q v S'
noncomputable def Wg (o:Option (Lo × Sto)) (Q:Lo->Sto->Prop):Prop:=∃l S',o=some (l,S')/\Q l S'
noncomputable def Wr (o:Option (Fl × Lo × Sto)) (Q:Fl->Lo->Sto->Prop):Prop:=∃f l S',o=some (f,l,S')/\Q f l S'
noncomputable abbrev Ws (m:SM) (l:Lo) (S:Sto) (Q:Fl->Lo->Sto->Prop):Prop:=Wr (m l S) Q
section
variable {a b c:EM}{t u:TM}{l:Lo}{S:Sto}{Q:D->Sto->Prop}{QB:Bool->Sto->Prop}{QA:List D->Sto->Prop}{QS:Fl->Lo->Sto->Prop}{QG:Lo->Sto->Prop}
theorem zap {i:Nat}:We (zaa i) l S Q = ∃d,l[i]? = some (some d)/\Q d S:=by
 apply propext;unfold We zaa
 constructor
 ·rintro ⟨v,S',h,q⟩
  split at h
  ·rename_i d e;cases h;exact ⟨_,e,q⟩
  ·cases h
 ·rintro ⟨d,e,q⟩
  exact ⟨d,S,by rw [e],q⟩
theorem zd4 {d:D}:We (eC d) l S Q=Q d S:=by
 apply propext;unfold We eC
 exact ⟨fun hx1_=>by obtain ⟨v,S',h,q⟩:=hx1_;cases h;exact q,fun q=>⟨_,_,rfl,q⟩⟩
theorem zdp {f:D->D->Sto->Option (D × Sto)}:We (eOp f a b) l S Q=We a l S fun x S1=>We b l S1 fun y S2=>Wo (f x y S2) Q:=by
 apply propext
 constructor
 ·rintro ⟨v,S',h,q⟩
  obtain ⟨⟨x,S1⟩,h1,h⟩:=bnd h
  obtain ⟨⟨y,S2⟩,h2,h⟩:=bnd h
  exact ⟨x,S1,h1,y,S2,h2,v,S',h,q⟩
 ·rintro ⟨x,S1,h1,y,S2,h2,v,S',h,q⟩
  exact ⟨v,S',by unfold eOp;rw [h1];show (b l S1).bind _=_;rw [h2];exact h,q⟩
theorem zi2 {f:D->Sto->Option (D × Sto)}:We (eUn f a) l S Q=We a l S fun x S1=>Wo (f x S1) Q:=by
 apply propext
 constructor
 ·rintro ⟨v,S',h,q⟩
  obtain ⟨⟨x,S1⟩,h1,h⟩:=bnd h
  exact ⟨x,S1,h1,v,S',h,q⟩
 ·rintro ⟨x,S1,h1,v,S',h,q⟩
  exact ⟨v,S',by unfold eUn;rw [h1];exact h,q⟩
theorem za7:Wa zae l S QA=QA [] S:=by
 apply propext
 exact ⟨fun hx2_=>by obtain ⟨v,S',h,q⟩:=hx2_;cases h;exact q,fun q=>⟨_,_,rfl,q⟩⟩
theorem zba {r:AM}:Wa (zac a r) l S QA=We a l S fun x S1=>Wa r l S1 fun xs S2=>QA (x :: xs) S2:=by
 apply propext
 constructor
 ·rintro ⟨v,S',h,q⟩
  obtain ⟨⟨x,S1⟩,h1,h⟩:=bnd h
  obtain ⟨⟨y,S2⟩,h2,h⟩:=bnd h
  cases h
  exact ⟨x,S1,h1,y,_,h2,q⟩
 ·rintro ⟨x,S1,h1,y,S2,h2,q⟩
  exact ⟨x :: y,S2,by unfold zac;rw [h1];show (r l S1).bind _=_;rw [h2];rfl,q⟩
theorem zbd {f:FM}{r:AM}:We (zaf f r) l S Q=Wa r l S fun xs S1=>Wo (f xs S1) Q:=by
 apply propext
 constructor
 ·rintro ⟨v,S',h,q⟩
  obtain ⟨⟨x,S1⟩,h1,h⟩:=bnd h
  exact ⟨x,S1,h1,v,S',h,q⟩
 ·rintro ⟨x,S1,h1,v,S',h,q⟩
  exact ⟨v,S',by unfold zaf;rw [h1];exact h,q⟩
theorem zc1 {f:D->List D->Sto->Option (D × Sto)}{r:AM}:We (zb0 f a r) l S Q=We a l S fun x S1=>(∃xs,zev x S1=some xs)/\Wa r l S1 fun ys S2=>Wo (f x ys S2) Q:=by
 apply propext
 constructor
 ·rintro ⟨v,S',h,q⟩
  obtain ⟨⟨x,S1⟩,h1,h⟩:=bnd h
  obtain ⟨xs,h2,h⟩:=bnd h
  obtain ⟨⟨y,S2⟩,h3,h⟩:=bnd h
  exact ⟨x,S1,h1,⟨xs,h2⟩,y,S2,h3,v,S',h,q⟩
 ·rintro ⟨x,S1,h1,⟨xs,h2⟩,y,S2,h3,v,S',h,q⟩
  refine ⟨v,S',?_,q⟩
  unfold zb0;rw [h1];show (zev x S1).bind _=_;rw [h2];show (r l S1).bind _=_;rw [h3];exact h
theorem zd5:Wt (tE a) l S QB=We a l S fun x S1=>∃k,x=.bl k/\QB k S1:=by
 apply propext
 constructor
 ·rintro ⟨v,S',h,q⟩
  obtain ⟨⟨x,S1⟩,h1,h⟩:=bnd h
  refine ⟨x,S1,h1,?_⟩
  cases x with
  | bl k=>cases h;exact ⟨_,rfl,q⟩
  | _=>cases h
 ·rintro ⟨x,S1,h1,k,rfl,q⟩
  exact ⟨k,S1,by unfold tE;rw [h1];rfl,q⟩
theorem zk6:Wt (zck t u) l S QB=Wt t l S fun k S1=>if k=true then Wt u l S1 QB else QB false S1:=by
 apply propext
 constructor
 ·rintro ⟨v,S',h,q⟩
  obtain ⟨⟨x,S1⟩,h1,h⟩:=bnd h
  refine ⟨x,S1,h1,?_⟩
  cases x with
  | true=>exact ⟨v,S',h,q⟩
  | false=>cases h;exact q
 ·rintro ⟨x,S1,h1,h⟩
  cases x with
  | true=>obtain ⟨v,S',h,q⟩:=h;exact ⟨v,S',by unfold zck;rw [h1];exact h,q⟩
  | false=>exact ⟨false,S1,by unfold zck;rw [h1];rfl,h⟩
theorem zgc:Wt (zdi t u) l S QB=Wt t l S fun k S1=>if k=true then QB true S1 else Wt u l S1 QB:=by
 apply propext
 constructor
 ·rintro ⟨v,S',h,q⟩
  obtain ⟨⟨x,S1⟩,h1,h⟩:=bnd h
  refine ⟨x,S1,h1,?_⟩
  cases x with
  | false=>exact ⟨v,S',h,q⟩
  | true=>cases h;exact q
 ·rintro ⟨x,S1,h1,h⟩
  cases x with
  | false=>obtain ⟨v,S',h,q⟩:=h;exact ⟨v,S',by unfold zdi;rw [h1];exact h,q⟩
  | true=>exact ⟨true,S1,by unfold zdi;rw [h1];rfl,h⟩
theorem zgd:Wt (zeq t) l S QB=Wt t l S fun k S1=>QB (!k) S1:=by
 apply propext
 constructor
 ·rintro ⟨v,S',h,q⟩
  obtain ⟨⟨x,S1⟩,h1,h⟩:=bnd h
  cases h
  exact ⟨x,_,h1,q⟩
 ·rintro ⟨x,S1,h1,q⟩
  exact ⟨!x,S1,by unfold zeq;rw [h1];rfl,q⟩
theorem zps:Wt zay l S QB=QB true S:=by
 apply propext
 exact ⟨fun hx3_=>by obtain ⟨v,S',h,q⟩:=hx3_;cases h;exact q,fun q=>⟨_,_,rfl,q⟩⟩
theorem zk7:We (zer a b) l S Q=We a l S fun x S1=>∃k,x=.bl k/\if k=true then We b l S1 Q else Q (.bl false) S1:=by
 apply propext
 constructor
 ·rintro ⟨v,S',h,q⟩
  obtain ⟨⟨x,S1⟩,h1,h⟩:=bnd h
  refine ⟨x,S1,h1,?_⟩
  cases x with
  | bl k =>
   cases k with
   | true=>exact ⟨true,rfl,v,S',h,q⟩
   | false=>cases h;exact ⟨false,rfl,q⟩
  | _=>cases h
 ·rintro ⟨x,S1,h1,k,rfl,h⟩
  cases k with
  | true=>obtain ⟨v,S',h,q⟩:=h;exact ⟨v,S',by unfold zer;rw [h1];exact h,q⟩
  | false=>exact ⟨_,S1,by unfold zer;rw [h1];rfl,h⟩
variable {m n:SM}
theorem zc8:Ws zbj l S QS=QS .nx l S:=by
 apply propext
 exact ⟨fun hx4_=>by obtain ⟨f,v,S',h,q⟩:=hx4_;cases h;exact q,fun q=>⟨_,_,_,rfl,q⟩⟩
theorem zhn:Ws (zai m n) l S QS=Ws m l S fun f l1 S1=>match f with | .nx=>Ws n l1 S1 QS|f=>QS f l1 S1:=by
 apply propext
 constructor
 ·rintro ⟨f,v,S',h,q⟩
  obtain ⟨⟨g,l1,S1⟩,h1,h⟩:=bnd h
  refine ⟨g,l1,S1,h1,?_⟩
  cases g with
  | nx=>exact ⟨f,v,S',h,q⟩
  | _=>cases h;exact q
 ·rintro ⟨g,l1,S1,h1,h⟩
  cases g with
  | nx=>obtain ⟨f,v,S',h,q⟩:=h;exact ⟨f,v,S',by unfold zai;rw [h1];exact h,q⟩
  | bk=>exact ⟨_,_,_,by unfold zai;rw [h1];rfl,h⟩
  | ct=>exact ⟨_,_,_,by unfold zai;rw [h1];rfl,h⟩
  | rt d=>exact ⟨_,_,_,by unfold zai;rw [h1];rfl,h⟩
theorem za1 (R:Lo->Sto->Prop) (h1:Ws m l S fun f l1 S1=>f=.nx/\R l1 S1) (h2:∀l1 S1,R l1 S1->Ws n l1 S1 QS):Ws (zai m n) l S QS:=by
 rw [zhn]
 obtain ⟨f,l1,S1,e,rfl,r⟩:=h1
 exact ⟨_,_,_,e,h2 l1 S1 r⟩
theorem zk8:Ws (sIf t m n) l S QS=Wt t l S fun k S1=>if k=true then Ws m l S1 QS else Ws n l S1 QS:=by
 apply propext
 constructor
 ·rintro ⟨f,v,S',h,q⟩
  obtain ⟨⟨x,S1⟩,h1,h⟩:=bnd h
  refine ⟨x,S1,h1,?_⟩
  cases x with
  | true=>exact ⟨f,v,S',h,q⟩
  | false=>exact ⟨f,v,S',h,q⟩
 ·rintro ⟨x,S1,h1,h⟩
  cases x with
  | true=>obtain ⟨f,v,S',h,q⟩:=h;exact ⟨f,v,S',by unfold sIf;rw [h1];exact h,q⟩
  | false=>obtain ⟨f,v,S',h,q⟩:=h;exact ⟨f,v,S',by unfold sIf;rw [h1];exact h,q⟩
theorem zc9:Ws (zch a) l S QS=We a l S fun _ S1=>QS .nx l S1:=by
 apply propext
 constructor
 ·rintro ⟨f,v,S',h,q⟩
  obtain ⟨⟨x,S1⟩,h1,h⟩:=bnd h
  cases h
  exact ⟨x,_,h1,q⟩
 ·rintro ⟨x,S1,h1,q⟩
  exact ⟨_,_,_,by unfold zch;rw [h1];rfl,q⟩
theorem zho:Ws (za9 a) l S QS=We a l S fun x S1=>QS (.rt x) l S1:=by
 apply propext
 constructor
 ·rintro ⟨f,v,S',h,q⟩
  obtain ⟨⟨x,S1⟩,h1,h⟩:=bnd h
  cases h
  exact ⟨x,_,h1,q⟩
 ·rintro ⟨x,S1,h1,q⟩
  exact ⟨_,_,_,by unfold za9;rw [h1];rfl,q⟩
theorem zby {g:GM}:Ws (zam a g) l S QS=We a l S fun x S1=>Wg (g x l S1) fun l2 S2=>QS .nx l2 S2:=by
 apply propext
 constructor
 ·rintro ⟨f,v,S',h,q⟩
  obtain ⟨⟨x,S1⟩,h1,h⟩:=bnd h
  obtain ⟨⟨l2,S2⟩,h2,h⟩:=bnd h
  cases h
  exact ⟨x,S1,h1,_,_,h2,q⟩
 ·rintro ⟨x,S1,h1,l2,S2,h2,q⟩
  refine ⟨_,_,_,?_,q⟩
  unfold zam;rw [h1];show (g x l S1).bind _=_;rw [h2];rfl
theorem za0 {i:Nat}{d:D}:Wg (zag i d l S) QG=QG (l.set i (some d)) S:=by
 apply propext
 exact ⟨fun hx7_=>by obtain ⟨v,S',h,q⟩:=hx7_;cases h;exact q,fun q=>⟨_,_,rfl,q⟩⟩
theorem zew {k:Nat}{gs:GsM}{xs:List D}:Wg (zc6 k gs (.tup xs) l S) QG=(xs.length=k/\Wg (gs xs l S) QG):=by
 apply propext
 constructor
 ·rintro ⟨v,S',h,q⟩
  have h:(if xs.length=k then gs xs l S else none)=some (v,S'):=h
  by_cases hl:xs.length=k
  ·rw [if_pos hl] at h;exact ⟨hl,v,S',h,q⟩
  ·rw [if_neg hl] at h;cases h
 ·rintro ⟨hl,v,S',h,q⟩
  exact ⟨v,S',by show (if xs.length=k then gs xs l S else none)=_;rw [if_pos hl];exact h,q⟩
theorem zex:Wg (zc5 [] l S) QG=QG l S:=by
 apply propext
 exact ⟨fun hx8_=>by obtain ⟨v,S',h,q⟩:=hx8_;cases h;exact q,fun q=>⟨_,_,rfl,q⟩⟩
theorem zey {g:GM}{gs:GsM}{x:D}{xs:List D}:Wg (zb4 g gs (x :: xs) l S) QG=Wg (g x l S) fun l1 S1=>Wg (gs xs l1 S1) QG:=by
 apply propext
 constructor
 ·rintro ⟨v,S',h,q⟩
  obtain ⟨⟨l1,S1⟩,h1,h⟩:=bnd h
  exact ⟨l1,S1,h1,v,S',h,q⟩
 ·rintro ⟨l1,S1,h1,v,S',h,q⟩
  exact ⟨v,S',by show (g x l S).bind _=_;rw [h1];exact h,q⟩
theorem zk9 {o i:EM}{v:D}:Wg (zf6 o i v l S) QG=We o l S fun x S1=>We i l S1 fun y S2=>∃S',zfh x y v S2=some S'/\QG l S':=by
 apply propext
 constructor
 ·rintro ⟨l',S',h,q⟩
  obtain ⟨⟨x,S1⟩,h1,h⟩:=bnd h
  obtain ⟨⟨y,S2⟩,h2,h⟩:=bnd h
  obtain ⟨S3,h3,h⟩:=bnd h
  cases h
  exact ⟨x,S1,h1,y,S2,h2,_,h3,q⟩
 ·rintro ⟨x,S1,h1,y,S2,h2,S3,h3,q⟩
  refine ⟨l,S3,?_,q⟩
  unfold zf6;rw [h1];show (i l S1).bind _=_;rw [h2];show (zfh x y v S2).bind _=_;rw [h3];rfl
theorem zbu {d:D}:Wo (some (d,S)) Q=Q d S:=by
 apply propext
 exact ⟨fun hx9_=>by obtain ⟨v,S',h,q⟩:=hx9_;cases h;exact q,fun q=>⟨_,_,rfl,q⟩⟩
theorem zez {α:Type}{o:Option α}{f:α->Option (D × Sto)}:Wo (o.bind f) Q = ∃x,o=some x/\Wo (f x) Q:=by
 cases o with
 | none=>simp [Wo]
 | some x=>simp [Wo]
theorem ze0 {p:Prop} [Decidable p] {x:D × Sto}:Wo (if p then some x else none) Q=(p/\Q x.1 x.2):=by
 obtain ⟨a,b⟩:=x
 by_cases hp:p
 ·rw [if_pos hp]
  apply propext
  exact ⟨fun hx10_=>by obtain ⟨v,S',h,q⟩:=hx10_;cases h;exact ⟨hp,q⟩,fun q=>⟨a,b,rfl,q.2⟩⟩
 ·simp [hp,Wo]
theorem zla {g:Int->Int->D}{i j:Int}:Wo (oI0 g (.int i) (.int j) S) Q=Q (g i j) S:=zbu
theorem zlb {C:Int->Int->Bool}{g:Int->Int->D}{i j:Int}:Wo (oI C g (.int i) (.int j) S) Q=(C i j=true/\Q (g i j) S):=ze0
theorem zi3 {xs:List D}{i:Int}:Wo (dIx (.tup xs) (.int i) S) Q = ∃v,L2.atI xs i=some v/\Q v S:=by
 show Wo ((L2.atI xs i).bind fun v=>some (v,S)) Q=_
 rw [zez];simp only [zbu]
theorem zi4 {k:Nat}{i:Int}:Wo (dIx (.ref k) (.int i) S) Q = ∃xs,lstOf S k=some xs/\∃v,L2.atI xs i=some v/\Q v S:=by
 show Wo ((lstOf S k).bind fun xs=>(L2.atI xs i).bind fun v=>some (v,S)) Q=_
 rw [zez];simp only [zez,zbu]
theorem zi5 {xs:List D}:Wo (zhi [.tup xs] S) Q=Q (.int xs.length) S:=zbu
theorem zi6 {k:Nat}:Wo (zhi [.ref k] S) Q = ∃xs,lstOf S k=some xs/\Q (.int xs.length) S:=by
 show Wo ((lstOf S k).bind fun xs=>some (.int xs.length,S)) Q=_
 rw [zez];simp only [zbu]
theorem zlc {i:Int}:Wo (zfe [.int i] S) Q=Q (.int (if i<0 then -i else i)) S:=zbu
theorem zdq {xs:List D}:Wo (za2 xs S) Q=(xs.length<=sizeLine/\Q (.tup xs) S):=ze0
theorem zi7 {xs:List D}:Wo (zbw xs S) Q=(xs.length<=sizeLine/\Q (.ref S.length) (S++[.lst xs])):=ze0
theorem zge {k:Nat}:Wo (zdm [.ref k] S) Q = ∃xs,lstOf S k=some xs/\Q (.tup xs) S:=by
 show Wo ((lstOf S k).bind fun xs=>some (.tup xs,S)) Q=_
 rw [zez];simp only [zbu]
theorem zld {i j:Int}:Wo (dEq (.int i) (.int j) S) Q=Q (.bl (decide (i=j))) S:=zbu
theorem zhp {i j:Str}:Wo (dNe (.str i) (.str j) S) Q=Q (.bl (!decide (i=j))) S:=zbu
theorem zle {x:D}:Wo (dIs x .non S) Q=Q (.bl (zdl x)) S:=by
 cases x <;> exact zbu
theorem zlf {x:D}:Wo (zcy x .non S) Q=Q (.bl (!zdl x)) S:=by
 cases x <;> exact zbu
theorem zi8 {k:Nat}{x:D}:Wo (zce (.ref k) [x] S) Q = ∃xs,S[k]? = some (.lst xs)/\xs.length<sizeLine/\Q .non (S.set k (.lst (xs++[x]))):=by
 show Wo (match S[k]? with|some (.lst xs)=>if xs.length<sizeLine then some (.non,S.set k (.lst (xs++[x]))) else none|_=>none) Q=_
 cases e:S[k]? with
 | none=>simp [Wo]
 | some o =>
  cases o with
  | lst xs=>simp [ze0]
  | flst xs=>simp [Wo]
  | iset f n=>simp [Wo]
  | dct kvs=>simp [Wo]
  | fdct kvs=>simp [Wo]
  | ftdct kvs=>simp [Wo]
  | tset ks=>simp [Wo]
  | fnc x=>simp [Wo]
  | tdct kvs=>simp [Wo]
  | exc c=>simp [Wo]
theorem zb2 {k:Nat}{b:SM}{ds:List D}:Wo (zbt k b ds S) Q=Ws b (ds.map some++List.replicate (k-ds.length) none) S fun f _ S1=>match f with | .rt d=>Q d S1 | .nx=>Q .non S1|_=>False:=by
 apply propext
 constructor
 ·rintro ⟨v,S',h,q⟩
  obtain ⟨⟨f,l1,S1⟩,h1,h⟩:=bnd h
  refine ⟨f,l1,S1,h1,?_⟩
  cases f with
  | rt d=>cases h;exact q
  | nx=>cases h;exact q
  | bk=>cases h
  | ct=>cases h
 ·rintro ⟨f,l1,S1,h1,q⟩
  cases f with
  | rt d=>exact ⟨_,_,by unfold zbt;rw [h1];rfl,q⟩
  | nx=>exact ⟨_,_,by unfold zbt;rw [h1];rfl,q⟩
  | bk=>cases q
  | ct=>cases q
end
theorem Wo.mono {o:Option (D × Sto)}{Q Q':D->Sto->Prop}(h:Wo o Q) (i:∀v S,Q v S->Q' v S):Wo o Q':=let ⟨v,S,e,q⟩:=h;⟨v,S,e,i v S q⟩
theorem Wr.mono {o:Option (Fl × Lo × Sto)}{Q Q':Fl->Lo->Sto->Prop}(h:Wr o Q) (i:∀f v S,Q f v S->Q' f v S):Wr o Q':=let ⟨f,v,S,e,q⟩:=h;⟨f,v,S,e,i f v S q⟩
section
variable {g:GM}{b:SM}{l:Lo}{S:Sto}{QS:Fl->Lo->Sto->Prop}
theorem zlg (P:Nat->Lo->Sto->Prop):∀(xs:List D) (k:Nat) (l:Lo) (S:Sto),P k l S ->
  (∀(i:Nat) x l S,xs[i]? = some x->P (k+i) l S->Wg (g x l S) fun l1 S1=>Ws b l1 S1 fun f l2 S2=>(f=.nx∨f=.ct)/\P (k+i+1) l2 S2) ->
  Wr (zcs g b xs l S) fun f l' S'=>f=.nx/\P (k+xs.length) l' S'
 | [],k,l,S,h0,_=>⟨_,_,_,rfl,rfl,h0⟩
 | x :: xs,k,l,S,h0,hs=>by
  obtain ⟨l1,S1,e1,f,l2,S2,e2,hf,h1⟩:=hs 0 x l S rfl h0
  have ih:=zlg P xs (k+1) l2 S2 h1 fun i y l S hy hp=>by
   have:=hs (i+1) y l S (by simpa using hy) (by rw [show k+(i+1)=k+1+i by omega];exact hp)
   rw [show k+(i+1)+1=k+1+i+1 by omega] at this
   exact this
  obtain ⟨f',l',S',e3,q1,q2⟩:=ih
  refine ⟨f',l',S',?_,q1,by rw [List.length_cons,show k+(xs.length+1)=k+1+xs.length by omega];exact q2⟩
  unfold zcs
  rw [e1];show (b l1 S1).bind _=_;rw [e2]
  rcases hf with rfl|rfl <;> exact e3
theorem zpt {as:AM}:Ws (zd1 (zbg as) g b) l S QS=Wa as l S fun xs S1=>∃j,xs=[.int j]/\(-(2 ^ 62)<=j/\j<2 ^ 62)/\Wr (zcs g b (zav 0 j.toNat) l S1) QS:=by
 apply propext
 constructor
 ·rintro ⟨f,v,S',h,q⟩
  obtain ⟨⟨⟨lo,n⟩,S1⟩,h1,h⟩:=bnd h
  obtain ⟨⟨xs,S2⟩,h2,h1⟩:=bnd h1
  dsimp only at h1
  split at h1
  ·rename_i j
   obtain ⟨hz,e⟩:=zbl h1
   cases e
   exact ⟨_,_,h2,j,rfl,hz,f,v,S',h,q⟩
  ·cases h1
 ·rintro ⟨xs,S1,h1,j,rfl,hz,f,v,S',h,q⟩
  refine ⟨f,v,S',?_,q⟩
  have:zbg as l S=some ((0,j.toNat),S1):=by
   unfold zbg;rw [h1];show (if _ then _ else _)=_;rw [if_pos hz]
  unfold zd1;show (zbg as l S).bind _=_;rw [this];exact h
theorem zlh {e:EM}:Ws (zc0 e g b) l S QS=We e l S fun x S1=>Wr (match x with | .tup xs=>zcs g b xs l S1 | .ref n=>(lstOf S1 n).bind fun xs=>zc7 g b n (xs.length+1) 0 l S1|_=>none) QS:=by
 apply propext
 constructor
 ·rintro ⟨f,v,S',h,q⟩
  obtain ⟨⟨x,S1⟩,h1,h⟩:=bnd h
  exact ⟨x,S1,h1,f,v,S',h,q⟩
 ·rintro ⟨x,S1,h1,f,v,S',h,q⟩
  exact ⟨f,v,S',by unfold zc0;rw [h1];exact h,q⟩
theorem zi9 {lo:Int}{n i:Nat}{x:D}(h:(zav lo n)[i]? = some x):i<n/\x=.int (lo+i):=by
 have hl:=(List.getElem?_eq_some_iff.mp h).1
 simp only [zav,List.length_map,List.length_range] at hl
 unfold zav at h
 rw [List.getElem?_map,List.getElem?_range hl] at h
 exact ⟨hl,(Option.some.inj h).symm⟩
theorem zda (lo:Int) (n:Nat):(zav lo n).length=n:=by simp [zav]
end
end L3
namespace L3
open PySem PySem.Spec PyProof.Rows L2
mutual
noncomputable def zax (S:Sto):Nat->D->Option PyData
 | 0,_=>none
 | _+1,.non=>some .none
 | _+1,.bl b=>some (.bool b)
 | _+1,.int i=>if i.natAbs.log2<1920 then some (.int i) else none
 | _+1,.str x=>some (.str x)
 | k+1,.tup xs=>(zb9 S k xs).bind fun ds=>some (.tuple ds)
 | k+1,.ref n=>(lstOf S n).bind fun xs=>(zb9 S k xs).bind fun ds=>some (.list ds)
 | _+1,.fn _=>none
termination_by k=>(k,0)
noncomputable def zb9 (S:Sto):Nat->List D->Option (List PyData)
 | _,[]=>some []
 | k,x :: xs=>(zax S k x).bind fun d=>(zb9 S k xs).bind fun ds=>some (d :: ds)
termination_by k xs=>(k,xs.length+1)
end
noncomputable def zei:FM
 | [x],S=>(zax S 140 x).bind fun d=>if d.shown.length<=sizeLine then some (.str d.shown,S) else none
 | _,_=>none
section
variable {X:Cx}{pins:List (Addr × Obj)}{σ:St}{H:Hp}{s:Shared}{ρ:List Addr}{S:Sto}
mutual
theorem zja (I:Inv X pins σ H s) (sim:Sim X.K ρ S H):∀(k:Nat) (d:D) (v:V) (u:Value) (p:PyData),RD ρ H d v->RelV v u->zax S k d=some p->(∃as,Reads s.heap u p as)/\p.showable=true/\p.hasDict=false/\p.depth<=k
 | 0,d,v,u,p,_,_,h=>by unfold zax at h;cases h
 | k+1,.non,v,u,p,r,e,h=>by
  unfold zax at h;cases h;cases r;cases e
  exact ⟨⟨_,.none⟩,rfl,rfl,Nat.zero_le _⟩
 | k+1,.bl b,v,u,p,r,e,h=>by
  unfold zax at h;cases h;cases r;cases e
  exact ⟨⟨_,.bool b⟩,rfl,rfl,Nat.zero_le _⟩
 | k+1,.int i,v,u,p,r,e,h=>by
  unfold zax at h
  obtain ⟨hz,e2⟩:=zbl h
  cases e2;cases r
  obtain ⟨t,rfl⟩:=e
  exact ⟨⟨_,.int i t⟩,by unfold PyData.showable;exact decide_eq_true hz,rfl,Nat.zero_le _⟩
 | k+1,.str x,v,u,p,r,e,h=>by
  unfold zax at h;cases h;cases r
  obtain ⟨t,rfl⟩:=e
  exact ⟨⟨_,.str x t⟩,rfl,rfl,Nat.zero_le _⟩
 | k+1,.fn _,v,u,p,r,e,h=>by unfold zax at h;cases h
 | k+1,.tup xs,v,u,p,r,e,h=>by
  unfold zax at h
  obtain ⟨ds,h1,h⟩:=bnd h
  cases h
  cases r with
  | tup ha r =>
   cases e
   obtain ⟨its,rv,⟨o,ho,hc,n,hd⟩,hz⟩:=I.tuple (SqT.of ha)
   obtain ⟨⟨as,h2⟩,h3,h4,h5⟩:=zli I sim k xs _ _ ds r rv h1
   refine ⟨⟨as,.tuple ho hc hd (by simpa using h2)⟩,?_,?_,?_⟩
   ·unfold PyData.showable;exact h3
   ·unfold PyData.hasDict;exact h4
   ·unfold PyData.depth;omega
 | k+1,.ref n,v,u,p,r,e,h=>by
  unfold zax at h
  obtain ⟨xs,h0,h⟩:=bnd h
  obtain ⟨ds,h1,h⟩:=bnd h
  cases h
  obtain ⟨a,vs,ha,sq,rd⟩:=sim.lstOf h0
  cases r with
  | ref hn =>
   rw [ha] at hn;cases hn
   cases e
   obtain ⟨its,rv,pl,hz⟩:=I.list sq
   obtain ⟨o,ho,hc,m,hd⟩:=pl.isList
   obtain ⟨⟨as,h2⟩,h3,h4,h5⟩:=zli I sim k xs _ _ ds rd rv h1
   refine ⟨⟨_,.list ho hc hd (by simpa using h2)⟩,?_,?_,?_⟩
   ·unfold PyData.showable;exact h3
   ·unfold PyData.hasDict;exact h4
   ·unfold PyData.depth;omega
termination_by k=>(k,0)
theorem zli (I:Inv X pins σ H s) (sim:Sim X.K ρ S H):∀(k:Nat) (xs:List D) (vs:List V) (us:List Value) (ds:List PyData),RDs ρ H xs vs->Vals vs us->zb9 S k xs=some ds->(∃as,ReadsAll s.heap us ds as)/\PyData.showableAll ds=true/\PyData.hasDictAll ds=false/\PyData.depthAll ds<=k
 | k,[],vs,us,ds,r,e,h=>by
  unfold zb9 at h;cases h;cases r;cases e
  exact ⟨⟨_,.nil⟩,rfl,rfl,Nat.zero_le _⟩
 | k,x :: xs,vs,us,ds,r,e,h=>by
  unfold zb9 at h
  obtain ⟨d,h1,h⟩:=bnd h
  obtain ⟨ds',h2,h⟩:=bnd h
  cases h
  cases r with
  | cons r1 r2 =>
   cases e with
   | cons e1 e2 =>
    obtain ⟨⟨as,q1⟩,q2,q3,q4⟩:=zja I sim k x _ _ d r1 e1 h1
    obtain ⟨⟨bs,p1⟩,p2,p3,p4⟩:=zli I sim k xs _ _ ds' r2 e2 h2
    refine ⟨⟨_,.cons q1 p1⟩,?_,?_,?_⟩
    ·unfold PyData.showableAll;rw [q2,p2];rfl
    ·unfold PyData.hasDictAll;rw [q3,p3];rfl
    ·unfold PyData.depthAll;omega
termination_by k xs=>(k,xs.length+1)
end
end
end L3
namespace L3
open PySem PySem.Spec PyProof.Rows L2
section
variable {X:Cx}{a:Expr}{es:List Expr}{mA:AM}{pos p:Pos}
theorem zy0 {k:Nat}(hr:Room k X.A):CallR X (.builtin "repr") (fun xs H Q=>∃v ρ S d pd,xs=[v]/\Sim X.K ρ S H/\RD ρ H d v/\zax S 140 d=some pd/\pd.shown.length<=sizeLine/\Q (.str pd.shown) H):=by
 intro pins s σ H xs us Q I r h
 obtain ⟨v,ρ,S,d,pd,rfl,sim,rd,hp,hz,q⟩:=h
 obtain ⟨u,rfl,ru⟩:=zed r
 have key:=zja I sim 140 d v u pd rd ru hp
 have byRef:∀a,u=.ref a->wpAny (model X.prog X.w) X.A (call (.builtin "repr") [u]) (EP X pins σ Q) X.xe s:=fun b hb=>by
  subst hb
  obtain ⟨⟨as,h1⟩,h2,h3,h4⟩:=key
  have hu:X.A.units+(pd.depth+1)<cLine:=by have:=hr.un;omega
  refine repr_of_reads' h1 h2 (fun z=>by rw [h3] at z;cases z) hr.gd hu (fun _ _ e=>e) (fun h' u tk hk=>?_) hz
  exact ⟨.str pd.shown,H,I.kept hk,⟨u,rfl⟩,q⟩
 have hp':=hp
 cases rd with
 | non=>cases ru;unfold zax at hp';cases hp';exact P.repr_of_none ⟨.str _,H,I.tok _,⟨_,rfl⟩,q⟩
 | bl b=>cases ru;unfold zax at hp';cases hp';exact P.repr_of_bool ⟨.str _,H,I.tok _,⟨_,by cases b <;> rfl⟩,q⟩
 | int i =>
  obtain ⟨t,rfl⟩:=ru
  unfold zax at hp'
  obtain ⟨hi,e⟩:=zbl hp'
  cases e
  exact P.repr_of_int hi ⟨.str _,H,I.tok _,⟨_,rfl⟩,q⟩
 | str x=>obtain ⟨t,rfl⟩:=ru;unfold zax at hp';cases hp';exact P.repr_of_str ⟨.str _,H,I.tok _,⟨_,rfl⟩,q⟩ hz
 | tup ha r=>exact byRef _ ru
 | ref hn=>exact byRef _ ru
 | fn b=>unfold zax at hp';cases hp'
theorem zy1 {K:PySem.W.Frag}:Fn3 K zei (fun xs H Q=>∃v ρ S d pd,xs=[v]/\Sim K ρ S H/\RD ρ H d v/\zax S 140 d=some pd/\pd.shown.length<=sizeLine/\Q (.str pd.shown) H):=by
 intro ρ S H xs vs v S' Q sim r h p
 unfold zei at h
 split at h
 ·obtain ⟨pd,h1,h⟩:=bnd h
  obtain ⟨hz,e⟩:=zbl h
  cases e
  obtain ⟨w,rfl,rw'⟩:=r.one
  exact ⟨w,ρ,_,_,pd,rfl,sim,rw',h1,hz,p ρ H _ (Ext.refl ..) sim (.str _)⟩
 ·cases h
theorem zy2:bootBuiltins "repr" = some (.builtin "repr"):=by decide +kernel
theorem zjb {k:Nat}(hr:Room k X.A) (hg:Gl X "repr") (hm:X.mg "repr" = none) (ha:PA3 X (a :: es) mA) (he:starEach (a :: es) X.env=(false,eval a X.env) :: starEach es X.env:=by rfl) (hpl:(backTo pos (starEach es X.env)).any (·.1)=false:=by rfl):PE3 X (.Call (.Name "repr" p) (a :: es) [] pos) (zaf zei mA) :=
 zet (zy0 hr) zy1 hg hm zy2 ha (by decide) (by decide) he hpl
end
theorem zy3 {x:D}{S:Sto}{Q:D->Sto->Prop}:Wo (zei [x] S) Q = ∃pd,zax S 140 x=some pd/\pd.shown.length<=sizeLine/\Q (.str pd.shown) S:=by
 show Wo ((zax S 140 x).bind fun d=>if d.shown.length<=sizeLine then some (.str d.shown,S) else none) Q=_
 rw [zez]
 simp only [ze0]
end L3
namespace L3
open PySem PySem.Spec PyProof.Rows L2
theorem zy4:fillsNumberSlot (.type "tuple") "mul" = pure false :=
 PySem.fillsNumberSlot_seq (id:="tuple.__mul__") (r:=some (.builtin "tuple.__rmul__")) PySem.F.slot_tuple_mul.lookup (by decide +kernel) PySem.F.slot_tuple_rmul.lookup (by decide +kernel)
theorem zy5:seqRepeat? (.type "tuple")=pure (some (.builtin "tuple.__mul__")):=by
 unfold seqRepeat?
 rw [PySem.seqSlot_of (T:="tuple") (name:="__mul__") (id:="tuple.__mul__") PySem.F.slot_tuple_mul.lookup (by decide +kernel),PySem.seqSlot_of (T:="tuple") (name:="__rmul__") (id:="tuple.__rmul__") PySem.F.slot_tuple_rmul.lookup (by decide +kernel)]
 rfl
open PySem.AutoSeq1 (wpAny_loadPart')
theorem zy6 (a:Int) (t:Tok) (l:Addr) (items:Array Value) (n:Nat) (dd:Option Addr) (sl:Array (Option Value)) :
  Meets (Builtin.«int.__rmul__» ⟨[.int a t,.ref l],[]⟩) (fun _ R s=>s.heap.get? l=some { cls:=.type "tuple",dict:=dd,data:=.seq items n,slots:=sl }/\R (.ok (.ret Value.notImplemented)) s) :=
 .of_wp fun prog w A R s h=>by obtain ⟨hp,g,d,tk,os⟩:=s;obtain ⟨hl,h⟩:=h;wp_walk;exact ⟨_,rfl,h⟩
section
variable {prog:Program}{w:World}{A:Around}{E:Value->Shared->Prop}{s:Shared}
theorem zy7 {t:Addr}{items:Array Value}{k:Int}{u:Tok}{Q:Value->Shared->Prop}(ht:IsTup s.heap t items) (k0:2<=k) (k1:k<2 ^ 31) (hi:items.isEmpty=false) (hz:items.size*k.toNat<=sizeLine)
  (h:Q (.ref s.heap.objs.size) { s with heap:=s.heap.push { cls:=.type "tuple",data:=.seq ((List.replicate k.toNat items).foldl (·++·) #[]) } }) (h6:((List.replicate k.toNat items).foldl (·++·) #[]).size<=sizeLine) :
  wpAny (model prog w) A (call (.builtin "tuple.__mul__") [.ref t,.int k u]) Q E s:=by
 refine wpAny_call_entry PySem.F.slot_tuple_mul ht.typeIs PySem.F.entry_tuple_mul ?_ (PySem.F.args_tuple_mul_2 _ _)
 show wpAny _ _ (asIndex (.int k u) >>= _) _ _ s
 refine wpAny_bind ?_
 show wpAny _ _ (pure k) _ _ s
 refine wpAny_pure ?_
 have e1:(decide (k < -(2 ^ 63)) || decide (k ≥ 2 ^ 63))=false:=by
  rw [Bool.or_eq_false_iff];exact ⟨decide_eq_false (by omega),decide_eq_false (by omega)⟩
 have e2:(items.isEmpty || k == 1)=false:=by rw [hi,Bool.false_or];exact beq_false_of_ne (by omega)
 have e3:(decide (k<=0) || items.isEmpty)=false:=by rw [hi,Bool.or_false];exact decide_eq_false (by omega)
 show wpAny _ _ (if (decide (k < -(2 ^ 63)) || decide (k ≥ 2 ^ 63))=true then _ else _) _ _ s
 rw [if_neg (by rw [e1];exact Bool.false_ne_true)]
 refine wpAny_bind (tupleItemsOf_ ht ?_)
 show wpAny _ _ (if (items.isEmpty || k == 1)=true then _ else _) _ _ s
 rw [if_neg (by rw [e2];exact Bool.false_ne_true)]
 show wpAny _ _ (if (decide (k<=0) || items.isEmpty)=true then _ else _) _ _ s
 rw [if_neg (by rw [e3];exact Bool.false_ne_true)]
 have hk:(items.size:Int)*k=((items.size*k.toNat:Nat):Int):=by rw [Int.natCast_mul,Int.toNat_of_nonneg (by omega)]
 have hs:(sizeLine:Nat)=16777216:=by decide
 show wpAny _ _ (if (items.size:Int)*k > (2 ^ 63-1) / 8 then _ else _) _ _ s
 rw [if_neg (by rw [hk];omega)]
 show wpAny _ _ (if Builtin.Tuple.tupleTooMany ((items.size:Int)*k)=true then _ else _) _ _ s
 rw [if_neg (by unfold Builtin.Tuple.tupleTooMany;rw [hk];simp only [decide_eq_true_eq];omega)]
 first
  | exact wpAny_bind (m:=Builtin.Tuple.tupleExact _) (wpAny_newObj_type (wpAny_pure ⟨_,rfl,h⟩) h6)
  | exact wpAny_bind (m:=Builtin.Tuple.tupleExact _) (wpAny_newObj_type (wpAny_pure ⟨_,rfl,wpAny_pure h⟩) h6)
theorem zy8 {t:Addr}{items:Array Value}{u:Tok}{Q:Value->Shared->Prop}(ht:IsTup s.heap t items) (h:Q (.ref t) s) :
  wpAny (model prog w) A (call (.builtin "tuple.__mul__") [.ref t,.int 1 u]) Q E s:=by
 refine wpAny_call_entry PySem.F.slot_tuple_mul ht.typeIs PySem.F.entry_tuple_mul ?_ (PySem.F.args_tuple_mul_2 _ _)
 show wpAny _ _ (asIndex (.int 1 u) >>= _) _ _ s
 refine wpAny_bind ?_
 show wpAny _ _ (pure (1:Int)) _ _ s
 refine wpAny_pure ?_
 show wpAny _ _ (if (decide ((1:Int) < -(2 ^ 63)) || decide ((1:Int) ≥ 2 ^ 63))=true then _ else _) _ _ s
 rw [if_neg (by decide)]
 refine wpAny_bind (tupleItemsOf_ ht ?_)
 show wpAny _ _ (if (items.isEmpty || (1:Int) == 1)=true then _ else _) _ _ s
 rw [if_pos (by simp)]
 unfold Builtin.Tuple.tupleIsExact
 refine wpAny_bind (wpAny_bind (wpAny_typeOf ht.typeIs (wpAny_pure ?_)))
 rw [if_pos (by decide)]
 exact wpAny_bind (wpAny_rule (wpAny_pure ⟨_,rfl,h⟩))
theorem zy9 {t:Addr}{items:Array Value}{k:Int}{u:Tok}{Q:Value->Shared->Prop}(ht:IsTup s.heap t items) (k0:k=0) (hi:items.isEmpty=false)
  (h:Q (.ref s.heap.objs.size) { s with heap:=s.heap.push { cls:=.type "tuple",data:=.seq #[] } }) :
  wpAny (model prog w) A (call (.builtin "tuple.__mul__") [.ref t,.int k u]) Q E s:=by
 subst k0
 refine wpAny_call_entry PySem.F.slot_tuple_mul ht.typeIs PySem.F.entry_tuple_mul ?_ (PySem.F.args_tuple_mul_2 _ _)
 show wpAny _ _ (asIndex (.int 0 u) >>= _) _ _ s
 refine wpAny_bind ?_
 show wpAny _ _ (pure (0:Int)) _ _ s
 refine wpAny_pure ?_
 show wpAny _ _ (if (decide ((0:Int) < -(2 ^ 63)) || decide ((0:Int) ≥ 2 ^ 63))=true then _ else _) _ _ s
 rw [if_neg (by decide)]
 refine wpAny_bind (tupleItemsOf_ ht ?_)
 show wpAny _ _ (if (items.isEmpty || (0:Int) == 1)=true then _ else _) _ _ s
 rw [if_neg (by rw [hi];decide)]
 show wpAny _ _ (if (decide ((0:Int)<=0) || items.isEmpty)=true then _ else _) _ _ s
 rw [if_pos (by simp)]
 first
  | exact wpAny_bind (m:=Builtin.Tuple.tupleExact _) (wpAny_newObj_type (wpAny_pure ⟨_,rfl,h⟩) (Nat.zero_le _))
  | exact wpAny_bind (m:=Builtin.Tuple.tupleExact _) (wpAny_newObj_type (wpAny_pure ⟨_,rfl,h⟩) (by decide))
end
noncomputable def zpu (K:PySem.W.Frag):R2:=fun x y H Q=>∃a k xs,x=.ref a/\y=.int k/\SqT K H a xs/\xs≠[]/\0<=k/\k<2 ^ 31/\xs.length*k.toNat<=sizeLine /\
 (k=1->Q (.ref a) H)/\(k≠1->∀p,H p=none->Q (.ref p) (upd H p (.tup (List.replicate k.toNat xs).flatten)))
theorem zza {X:Cx}:OpR X (binaryOp .Mult) (zpu X.K):=by
 intro pins s σ H x y v u Q I rx ry h
 obtain ⟨a,k,xs,rfl,rfl,hx,hne,k0,k1,hz,q1,q2⟩:=h
 cases rx
 obtain ⟨t,rfl⟩:=ry
 obtain ⟨its,r,pt,_⟩:=I.tuple hx
 have hne':its≠[]:=fun z=>hne (r.nil_iff.mp z)
 have hie:its.toArray.isEmpty=false:=by cases its with
  | nil=>exact absurd rfl hne'
  | cons _ _=>simp
 obtain ⟨⟨cls,dd,data,sl⟩,ho,hc,n,hd⟩:=id pt
 simp only at hc hd
 subst hc hd
 refine wpAny_binaryOp_repeat_ref (T:="tuple") (U:="int") (by decide) ⟨_,ho,rfl⟩ (fun s'=>typeIs_int s' k t) zy4 PySem.F.fills_int_mul PySem.F.slot_int_rmul zy5 PySem.F.slot_int_index.lookup
  (call_meets PySem.F.slot_int_rmul (typeIs_int s k t) PySem.F.entry_int_rmul (PySem.F.args_int_rmul_2 _ _) (zy6 k t a its.toArray n dd sl) ⟨ho,rfl,⟨_,ho,rfl⟩,?_⟩)
 have f0:∀m:Nat,List.foldl (fun x1 x2=>x1++x2) #[] (List.replicate m its.toArray)=(List.replicate m its).flatten.toArray:=fun m=>by
  have:=zoq its m []
  rw [List.nil_append] at this
  exact this
 have hl:xs.length=its.length:=r.length
 by_cases e1:k=1
 ·subst e1
  exact zy8 pt ⟨.ref a,H,I,rfl,q1 rfl⟩
 ·by_cases e0:k=0
  ·refine zy9 pt e0 hie ?_
   have hv:Vals ([]:List V) ([]:List Value):=.nil
   refine ⟨.ref s.heap.objs.size,_,I.laid (t':=s.toks) (o:=.tup []) (fun b ob q=>Heap.get?_push_of_some _ q) (Nat.le_refl _) ?_,rfl,?_⟩
   ·exact ⟨Nat.zero_le _,[],.nil,IsTup.new _ _⟩
   ·have:=q2 e1 _ (I.hok.fresh (Nat.le_refl _))
    subst e0
    exact this
  ·have hlen:(List.replicate k.toNat its).flatten.length=k.toNat*its.length:=zov its k.toNat
   refine zy7 pt (by omega) k1 hie (by rw [List.size_toArray,←hl];exact hz) ?_ ?_
   ·rw [f0]
    refine ⟨.ref s.heap.objs.size,_,I.laid (t':=s.toks) (o:=.tup (List.replicate k.toNat xs).flatten) (fun b ob q=>Heap.get?_push_of_some _ q) (Nat.le_refl _) ?_,rfl,q2 e1 _ (I.hok.fresh (Nat.le_refl _))⟩
    exact ⟨by rw [zov,Nat.mul_comm];exact hz,_,r.rep k.toNat,IsTup.new _ _⟩
   ·rw [f0,List.size_toArray,hlen,Nat.mul_comm,←hl];exact hz
noncomputable def zdr:D->D->Sto->Option (D × Sto)
 | .int i,.int j,S=>if (-(2 ^ 64)<i/\i<2 ^ 64)∨(-(2 ^ 64)<j/\j<2 ^ 64) then some (.int (i*j),S) else none
 | .tup (x :: xs),.int k,S=>if 0<=k/\k<2 ^ 31/\(xs.length+1)*k.toNat<=sizeLine then some (.tup (List.replicate k.toNat (x :: xs)).flatten,S) else none
 | _,_,_=>none
theorem zzb {K:PySem.W.Frag}:Op3 K zdr (fun x y H Q=>rI CMul (fun i j=>.int (i*j)) x y H Q∨zpu K x y H Q):=by
 intro ρ S H x y x' y' v S' Q sim rx ry h p
 unfold zdr at h
 split at h
 ·obtain ⟨hc,e⟩:=zbl h
  cases e;cases rx;cases ry
  exact .inl ⟨_,_,rfl,rfl,hc,p ρ H _ (Ext.refl ..) sim (.int _)⟩
 ·rename_i x xs k
  obtain ⟨⟨k0,k1,hz⟩,e⟩:=zbl h
  cases e;cases ry
  cases rx with
  | @tup _ a vs ha r =>
   have hl:=r.length
   refine .inr ⟨a,k,vs,rfl,rfl,SqT.of ha,?_,k0,k1,by rw [←hl];exact hz,fun e=>?_,fun _=>ziw sim (r.rep k.toNat) p⟩
   ·intro z;rw [z] at hl;cases hl
   ·subst e
    have e2:(List.replicate (1:Int).toNat (x :: xs)).flatten=x :: xs:=by simp
    rw [e2] at p
    exact p ρ H _ (Ext.refl ..) sim (.tup ha r)
 ·cases h
section
variable {X:Cx}{a b:Expr}{ma mb:EM}{pos:Pos}
theorem zhq (ha:PE3 X a ma) (hb:PE3 X b mb):PE3 X (.BinOp a .Mult b pos) (eOp zdr ma mb):=zhe (op_mul.or zza) zzb ha hb
end
end L3
namespace L3
open PySem PySem.Spec PyProof.Rows L2
noncomputable def whl (c:TM) (b:SM):Nat->SM
 | 0,_,_=>none
 | k+1,l,S=>(c l S).bind fun p=>if p.1=true then (b l p.2).bind fun q=>match q.1 with
  | .nx=>whl c b k q.2.1 q.2.2
  | .ct=>whl c b k q.2.1 q.2.2
  | .bk=>some (.nx,q.2)
  | .rt d=>some (.rt d,q.2) else some (.nx,l,p.2)
section
variable {X:Cx}{c:Expr}{body:List Stmt}{mc:TM}{mb:SM}{pos:Pos}
theorem zlj (n:Nat) (hp:PassesOwn (model X.prog X.w) X.A X.env X.xe) (hc:PT3 X c mc) (hb:zdh X body mb):PS3 X (.While c body [] pos) (whl mc mb n) :=
 PS.imp (zvu hp hc hb) fun E σ H hx1_=>by
  obtain ⟨ρ,l,S,f,l',S',sim,ro,hm,p⟩:=hx1_
  refine ⟨fun m σ1 H1=>∃ρ1 l1 S1,Ext ρ H ρ1 H1/\Sim X.K ρ1 S1 H1/\RO ρ1 H1 l1 σ1/\whl mc mb m l1 S1=some (f,l',S'),⟨n,ρ,l,S,Ext.refl ..,sim,ro,hm⟩,?_⟩
  rintro m σ1 H1 ⟨ρ1,l1,S1,e1,s1,ro1,hm1⟩
  cases m with
  | zero=>cases hm1
  | succ m =>
   unfold whl at hm1
   obtain ⟨⟨k,S2⟩,q1,hm1⟩:=bnd hm1
   refine ⟨ρ1,l1,S1,k,S2,s1,ro1,q1,fun ρ2 H2 e2 s2=>?_⟩
   cases k with
   | false =>
    cases hm1
    exact zee (p ρ2 H2 σ1 (e1.trans e2) s2 (ro1.mono e2))
   | true =>
    have hm1:((mb l1 S2).bind fun q=>match q.1 with
     | .nx=>whl mc mb m q.2.1 q.2.2
     | .ct=>whl mc mb m q.2.1 q.2.2
     | .bk=>some (.nx,q.2)
     | .rt d=>some (.rt d,q.2))=some (f,l',S'):=hm1
    obtain ⟨⟨fl,l3,S3⟩,q2,hm1⟩:=bnd hm1
    refine zef ⟨_,fun σ' H' h=>h,ρ2,l1,S2,fl,l3,S3,s2,ro1.mono e2,q2,fun ρ3 H3 σ3 e3 s3 ro3=>?_⟩
    cases fl with
    | nx=>exact ⟨m,Nat.lt_succ_self m,ρ3,l3,S3,e1.trans (e2.trans e3),s3,ro3,hm1⟩
    | ct=>exact ⟨m,Nat.lt_succ_self m,ρ3,l3,S3,e1.trans (e2.trans e3),s3,ro3,hm1⟩
    | bk=>cases hm1;exact p ρ3 H3 σ3 (e1.trans (e2.trans e3)) s3 ro3
    | rt d=>cases hm1;exact p ρ3 H3 σ3 (e1.trans (e2.trans e3)) s3 ro3
theorem zzc (j:Nat) {x:Str}{e:Expr}{me:EM}{pos':Pos}(hN:X.N.Nodup) (he:PE3 X e me) (hi:X.N[j]? = some x:=by rfl) (hx:Loc X.env.scope x:=by first|exact Or.inl rfl|exact Or.inr rfl) (hf:X.fn x=true∨X.env.scope.names.lookup x=some .local:=by first|exact .inl rfl|exact .inr rfl|assumption) :
  PS3 X (.AugAssign (.Name x pos') .Add e pos) (zam (eOp zks (zaa j) me) (zag j)):=PS.imp (zvr hN hi hx he zvs hf) fun E σ H hx2_=>by
 obtain ⟨ρ,l,S,f,l',S',sim,ro,hm,p⟩:=hx2_
 obtain ⟨⟨y,S1⟩,q1,hm⟩:=bnd hm
 obtain ⟨⟨x1,S2⟩,q2,q1⟩:=bnd q1
 obtain ⟨⟨x2,S3⟩,q3,q1⟩:=bnd q1
 cases hm
 unfold zaa at q2
 split at q2
 ·rename_i d ed
  cases q2
  obtain ⟨w,h1,h2⟩:=ro.get j _ ed
  refine ⟨w,h1,ρ,l,_,x2,S3,sim,ro,q3,fun ρ1 H1 x' e1 s1 r1=>?_⟩
  dsimp only at q1
  unfold zks oI0 at q1
  split at q1
  ·cases q1
   cases h2;cases r1
   exact ⟨_,_,rfl,rfl,p ρ1 H1 _ e1 s1 ((ro.mono e1).set j (.int _))⟩
  ·cases q1
 ·cases q2
end
section
variable {X:Cx}
variable {a b:Expr}{ma mb:EM}{pos:Pos}
end
noncomputable def zgf:D->D->Sto->Option (D × Sto):=fun x y S=>(zax S 60 x).bind fun p=>(zax S 60 y).bind fun q=>if p.canLay0=true/\q.canLay0=true then some (.bl (p.eqv q),S) else none
noncomputable def zpv (K:PySem.W.Frag) (neg:Bool):R2:=fun x y H Q=>∃ρ S dx dy p q,Sim K ρ S H/\RD ρ H dx x/\RD ρ H dy y/\zax S 60 dx=some p/\zax S 60 dy=some q/\p.canLay0=true/\q.canLay0=true/\Q (.bl (if neg then !p.eqv q else p.eqv q)) H
section
variable {X:Cx}
theorem zzd {k:Nat}(hr:Room k X.A):OpR X (compareOp .Eq) (zpv X.K false):=by
 intro pins s σ H x y v u Q I rx ry h
 obtain ⟨ρ,S,dx,dy,p,q,sim,r1,r2,h1,h2,c1,c2,hq⟩:=h
 obtain ⟨⟨as,k1⟩,_,_,k2⟩:=zja I sim 60 dx x v p r1 rx h1
 obtain ⟨⟨bs,k3⟩,_,_,k4⟩:=zja I sim 60 dy y u q r2 ry h2
 have hu:X.A.units+min p.depth q.depth<cLine:=by have:=hr.un;have:min p.depth q.depth<=p.depth:=Nat.min_le_left _ _;omega
 exact PySem.SeqAt.compareEq_reads k1 k3 c1 c2 hu ⟨.bl _,H,I,rfl,hq⟩
theorem zze {K:PySem.W.Frag}:Op3 K zgf (zpv K false):=by
 intro ρ S H x y x' y' v S' Q sim rx ry h p
 obtain ⟨d1,h1,h⟩:=bnd h
 obtain ⟨d2,h2,h⟩:=bnd h
 obtain ⟨hc,e⟩:=zbl h
 cases e
 exact ⟨ρ,_,x,y,d1,d2,sim,rx,ry,h1,h2,hc.1,hc.2,p ρ H _ (Ext.refl ..) sim (.bl _)⟩
variable {a b:Expr}{ma mb:EM}{pos:Pos}{k:Nat}
theorem zzf (hr:Room k X.A) (ha:PE3 X a ma) (hb:PE3 X b mb):PT3 X (.Compare a [.Eq] [b] pos) (tE (eOp zgf ma mb)):=zcr (zzd hr) zze ha hb (zdf b)
end
end L3
namespace L3
open PySem PySem.Spec PyProof.Rows L2
noncomputable def zjc:D->Bool
 | .non=>true | .bl _=>true | .int _=>true | .str _=>true
 | _=>false
noncomputable def zjd:D->D->Bool
 | .non,.non=>true
 | .bl a,.bl b=>a == b
 | .bl a,.int b=>(if a then 1 else 0) == b
 | .int a,.bl b=>a == (if b then 1 else 0)
 | .int a,.int b=>a == b
 | .str a,.str b=>a == b
 | _,_=>false
noncomputable def zzg (S:Sto):D->Option (List D)
 | .tup xs=>some xs
 | .ref n=>lstOf S n
 | _=>none
noncomputable def zpw (neg:Bool):D->D->Sto->Option (D × Sto):=fun x y S=>(zzg S y).bind fun xs=>if zjc x=true/\xs.all zjc=true then some (.bl (if neg then !(xs.any fun y=>zjd y x) else xs.any fun y=>zjd y x),S) else none
theorem zpx {ρ:List Addr}{H:Hp}{x:D}{x':V}(r:RD ρ H x x'):zdw x' = zjc x:=by
 cases r <;> rfl
theorem zzh {ρ:List Addr}{H:Hp}{x y:D}{x' y':V}(r:RD ρ H x x') (r':RD ρ H y y'):eqV x' y' = zjd x y:=by
 cases r <;> cases r' <;> rfl
theorem zpy {ρ:List Addr}{H:Hp}:∀{xs:List D}{vs:List V},RDs ρ H xs vs->vs.all zdw=xs.all zjc
 | _,_,.nil=>rfl
 | _,_,.cons r q=>by rw [List.all_cons,List.all_cons,zpx r,zpy q]
theorem zpz {ρ:List Addr}{H:Hp}{x:D}{x':V}(rx:RD ρ H x x'):∀{xs:List D}{vs:List V},RDs ρ H xs vs->inV x' vs=xs.any fun y=>zjd y x
 | _,_,.nil=>rfl
 | _,_,.cons r q=>by
  have ih:=zpz rx q
  unfold inV at ih ⊢
  rw [List.any_cons,List.any_cons,zzh r rx,ih]
theorem zp0 {K:PySem.W.Frag}{neg:Bool}:Op3 K (zpw neg) (rIn K neg):=by
 intro ρ S H x y x' y' v S' Q sim rx ry h p
 obtain ⟨xs,h1,h⟩:=bnd h
 obtain ⟨hc,e⟩:=zbl h
 cases e
 have fin:∀a vs,y' = .ref a->(SqL K H a vs∨SqT K H a vs)->RDs ρ H xs vs->rIn K neg x' y' H Q:=fun a vs e1 e2 r=>by
  refine ⟨a,vs,e1,e2,by rw [zpx rx];exact hc.1,by rw [zpy r];exact hc.2,?_⟩
  rw [zpz rx r]
  exact p ρ H _ (Ext.refl ..) sim (.bl _)
 cases ry with
 | tup ha r=>cases h1;exact fin _ _ rfl (.inr (SqT.of ha)) r
 | ref hn =>
  obtain ⟨a,vs,ha,sq,r⟩:=sim.lstOf h1
  rw [ha] at hn;cases hn
  exact fin _ _ rfl (.inl sq) r
 | _=>cases h1
noncomputable def zlk:Sto->D->Option ((Int->Bool) × Nat)
 | S,.ref n=>match S[n]? with
  | some (.iset f k)=>some (f,k)
  | _=>none
 | _,_=>none
theorem Sim.isetOf {K:PySem.W.Frag}{ρ:List Addr}{S:Sto}{H:Hp}{x:D}{v:V}{f:Int->Bool}{k:Nat}(s:Sim K ρ S H) (r:RD ρ H x v) (h:zlk S x=some (f,k)):∃n a,x=.ref n/\v=.ref a/\ρ[n]? = some a/\S[n]? = some (.iset f k)/\H a=some (.set f k):=by
 unfold zlk at h
 split at h
 ·rename_i n
  split at h
  ·rename_i f' k' e
   cases h
   cases r with
   | @ref _ a hn=>exact ⟨n,a,rfl,rfl,hn,e,s.at' n a _ hn e⟩
  ·cases h
 ·cases h
noncomputable def zll (neg:Bool):D->D->Sto->Option (D × Sto)
 | .int i,y,S=>(zlk S y).bind fun p=>some (.bl (if neg then !p.1 i else p.1 i),S)
 | _,_,_=>none
noncomputable def zlm (neg:Bool):R2:=fun x y H Q=>∃i a f n,x=.int i/\y=.ref a/\H a=some (.set f n)/\Q (.bl (if neg then !f i else f i)) H
section
variable {X:Cx}
theorem op_inI:OpR X (compareOp .In) (zlm false):=by
 intro pins s σ H x y v u Q I rx ry h
 obtain ⟨i,a,f,n,rfl,rfl,hH,q⟩:=h
 obtain ⟨t,rfl⟩:=rx
 cases ry
 exact PySem.wpAny_inSet_of (knd:=intKind X.prog X.w) (k:=i) (PySem.intKind_is X.prog X.w i t) rfl (I.hok a _ hH) ⟨.bl _,H,I.tok _,rfl,q⟩
theorem op_notInI:OpR X (compareOp .NotIn) (zlm true):=by
 intro pins s σ H x y v u Q I rx ry h
 obtain ⟨i,a,f,n,rfl,rfl,hH,q⟩:=h
 obtain ⟨t,rfl⟩:=rx
 cases ry
 exact PySem.wpAny_notInSet_of (knd:=intKind X.prog X.w) (k:=i) (PySem.intKind_is X.prog X.w i t) rfl (I.hok a _ hH) ⟨.bl _,H,I.tok _,rfl,q⟩
theorem op3_inI {K:PySem.W.Frag}{neg:Bool}:Op3 K (zll neg) (zlm neg):=by
 intro ρ S H x y x' y' v S' Q sim rx ry h p
 unfold zll at h
 split at h
 ·obtain ⟨⟨f,k⟩,h1,h⟩:=bnd h
  cases h
  cases rx
  obtain ⟨n,a,rfl,rfl,_,_,hH⟩:=sim.isetOf ry h1
  exact ⟨_,a,f,k,rfl,rfl,hH,p ρ H _ (Ext.refl ..) sim (.bl _)⟩
 ·cases h
noncomputable def dIn (neg:Bool):D->D->Sto->Option (D × Sto):=fun x y S=>match zll neg x y S with|some v=>some v|none=>zpw neg x y S
variable {a b:Expr}{ma mb:EM}{pos:Pos}
theorem zp1 (ha:PE3 X a ma) (hb:PE3 X b mb) (hm:behindInMarks .In b=false:=by rfl):PT3 X (.Compare a [.In] [b] pos) (tE (eOp (dIn false) ma mb)):=zcr (op_inI.or zw8) (op3_inI.or zp0) ha hb hm
theorem zp2 (ha:PE3 X a ma) (hb:PE3 X b mb) (hm:behindInMarks .NotIn b=false:=by rfl):PT3 X (.Compare a [.NotIn] [b] pos) (tE (eOp (dIn true) ma mb)):=zcr (op_notInI.or zw9) (op3_inI.or zp0) ha hb hm
end
section
variable {X:Cx}
variable {o e:Expr}{mo m:EM}{apos cpos:Pos}
end
section
variable {prog:Program}{w:World}{A:Around}{E:Value->Shared->Prop}{s:Shared}
theorem zzi {env:Env}{q:Str}{Q:Bool->Shared->Prop}(h:s.heap.CodeRec env.code q) (hq:∀b,Q b s):wpAny (model prog w) A (inMainModule env) Q E s:=by
 obtain ⟨c,o,vs,t,e1,ho,hd,_⟩:=h
 unfold inMainModule
 rw [e1]
 show wpAny _ _ (fieldsOf (.ref c) >>= _) _ _ s
 refine wpAny_bind ?_
 show wpAny _ _ (load c >>= _) _ _ s
 refine wpAny_bind (wpAny_load ho ?_)
 rw [hd]
 refine wpAny_pure ?_
 split
 ·exact wpAny_bind (wpAny_askSetting (wpAny_pure (hq _)))
 ·exact wpAny_pure (hq _)
end
section
variable {X:Cx}
end
noncomputable def zej:Nat:=1000000
end L3
namespace L3
open PySem PySem.Spec PyProof.Rows L2
theorem RDs.eraseIdx {ρ:List Addr}{H:Hp}:∀{xs:List D}{vs:List V}(k:Nat),RDs ρ H xs vs->RDs ρ H (xs.eraseIdx k) (vs.eraseIdx k)
 | _,_,_,.nil=>.nil
 | _,_,0,.cons _ q=>q
 | _,_,k+1,.cons r q=>.cons r (RDs.eraseIdx k q)
section
variable {X:Cx}{o e:Expr}{mo m:EM}{apos cpos:Pos}
end
section
variable {X:Cx}{o e:Expr}{mo m:EM}{apos cpos:Pos}
end
section
variable {X:Cx}
variable {a a2:Expr}{mA:AM}{p p0 pos pos':Pos}
end
end L3
namespace L3
open PySem PySem.Spec PyProof.Rows L2
noncomputable def isT:D->Bool
 | .bl b=>b
 | _=>false
noncomputable def zhr:D->Bool
 | .bl _=>true
 | _=>false
noncomputable def vT:V->Bool
 | .bl b=>b
 | _=>false
noncomputable def zje:V->Bool
 | .bl _=>true
 | _=>false
noncomputable def ze1:FM
 | [.ref n],S=>(lstOf S n).bind fun xs=>if xs.all zhr=true then some (.bl (xs.any isT),S) else none
 | _,_=>none
theorem zzj {ρ:List Addr}{H:Hp}{x:D}{x':V}(r:RD ρ H x x'):vT x' = isT x/\zje x' = zhr x:=by
 cases r <;> exact ⟨rfl,rfl⟩
theorem zp3 {ρ:List Addr}{H:Hp}:∀{xs:List D}{vs:List V},RDs ρ H xs vs->vs.all vT=xs.all isT/\vs.any vT=xs.any isT/\vs.all zje=xs.all zhr
 | _,_,.nil=>⟨rfl,rfl,rfl⟩
 | _,_,.cons r q=>by
  obtain ⟨h1,h2⟩:=zzj r
  obtain ⟨h3,h4,h5⟩:=zp3 q
  simp only [List.all_cons,List.any_cons,h1,h2,h3,h4,h5,and_self]
section
variable {X:Cx}
theorem zzk {ys:List V}(tr:Nat->Bool) (h:∀(i:Nat) y,ys[i]? = some y->tr i=vT y):(List.range ys.length).all tr=ys.all vT/\(List.range ys.length).any tr=ys.any vT:=by
 have e:(List.range ys.length).map tr=ys.map vT:=by
  apply List.ext_getElem?
  intro i
  rw [List.getElem?_map,List.getElem?_map]
  by_cases hi:i<ys.length
  ·rw [List.getElem?_range hi,List.getElem?_eq_getElem hi]
   simp [h i _ (List.getElem?_eq_getElem hi)]
  ·rw [List.getElem?_eq_none_iff.mpr (by simpa using hi),List.getElem?_eq_none_iff.mpr (by simpa using hi)];rfl
 have a1:(List.range ys.length).all tr=((List.range ys.length).map tr).all id:=by rw [List.all_map];rfl
 have a2:ys.all vT=(ys.map vT).all id:=by rw [List.all_map];rfl
 have a3:(List.range ys.length).any tr=((List.range ys.length).map tr).any id:=by rw [List.any_map];rfl
 have a4:ys.any vT=(ys.map vT).any id:=by rw [List.any_map];rfl
 exact ⟨by rw [a1,a2,e],by rw [a3,a4,e]⟩
noncomputable def zp4 (K:PySem.W.Frag) (f:List V->Bool):List V->Hp->VK->Prop:=fun xs H Q=>∃p ys,xs=[.ref p]/\SqL K H p ys/\ys.all zje=true/\Q (.bl (f ys)) H
theorem zzl {pins:List (Addr × Obj)}{s:Shared}{σ:St}{H:Hp}{p:Addr}{ys:List V}{E:Value->Shared->Prop}{R:Bool->Bool->Shared->Prop}(hc:X.calm=true) (I:Inv X pins σ H s) (hq:SqL X.K H p ys) (hb:ys.all zje=true)
  (h:∀s',Inv X pins σ H s'->R (ys.all vT) (ys.any vT) s') :
  wpAny (model X.prog X.w) X.A.in1 (pyIter (.ref p)) (fun it s₂=>∃I fp wr n P St tr,it=.ref I/\Walks X.prog X.w X.A.in1 I fp wr n P St/\St 0 s₂.heap/\TruthOf X.prog X.w X.A.in1 P tr /\
   ∀h' tk,(∀b o,b ∉ wr->s₂.heap.get? b=some o->h'.get? b=some o)->R ((List.range n).all tr) ((List.range n).any tr) { s₂ with heap:=h',toks:=tk }) E s:=by
 obtain ⟨its,rv,pl,hz⟩:=I.list hq
 refine wpAny_pyIter_list pl.isList ?_
 have hne:p≠s.heap.objs.size:=by
  obtain ⟨o,ho,_⟩:=pl.isList
  exact Nat.ne_of_lt (Heap.lt_size ho)
 have I1:Inv X pins σ H { s with heap:=s.heap.push { cls:=.type "list_iterator",data:=.fields #[.ref p,rawInt 0] } }:=I.kept (t':=s.toks) fun b o e=>Heap.get?_push_of_some _ e
 have fp:=I.fpOk (Nat.le_refl s.heap.objs.size) I.fresh
 refine ⟨_,_,_,its.toArray.size,_,_,fun i=>match its[i]? with|some (.bool b)=>b|_=>false,rfl,Walks.list (A:=X.A.in1) (I.ok.hd hc) s.heap.objs.size p hne its.toArray,?_,?_,?_⟩
 ·obtain ⟨o,ho,hc',n,hd⟩:=pl.isList
  exact ⟨⟨_,Heap.get?_push_size _ rfl,rfl,rfl⟩,⟨o,Heap.get?_push_of_some _ ho,hc',n,hd⟩⟩
 ·intro i v s' Q E' hP hQ
  have e1:its[i]? = some v:=by simpa using hP
  have hl:=rv.length
  have hi:i<ys.length:=by rw [hl];exact (List.getElem?_eq_some_iff.mp e1).1
  obtain ⟨u,hu,ru⟩:=rv.get (List.getElem?_eq_getElem hi)
  rw [e1] at hu;cases hu
  have hb2:=List.all_eq_true.mp hb _ (List.getElem_mem hi)
  dsimp only at hQ
  rw [e1] at hQ
  revert ru hb2
  generalize ys[i]=y
  intro ru hb2
  cases y with
  | bl b=>cases ru;exact wpAny_truthy_bool hQ
  | _=>exact absurd (show false=true from hb2) Bool.false_ne_true
 ·intro h' tk k
  have hs:its.toArray.size=ys.length:=by rw [List.size_toArray,rv.length]
  obtain ⟨a1,a2⟩:=zzk (ys:=ys) (fun i=>match its[i]? with|some (.bool b)=>b|_=>false) (fun i y hy=>by
   obtain ⟨u,hu,ru⟩:=rv.get hy
   have hb2:=List.all_eq_true.mp hb _ (List.mem_of_getElem? hy)
   rw [hu]
   cases y with
   | bl b=>cases ru;rfl
   | _=>exact absurd (show false=true from hb2) Bool.false_ne_true)
  rw [hs,a1,a2]
  exact h _ (I1.turned (t':=tk) (fun b o hb' e=>k b o (by simpa using hb') e) fp.1 fp.2.1 fp.2.2.2.1 fp.2.2.2.2.1 fp.2.2.2.2.2)
theorem zzm (hc:X.calm=true):CallR X (.builtin "any") (zp4 X.K fun ys=>ys.any vT):=by
 intro pins s σ H xs us Q I r h
 obtain ⟨p,ys,rfl,hq,hb,q⟩:=h
 obtain ⟨u1,rfl,r1⟩:=r.one
 cases r1
 exact PySem.call_any_walk (zzl (R:=fun _ a s'=>EP X pins σ Q (.bool a) s') hc I hq hb fun s' I'=>⟨.bl _,H,I',rfl,q⟩)
theorem zzn {K:PySem.W.Frag}:Fn3 K ze1 (zp4 K fun ys=>ys.any vT):=by
 intro ρ S H xs vs v S' Q sim r h p
 unfold ze1 at h
 split at h
 ·obtain ⟨ys,h1,h⟩:=bnd h
  obtain ⟨hb,e⟩:=zbl h
  cases e
  obtain ⟨w,rfl,rw'⟩:=r.one
  obtain ⟨a,us,ha,sq,r2⟩:=sim.lstOf h1
  obtain ⟨t1,t2,t3⟩:=zp3 r2
  cases rw' with
  | ref hn =>
   rw [ha] at hn;cases hn
   exact ⟨_,us,rfl,sq,by rw [t3];exact hb,by dsimp only;rw [t2];exact p ρ H _ (Ext.refl ..) sim (.bl _)⟩
 ·cases h
theorem zzo:bootBuiltins "any" = some (.builtin "any"):=by decide +kernel
variable {a:Expr}{es:List Expr}{mA:AM}{p pos:Pos}
theorem zp5 (hc:X.calm=true) (hg:Gl X "any") (hm:X.mg "any" = none) (ha:PA3 X (a :: es) mA) (he:starEach (a :: es) X.env=(false,eval a X.env) :: starEach es X.env:=by rfl) (hpl:(backTo pos (starEach es X.env)).any (·.1)=false:=by rfl):PE3 X (.Call (.Name "any" p) (a :: es) [] pos) (zaf ze1 mA) :=
 zet (zzm hc) zzn hg hm zzo ha (by decide) (by decide) he hpl
end
noncomputable def zgg:D->Sto->Option (D × Sto)
 | .int i,S=>some (.int (-i),S)
 | _,_=>none
theorem zjf {X:Cx}{a:Expr}{ma:EM}{pos:Pos}(ha:PE3 X a ma):PE3 X (.UnaryOp .USub a pos) (eUn zgg ma):=PE.imp (zv7 zwc ha) fun σ H Q hx1_=>by
 obtain ⟨ρ,l,S,v,S',sim,ro,hm,p⟩:=hx1_
 obtain ⟨⟨x,S1⟩,h1,hm⟩:=bnd hm
 refine ⟨ρ,l,S,x,S1,sim,ro,h1,fun ρ1 H1 x' e1 s1 r1=>?_⟩
 cases r1 with
 | int i=>cases hm;exact ⟨i,rfl,p ρ1 H1 _ e1 s1 (.int _)⟩
 | _=>cases hm
end L3
namespace L3
open PySem PySem.Spec PyProof.Rows L2
section
variable {X:Cx}{pos:Pos}
end
noncomputable def zfl:D->D->Sto->Option (D × Sto)
 | .ref n,.ref m,S=>match S[n]?,S[m]? with
  | some (.lst xs),some (.lst [])=>some (.bl (!xs.isEmpty),S)
  | _,_=>none
 | _,_,_=>none
noncomputable def zp6:R2:=fun x y H Q=>∃a b xs,x=.ref a/\y=.ref b/\H a=some (.lst xs)/\H b=some (.lst [])/\Q (.bl (!xs.isEmpty)) H
section
variable {X:Cx}{a b:Expr}{ma mb:EM}{pos:Pos}{k:Nat}
theorem zzp (hr:Room k X.A):OpR X (compareOp .NotEq) zp6:=by
 intro pins s σ H x y v u Q I rx ry h
 obtain ⟨a,b,xs,rfl,rfl,ha,hb,q⟩:=h
 cases rx;cases ry
 obtain ⟨z,its,n,r,hl,e⟩:=I.lstM ha
 obtain ⟨z2,its2,n2,r2,hl2,e2⟩:=I.lstM hb
 cases r2
 have hu:X.A.units<cLine:=by have:=hr.un;omega
 have l1:s.heap.IsList a its.toArray:=⟨_,e,rfl,n,rfl⟩
 have l2:s.heap.IsList b ([]:List Value).toArray:=⟨_,e2,rfl,n2,rfl⟩
 cases xs with
 | nil =>
  cases r
  have:=SeqAt.RcNeAt.lists (A:=X.A) (e:=fun _=>true) l1 l2 rfl hu (fun j h1 _=>by simp at h1)
  exact this X.prog X.w X.xe _ ⟨.bl _,H,I,rfl,q⟩
 | cons y ys =>
  cases r with
  | cons r1 r2 =>
   exact SeqAt.RcNeAt.lists_lengths (A:=X.A) l1 l2 (by simp) hu X.prog X.w X.xe _ ⟨.bl _,H,I,rfl,q⟩
theorem zzq {K:PySem.W.Frag}:Op3 K zfl zp6:=by
 intro ρ S H x y x' y' v S' Q sim rx ry h p
 unfold zfl at h
 split at h
 ·split at h
  ·rename_i n m S xs e1 e2
   cases h
   obtain ⟨a,us,ha,hH,r2⟩:=sim.lst e1
   obtain ⟨b,ws,hb,hH2,r3⟩:=sim.lst e2
   cases r3
   cases rx with
   | ref hn =>
    rw [ha] at hn;cases hn
    cases ry with
    | ref hm =>
     rw [hb] at hm;cases hm
     refine ⟨a,b,us,rfl,rfl,hH,hH2,?_⟩
     have:us.isEmpty=xs.isEmpty:=by cases r2 <;> rfl
     rw [this]
     exact p ρ H _ (Ext.refl ..) sim (.bl _)
  ·cases h
 ·cases h
theorem zln (hr:Room k X.A) (ha:PE3 X a ma) (hb:PE3 X b mb):PT3 X (.Compare a [.NotEq] [b] pos) (tE (eOp zfl ma mb)):=zcr (zzp hr) zzq ha hb (zdf b)
end
section
variable {X:Cx}{pins:List (Addr × Obj)}{σ:St}{H:Hp}{s:Shared}{ρ:List Addr}{S:Sto}
end
section
variable {X:Cx}{a:Expr}{es:List Expr}{mA:AM}{pos p:Pos}
end
end L3
namespace L3
open PySem PySem.Spec PyProof.Rows L2
section
variable {prog:Program}{w:World}{A:Around}{E:Value->Shared->Prop}{s:Shared}
end
section
variable {P:Program}{w:World}{K:PySem.W.Frag}{elts:List Expr}{z:Nat}{tp:Pos}
end
end L3
namespace L3
open PySem PySem.Spec PyProof.Rows L2
open AutoSeq1 (wpAny_loadPart')
section
variable {prog:Program}{w:World}{A:Around}{E:Value->Shared->Prop}{s:Shared}
end
section
variable {X:Cx}{elts:List Expr}{z:Nat}{tp:Pos}
end
noncomputable def zzr (K:PySem.W.Frag) (ρ:List Addr) (H:Hp) (it:ItM) (J:It):Prop:=∀(i:Nat) ρ' S' H',Ext ρ H ρ' H'->Sim K ρ' S' H' ->
 (it i S' = some none->J.stop i H')/\∀x,it i S' = some (some x)->J.go i H'/\∀y H'',J.yld i H' y H''->Ext ρ' H' ρ' H''/\Sim K ρ' S' H''/\RD ρ' H'' x y
section
variable {K:PySem.W.Frag}
end
section
variable {X:Cx}{elts:List Expr}{z:Nat}{tp:Pos}{a:Expr}{mA:AM}{g:GM}{b:SM}{body:List Stmt}{p0 pos' pos:Pos}
end
end L3
namespace L3
open PySem PySem.Spec PyProof.Rows L2
theorem zzs {α:Type}{c:Prop} [Decidable c] {a:Option α}{v:α}(h:(if c then a else none)=some v):c/\a=some v:=by
 by_cases hc:c
 ·rw [if_pos hc] at h;exact ⟨hc,h⟩
 ·rw [if_neg hc] at h;cases h
section
variable {prog:Program}{w:World}{A:Around}{E:Value->Shared->Prop}{s:Shared}
end
section
variable {X:Cx}{gs:GsM}{es:List Expr}{k n:Nat}{pos:Pos}
end
section
variable {X:Cx}{a:Expr}{ma:EM}{lo hi:Option Expr}{ml mh:OM}{p2 pos:Pos}
end
noncomputable def zp7 (scope:Scope) (N':List Str) (ixs:List (Option Nat)):Bool :=
 decide (scope.kind=.function) && (scope.names.all fun y=>y.2 != .cell) && (scope.names.all fun y=>y.2 != .free) && (scope.names.all fun y=>y.2 != .local || scope.names.lookup y.1 == some .local) && (ixs.length == N'.length) && (ixs.all fun i=>i == none)
theorem zzt {X:Cx}{scope:Scope}{N':List Str}{ixs:List (Option Nat)}(h:zp7 scope N' ixs=true):CompSc X N' scope (za3 ixs):=by
 unfold zp7 at h
 simp only [Bool.and_eq_true,decide_eq_true_eq,List.all_eq_true,beq_iff_eq,Bool.or_eq_true,bne_iff_ne,ne_eq] at h
 obtain ⟨⟨⟨⟨⟨h1,h2⟩,h3⟩,h4⟩,h5⟩,h6⟩:=h
 refine ⟨h1,h2,fun y hy hl=>?_,fun y hy hl=>absurd hl (h3 y hy),fun y hy=>?_,fun σ=>by simp [za3,h5],fun σ i v x hv hx=>?_⟩
 ·rcases h4 y hy with z|z
  ·exact absurd hl z
  ·exact z
 ·exfalso
  have mem:∃k,(k=NameKind.cell∨k=NameKind.free)/\(y,k)∈(relabel scope X.env).names:=by
   rcases hy with z|z
   ·exact ⟨_,.inl rfl,PySem.mem_of_lookup z⟩
   ·exact ⟨_,.inr rfl,PySem.mem_of_lookup z⟩
  obtain ⟨k,hk,hm⟩:=mem
  unfold relabel at hm
  obtain ⟨⟨n,k'⟩,hm1,hm2⟩:=List.mem_map.mp hm
  dsimp only at hm2
  split at hm2
  ·rename_i hc
   rw [Bool.and_eq_true,Bool.and_eq_true] at hc
   exact h3 _ hm1 (eq_of_beq hc.1.1)
  ·cases hm2
   rcases hk with z|z
   ·exact h2 _ hm1 z
   ·exact h3 _ hm1 z
 ·exfalso
  unfold za3 at hv
  rw [List.getElem?_map] at hv
  cases e:ixs[i]? with
  | none=>rw [e] at hv;cases hv
  | some o =>
   rw [e,h6 o (List.mem_of_getElem? e)] at hv
   cases hv
end L3
namespace L3
open PySem PySem.Spec PyProof.Rows L2
section
variable {X:Cx}{a b:Expr}{ma mb:EM}{mA:AM}{es:List Expr}{pos p:Pos}
end
noncomputable def zlo:D->D->Sto->Option (D × Sto)
 | .str z,.int i,S=>if z.length<=sizeLine then (atI z.cps.toList i).bind fun c=>some (.str ⟨#[c]⟩,S) else none
 | _,_,_=>none
noncomputable def zaj:D->D->Sto->Option (D × Sto):=fun x y S=>match dIx x y S with|some v=>some v|none=>zlo x y S
theorem zzu {K:PySem.W.Frag}:Op3 K zlo zkn:=by
 intro ρ S H x y x' y' v S' Q sim rx ry h p
 unfold zlo at h
 split at h
 ·cases rx;cases ry
  split at h
  ·rename_i hz
   obtain ⟨c,h1,h⟩:=bnd h
   cases h
   exact ⟨_,_,c,rfl,rfl,hz,h1,p ρ H _ (Ext.refl ..) sim (.str _)⟩
  ·cases h
 ·cases h
theorem zzv {K:PySem.W.Frag}:Op3 K zaj (rIx K):=by
 intro ρ S H x y x' y' v S' Q sim rx ry hm p
 unfold zaj at hm
 cases e:dIx x y S with
 | some w=>rw [e] at hm;cases hm;exact zx5 ρ S H x y x' y' _ _ Q sim rx ry e p
 | none=>rw [e] at hm;exact .inr (.inr (zzu ρ S H x y x' y' _ _ Q sim rx ry hm p))
noncomputable def zcm:FM
 | [.str z],S=>if z.length<=sizeLine then some (.int z.length,S) else none
 | xs,S=>zhi xs S
section
variable {X:Cx}{a b:Expr}{ma mb:EM}{mA:AM}{es:List Expr}{pos p:Pos}{K:PySem.W.Frag}
theorem zao (ha:PE3 X a ma) (hb:PE3 X b mb) (hs:zok b:=by intro _ _;rfl):PE3 X (.Subscript a b pos) (eOp zaj ma mb):=PE.imp (zw2 zw4 ha hb hs) (zis zzv)
theorem zzw:Fn3 K zcm (fun xs H Q=>(∃p ys,xs=[.ref p]/\(SqL K H p ys∨SqT K H p ys)/\Q (.int ys.length) H)∨∃z,xs=[.str z]/\z.length<=sizeLine/\Q (.int z.length) H):=by
 intro ρ S H xs vs v S' Q sim r h p
 unfold zcm at h
 split at h
 ·obtain ⟨hz,e⟩:=zbl h
  cases e
  obtain ⟨w,rfl,rw'⟩:=r.one
  cases rw'
  exact .inr ⟨_,rfl,hz,p ρ H _ (Ext.refl ..) sim (.int _)⟩
 ·exact .inl (zx8 ρ S H _ vs v S' Q sim r h p)
theorem zds (hg:Gl X "len") (hm:X.mg "len" = none) (ha:PA3 X (a :: es) mA) (he:starEach (a :: es) X.env=(false,eval a X.env) :: starEach es X.env:=by rfl) (hpl:(backTo pos (starEach es X.env)).any (·.1)=false:=by rfl):PE3 X (.Call (.Name "len" p) (a :: es) [] pos) (zaf zcm mA) :=
 zet (call_len_seq.or zxa) zzw hg hm PySem.boot_len ha (by decide) (by decide) he hpl
end
end L3
namespace L3
open PySem PySem.Spec PyProof.Rows L2
noncomputable def zgh:D->Option Key
 | .int i=>some (.inl i)
 | .str x=>some (.inr x)
 | _=>none
noncomputable def zek (kvs:List (Key × D)) (k:Key):Option D:=(kvs.find? fun kv=>decide (kv.1=k)).map (·.2)
noncomputable def zjg (kvs:List (Key × D)) (k:Key) (v:D):List (Key × D):=if (kvs.any fun kv=>decide (kv.1=k))=true then kvs.map (fun kv=>if kv.1=k then (kv.1,v) else kv) else kvs++[(k,v)]
section
variable {K:PySem.W.Frag}{ρ:List Addr}{H:Hp}{S:Sto}
theorem zlp {k:Key}:∀{kvs:List (Key × D)}{vs:List V},RDs ρ H (kvs.map (·.2)) vs->(zek kvs k=none->zbv ((kvs.map (·.1)).zip vs) k=none)/\∀d,zek kvs k=some d->∃v,zbv ((kvs.map (·.1)).zip vs) k=some v/\RD ρ H d v
 | [],vs,r=>by
  cases r
  exact ⟨fun _=>rfl,fun d h=>by cases h⟩
 | (k',d') :: kvs,vs,r=>by
  cases r with
  | @cons _ v _ vs r1 r2 =>
   by_cases e:k' = k
   ·have e1:zek ((k',d') :: kvs) k=some d':=by simp [zek,e]
    have e2:zbv ((((k',d') :: kvs).map (·.1)).zip (v :: vs)) k=some v:=zg9 (p:=(k',v)) e
    rw [e1,e2]
    exact ⟨fun z=>(by cases z),fun d h=>(by cases h;exact ⟨v,rfl,r1⟩)⟩
   ·have e1:zek ((k',d') :: kvs) k=zek kvs k:=by simp [zek,e]
    have e2:zbv ((((k',d') :: kvs).map (·.1)).zip (v :: vs)) k=zbv ((kvs.map (·.1)).zip vs) k:=zha (p:=(k',v)) e
    rw [e1,e2]
    exact zlp r2
theorem zp8 (k:Key):∀{kvs:List (Key × D)}{vs:List V},RDs ρ H (kvs.map (·.2)) vs->(((kvs.map (·.1)).zip vs).any fun kv=>decide (kv.1=k))=kvs.any fun kv=>decide (kv.1=k)
 | [],vs,r=>by cases r;rfl
 | (k',d') :: kvs,vs,r=>by
  cases r with
  | @cons _ v _ vs r1 r2 =>
   show (decide (k' = k) || (((kvs.map (·.1)).zip vs).any fun kv=>decide (kv.1=k)))=(decide (k' = k) || _)
   rw [zp8 k r2]
theorem zzx {k:Key}{d:D}{v:V}(rv:RD ρ H d v) {kvs:List (Key × D)}{vs:List V}(r:RDs ρ H (kvs.map (·.2)) vs):∃ws,zbs ((kvs.map (·.1)).zip vs) k v=((zjg kvs k d).map (·.1)).zip ws/\RDs ρ H ((zjg kvs k d).map (·.2)) ws:=by
 unfold zbs zjg
 rw [zp8 k r]
 by_cases e:(kvs.any fun kv=>decide (kv.1=k))=true
 ·rw [if_pos e,if_pos e]
  clear e
  induction kvs generalizing vs with
  | nil=>cases r;exact ⟨[],rfl,.nil⟩
  | cons p kvs ih =>
   obtain ⟨k',d'⟩:=p
   cases r with
   | @cons _ u _ us r1 r2 =>
    obtain ⟨ws,h1,h2⟩:=ih r2
    by_cases e:k' = k
    ·refine ⟨v :: ws,?_,?_⟩
     ·simp only [List.map_cons,List.zip_cons_cons,if_pos e];rw [←h1]
     ·simp only [List.map_cons,if_pos e];exact .cons rv h2
    ·refine ⟨u :: ws,?_,?_⟩
     ·simp only [List.map_cons,List.zip_cons_cons,if_neg e];rw [←h1]
     ·simp only [List.map_cons,if_neg e];exact .cons r1 h2
 ·rw [if_neg e,if_neg e]
  refine ⟨vs++[v],?_,?_⟩
  ·rw [List.map_append,List.zip_append (by rw [List.length_map];have:=r.length;rw [List.length_map] at this;exact this)];rfl
  ·rw [List.map_append];exact r.append (.cons rv .nil)
theorem zjh {d:D}{v:V}{k:Key}(h:zgh d=some k) (r:RD ρ H d v):v=kV k:=by
 cases r <;> first|(cases h;rfl)|cases h
theorem Sim.dct {n:Nat}{kvs:List (Key × D)}(s:Sim K ρ S H) (h:S[n]? = some (.dct kvs)):∃a vs,ρ[n]? = some a/\H a=some (.dK ((kvs.map (·.1)).zip vs))/\RDs ρ H (kvs.map (·.2)) vs:=by
 have hl:n<ρ.length:=by rw [s.len];exact (List.getElem?_eq_some_iff.mp h).1
 obtain ⟨vs,e,r⟩:=s.at' n _ _ (List.getElem?_eq_getElem hl) h
 exact ⟨_,vs,List.getElem?_eq_getElem hl,e,r⟩
end
section
variable {X:Cx}{a b e:Expr}{ma mb me:EM}{pos pos':Pos}{k:Nat}
theorem zel (hr:Room k X.A):X.A.units+1<cLine:=by have:=hr.un;omega
theorem zzy (hr:Room k X.A):OpR X (compareOp .In) (fun y x H Q=>∃a o,x=.ref a/\zep H a y o/\Q (.bl o.isSome) H):=by
 intro pins s σ H y x v u Q I ry rx h
 obtain ⟨a,o,rfl,g,q⟩:=h
 cases rx
 exact zxo (zel hr) I g ry fun s' I'=>⟨.bl _,H,I',rfl,q⟩
theorem zzz (hr:Room k X.A):OpR X (compareOp .NotIn) (fun y x H Q=>∃a o,x=.ref a/\zep H a y o/\Q (.bl (!o.isSome)) H):=by
 intro pins s σ H y x v u Q I ry rx h
 obtain ⟨a,o,rfl,g,q⟩:=h
 cases rx
 exact zxp (zel hr) I g ry fun s' I'=>⟨.bl _,H,I',rfl,q⟩
end
theorem zp9 (kvs:List (Key × V)):zdx (.dK kvs):=⟨fun _ z=>(by cases z),fun _ _ z=>(by cases z)⟩
section
variable {X:Cx}{o i value:Expr}{mo mi mv:EM}{pos pos':Pos}{k:Nat}
end
section
variable {X:Cx}{pos:Pos}
end
section
variable {X:Cx}
variable {o e:Expr}{mo m:EM}{apos cpos:Pos}
end
end L3
namespace L3
open PySem PySem.Spec PyProof.Rows L2
section
variable {P:Program}{w:World}{K:PySem.W.Frag}{elts:List Expr}{z:Nat}{tp:Pos}
end
section
variable {X:Cx}{elts:List Expr}{z:Nat}{tp:Pos}
end
inductive tiL (K:PySem.W.Frag) (im:IM) (σ:St) (H:Hp) (R:It->Hp->Prop):Prop
 | mk (ρ:_) (l:_) (S:_) (it:_) (k:_) (S':_) (_:Sim K ρ S H) (_:RO ρ H l σ) (_:im l S=some (it,k,S')) (_:∀ρ' H' J,Ext ρ H ρ' H'->Sim K ρ' S' H'->zzr K ρ' H' it J->R J H')
noncomputable def zqa (X:Cx) (tgt iter:Expr) (im:IM):Prop:=PI X tgt iter (tiL X.K im)
section
variable {X:Cx}{elts:List Expr}{z:Nat}{tp:Pos}{a:Expr}{mA:AM}{g:GM}{b:SM}{body:List Stmt}{p0 pos' pos:Pos}
end
end L3
namespace L3
open PySem PySem.Spec PyProof.Rows L2
section
variable {X:Cx}{a b:Expr}{ma mb:EM}{pos:Pos}{k:Nat}
end
end L3
namespace L3
open PySem PySem.Spec PyProof.Rows L2
section
variable {X:Cx}{a:Expr}{ma:EM}{lo hi:Option Expr}{ml mh:OM}{p2 pos:Pos}
end
noncomputable def zlq:D->D->Sto->Option (D × Sto)
 | .str i,.str j,S=>if i.length+j.length<=sizeLine then some (.str (i++j),S) else none
 | _,_,_=>none
noncomputable def zci:D->D->Sto->Option (D × Sto):=fun x y S=>match zlq x y S with|some v=>some v|none=>zk4 x y S
theorem op3_plusS {K:PySem.W.Frag}:Op3 K zlq (fun x y H Q=>∃i j,x=.str i/\y=.str j/\i.length+j.length<=sizeLine/\Q (.str (i++j)) H):=by
 intro ρ S H x y x' y' v S' Q sim rx ry h p
 unfold zlq at h
 split at h
 ·obtain ⟨hz,e⟩:=zbl h
  cases e;cases rx;cases ry
  exact ⟨_,_,rfl,rfl,hz,p ρ H _ (Ext.refl ..) sim (.str _)⟩
 ·cases h
theorem zdb {X:Cx}{a b:Expr}{ma mb:EM}{pos:Pos}(ha:PE3 X a ma) (hb:PE3 X b mb):PE3 X (.BinOp a .Add b pos) (eOp zci ma mb):=zhe (op_add_str.or (op_add.or ((op_catT.or zx6).or zxi))) (op3_plusS.or zyu) ha hb
section
variable {X:Cx}{a:Expr}{es:List Expr}{mA:AM}{pos p:Pos}{K:PySem.W.Frag}
end
section
variable {X:Cx}
variable {o e f:Expr}{mo m m':EM}{apos cpos:Pos}
end
end L3
namespace L3
open PySem PySem.Spec PyProof.Rows L2
noncomputable def zdt:List D->Option (List Int)
 | []=>some []
 | .int i :: r=>(zdt r).bind fun ns=>some (i :: ns)
 | _=>none
theorem zji {ρ:List Addr}{H:Hp}:∀{xs:List D}{ns:List Int}{vs:List V},zdt xs=some ns->RDs ρ H xs vs->vs=ns.map V.int
 | [],ts,vs,h,r=>by cases h;cases r;rfl
 | x :: xs,ts,vs,h,r=>by
  cases r with
  | cons r1 r2 =>
   cases r1 with
   | int z =>
    obtain ⟨ts',h1,h⟩:=bnd (show (zdt xs).bind (fun ts=>some (z :: ts))=some ts from h)
    cases h
    rw [zji h1 r2];rfl
   | _=>cases h
section
variable {X:Cx}
variable {a:Expr}{es:List Expr}{mA:AM}{p pos:Pos}
end
section
variable {prog:Program}{w:World}{A:Around}{E:Value->Shared->Prop}{s:Shared}
end
section
variable {P:Program}{w:World}{K:PySem.W.Frag}{tg:Expr}
end
section
variable {X:Cx}{tg:Expr}
end
section
variable {X:Cx}{tgt:Expr}{a:Expr}{mA:AM}{p0 pos':Pos}
end
end L3
namespace L3
open PySem PySem.Spec PyProof.Rows L2
section
variable {X:Cx}
theorem zqb:bootBuiltins "sorted" = some (.builtin "sorted"):=by decide +kernel
variable {a:Expr}{es:List Expr}{mA:AM}{pos p:Pos}
end
section
variable {X:Cx}{a b:Expr}{ma mb:EM}{pos:Pos}
end
end L3
namespace L3
open PySem PySem.Spec PyProof.Rows L2
section
variable {prog:Program}{w:World}{A:Around}{R:Result->Shared->Prop}{s:Shared}
theorem zz0 {elt vx target iter:Expr}{ifs:List Expr}{scope:Scope}{pos:Pos}{it:Value}{D:Addr}{env:Env}(I:Nat->Shared->Prop)
  (turn:∀n s,I n s->wpAny (model prog w) A (pyNext it) (fun r s₁=>match r with
   | none=>R (.ok .next) s₁
   | some v=>wpAny (model prog w) A (letOwnedTupleGo target it v) (fun _ s₁'=>wpAny (model prog w) A (assign target env v) (fun _ s₂ =>
     wpAny (model prog w) A (forIn ifs true fun c r=>if r=true then do let ok ←isTrue c env (eval c env);pure (ForInStep.yield ok) else pure (ForInStep.yield r)) (fun ok s₃ =>
      if ok=true then wpAny (model prog w) A (eval elt env) (fun kv s₄=>wpAny (model prog w) A (eval vx env) (fun vv s₅ =>
       wpAny (model prog w) A (dictSet D kv vv) (fun _ s₆=>∃m,m<n/\I m s₆) (fun _ _=>False) s₅) (fun _ _=>False) s₄) (fun _ _=>False) s₃
      else ∃m,m<n/\I m s₃) (fun _ _=>False) s₂) (fun _ _=>False) s₁') (fun _ _=>False) s₁) (fun _ _=>False) s)
  (n:Nat) (h:I n s) :
  codeAny (model prog w) A (.compLoop (.DictComp elt vx [⟨target,iter,ifs,0⟩] scope pos) 0 it (.ref D) env) R s:=by
 refine codeAny_loop rfl I (fun n s hI=>?_) n h
 show wpAny _ A ((compTurn (.DictComp elt vx [⟨target,iter,ifs,0⟩] scope pos) 0 it (.ref D) env).onRaise (fun x=>do noteFrame x env;theTreesLotGoes x)) _ _ s
 refine wpAny_noted ?_
 rw [compTurn_dict]
 refine wpAny_bind (wpAny_standAt (wpAny_bind (wpAny_mono (turn n s hI) (fun r s₁ h₁=>?_) fun _ _ h'=>h'.elim)))
 cases r with
 | none=>exact wpAny_pure h₁
 | some v =>
  refine wpAny_bind (wpAny_mono h₁ (fun _ s₁' h₁=>?_) fun _ _ h'=>h'.elim)
  refine wpAny_bind (wpAny_mono h₁ (fun _ s₂ h₂=>wpAny_bind (wpAny_mono h₂ (fun ok s₃ h₃=>?_) fun _ _ h'=>h'.elim)) fun _ _ h'=>h'.elim)
  cases ok with
  | false=>exact wpAny_pure ⟨rfl,h₃⟩
  | true =>
   exact wpAny_bind (wpAny_bind (wpAny_mono h₃ (fun kv s₄ h₄=>wpAny_bind (wpAny_holding (wpAny_mono h₄ (fun vv s₅ h₅=>wpAny_bind (wpAny_standAt (wpAny_holding (wpAny_mono h₅ (fun _ s₆ h₆=>wpAny_pure ⟨rfl,h₆⟩) fun _ _ h'=>h'.elim)))) fun _ _ h'=>h'.elim))) fun _ _ h'=>h'.elim))
end
end L3
namespace L3
open PySem PySem.Spec PyProof.Rows L2
noncomputable def zfm (k v:EM):EM:=fun l S=>(k l S).bind fun p=>(v l p.2).bind fun q=>some (.tup [p.1,q.1],q.2)
section
variable {K:PySem.W.Frag}{ρ:List Addr}{H:Hp}{S:Sto}
theorem Sim.besideG {a:Addr}{u0 u:HO}(s:Sim K ρ S H) (ha:H a=some u0) (hu:zdx u0) (hn:∀n:Nat,ρ[n]?≠some a):Sim K ρ S (upd H a u) :=
 ⟨s.len,s.nd,fun n b o h1 h2=>(s.at' n b o h1 h2).writtenG ha hu fun _ z=>hn n (by rw [h1,z])⟩
theorem Ext.besideG {a:Addr}{u0 u:HO}{ρ0:List Addr}{H0:Hp}(e:Ext ρ0 H0 ρ H) (h0:H0 a=none) (ha:H a=some u0) (hu:zdx u0):Ext ρ0 H0 ρ (upd H a u) :=
 ⟨⟨e.pre,fun b vs h=>by rw [zas (zcw (e.tup b vs h) ha (fun z=>hu.1 vs z.symm))];exact e.tup b vs h,fun b o vs h=>by rw [zas (zcw (e.frz b o vs h) ha (fun z=>hu.2 o vs z.symm))];exact e.frz b o vs h⟩,fun b vs h n=>⟨by rw [zas (zbp h h0)];exact (e.out b vs h n).1,(e.out b vs h n).2⟩⟩
theorem Sim.adoptG {a:Addr}{o1:Ob}(s:Sim K ρ S H) (ha:ObR K ρ H o1 a) (hn:∀n:Nat,ρ[n]?≠some a):Sim K (ρ++[a]) (S++[o1]) H:=by
 refine ⟨by simp [s.len],fun i j b x1 x2 h1 h2 h3 h4 m1 m2=>?_,fun n b o h1 h2=>?_⟩
 ·have hl:=s.len
  rcases za8 h1 with g1|⟨e1,f1⟩ <;> rcases za8 h2 with g2|⟨e2,f2⟩
  ·have l1:=(List.getElem?_eq_some_iff.mp g1).1
   have l2:=(List.getElem?_eq_some_iff.mp g2).1
   rcases za8 h3 with g3|⟨e3,_⟩ <;> rcases za8 h4 with g4|⟨e4,_⟩
   ·exact s.nd i j b x1 x2 g1 g2 g3 g4 m1 m2
   ·omega
   ·omega
   ·omega
  ·subst f2;exact absurd g1 (hn i)
  ·subst f1;exact absurd g2 (hn j)
  ·omega
 ·rcases za8 h1 with h1|⟨e1,f1⟩
  ·rcases za8 h2 with h2|⟨e2,f2⟩
   ·exact (s.at' n b o h1 h2).more ext0_push
   ·have:=(List.getElem?_eq_some_iff.mp h1).1;have:=s.len;omega
  ·subst f1
   rcases za8 h2 with h2|⟨e2,f2⟩
   ·have:=(List.getElem?_eq_some_iff.mp h2).1;have:=s.len;omega
   ·subst f2
    exact ha.more ext0_push
end
theorem zz1 {ρ:List Addr}{H:Hp}{kvs:List (Key × D)}{vs:List V}(r:RDs ρ H (kvs.map (·.2)) vs):((kvs.map (·.1)).zip vs).length=kvs.length:=by
 rw [List.length_zip,List.length_map];have:=r.length;rw [List.length_map] at this;omega
end L3
namespace L3
open PySem PySem.Spec PyProof.Rows L2
noncomputable def kD:Key->D
 | .inl i=>.int i
 | .inr x=>.str x
theorem zz2 {ρ:List Addr}{H:Hp}(k:Key):RD ρ H (kD k) (kV k):=by
 cases k with
 | inl i=>exact .int i
 | inr x=>exact .str x
section
variable {X:Cx}{tg:Expr}
end
section
variable {X:Cx}{tgt iter:Expr}{m:EM}
end
section
variable {X:Cx}{a b:Expr}{ma mb:EM}{pos:Pos}{k:Nat}
end
end L3
namespace L3
open PySem PySem.Spec PyProof.Rows L2
noncomputable def zlr (scope scO:Scope):Scope:={ scope with names:=scope.names.map fun (n,k)=>if (k == .free && scO.kind == .function && scO.names.lookup n == some .cell) then (n,.cell) else (n,k) }
theorem zz3 (scope:Scope) (env:Env):relabel scope env=zlr scope env.scope:=rfl
end L3
namespace L3
open PySem PySem.Spec PyProof.Rows L2 PySem.W
section
variable {M:Model}{A:Around}{E:Value->Shared->Prop}{s:Shared}{base:Heap}{env:Env}{outer:List Env}{L e C T:Addr}{Q:Unit->Shared->Prop}
end
end L3
namespace L3
open PySem PySem.Spec PyProof.Rows L2 PySem.W
theorem ObjOk.there {P:Program}{w:World}{H:Hp}{h:Heap}{a:Addr}{o:HO}(x:ObjOk P w H h a o):∃q,h.get? a=some q:=by
 cases o with
 | lst xs=>obtain ⟨_,_,_,_,e⟩:=x;exact ⟨_,e⟩
 | tup xs=>obtain ⟨_,_,_,ob,e,_⟩:=x;exact ⟨_,e⟩
 | dK kvs=>obtain ⟨_,_,_,_,o,_,_,e,_⟩:=x;exact ⟨_,e⟩
 | dT kvs=>obtain ⟨_,_,_,_,o,_,_,e,_⟩:=x;exact ⟨_,e⟩
 | set S n=>obtain ⟨o,_,_,_,e,_⟩:=x;exact ⟨_,e⟩
 | ins C dx fs=>obtain ⟨_,_,_,e,_⟩:=x;exact ⟨_,e⟩
 | own y=>obtain ⟨_,e⟩:=x;exact ⟨_,e⟩
 | xd fs=>obtain ⟨_,⟨_,_,_,e,_⟩,_⟩:=x;exact ⟨_,e⟩
 | rng lo hi=>obtain ⟨_,_,_,e⟩:=x;exact ⟨_,e⟩
 | frz ob u=>obtain ⟨e,_⟩:=x;exact ⟨_,e⟩
 | tbl ps=>exact ⟨_,x⟩
 | met f y=>exact ⟨_,x⟩
 | ext φ=>obtain ⟨_,e,_⟩:=x;exact e
section
variable {P:Program}{w:World}{K:PySem.W.Frag}{mg:Str->Option Value}{base:Heap}{N:List Str}{qual:Str}{scope:Scope}{f:Addr}{cd:Value}{A:Around}{outer:List Env}{s:Shared}{H:Hp}{E:XK}
end
end L3
namespace L3
open PySem PySem.Spec PyProof.Rows L2 PySem.W
noncomputable abbrev ZM:=Lo->Sto->Option (Str × Sto)
noncomputable abbrev ZF:=List D->Sto->Option (Str × Sto)
section
variable {X:Cx}{E:XK}{CA:Str->Addr}{e:Expr}{es:List Expr}{st:Stmt}{rest:List Stmt}{r q:ZM}{m:EM}{b:SM}{pos:Pos}
end
section
variable {X:Cx}{E:XK}{CA:Str->Addr}{a:Expr}{es:List Expr}{mA:AM}{pos p:Pos}{x:Str}{k j n:Nat}{rx:ZF}
end
section
variable {P:Program}{w:World}{K:PySem.W.Frag}{mg:Str->Option Value}{base:Heap}{N:List Str}{qual:Str}{scope:Scope}{f:Addr}{cd:Value}{A:Around}{outer:List Env}{s:Shared}{H:Hp}{E:XK}{CA:Str->Addr}
end
end L3
namespace L3
open PySem PySem.Spec PyProof.Rows L2 PySem.W
section
variable {M:Model}{A:Around}{E:Value->Shared->Prop}{s:Shared}{base:Heap}{env:Env}{outer l:List Env}{L e C T:Addr}{Q:Unit->Shared->Prop}
end
section
variable {X:Cx}{pins:List (Addr × Obj)}{σ:L2.St}{H:Hp}{s:Shared}{h':Heap}{a T:Addr}{t':Nat}
end
section
variable {M:Model}{A:Around}{E:Value->Shared->Prop}{h:Heap}{g:Array GenState}{d:Drawn}{t:Nat}{os:OsState}
variable {nm q nm' q':Str}{C N D N':Addr}{bs bm bs' bm':List Value}{hdct hdct':Bool}{sn sn':List Str}{sub sub':List Value}{ab ab':Bool}{col col':Option Bool}{dd dd':Option Addr}{k0 k1 k2 k3 k5 k0' k1' k2' k3' k5':Option Value}{newId newId':String}
end
end L3
namespace L3
open PySem PySem.Spec PyProof.Rows L2 PySem.W
section
variable {X:Cx}{pins:List (Addr × Obj)}{σ:L2.St}{H:Hp}{s:Shared}{a C T:Addr}{e:Value}
end
end L3
namespace L3
open PySem PySem.Spec PyProof.Rows L2 PySem.W
section
variable {X:Cx}{pins:List (Addr × Obj)}{σ:L2.St}{tS:TS}{i:Nat}{Dh:Addr}{n hx:Str}{np hpos:Pos}{b0:Stmt}{suite:List Stmt}
end
end L3
namespace L3
open PySem PySem.Spec PyProof.Rows L2 PySem.W
section
variable {X:Cx}{E:XK}{CA:Str->Addr}{a:Expr}{es:List Expr}{mA:AM}{cpos p apos py tpos:Pos}{x y:Str}{k j n:Nat}{rx:ZF}
variable {tN tS:TS}{i:Nat}{Dh:Addr}{nm hx:Str}{np hpos:Pos}{b0:Stmt}{suite:List Stmt}
end
section
variable {X:Cx}{E:XK}{CA:Str->Addr}{a:Expr}{es:List Expr}{mA:AM}{cpos p apos py tpos:Pos}{x y:Str}{k j n:Nat}{rx:ZF}{i:Nat}{Dh:Addr}{nm hx:Str}{np hpos:Pos}{b0:Stmt}{suite:List Stmt}{mN mS:SM}{ok:Str->Bool}
end
end L3
namespace L3
open PySem PySem.Spec PyProof.Rows L2 PySem.W PySem.Builtin PySem.Builtin.ObjectAttr PySem.Builtin.Getset_descriptor
section
variable {prog:Program}{w:World}{A:Around}{E:Value->Shared->Prop}{h:Heap}{g:Array GenState}{d:Drawn}{t:Nat}{os:OsState}{a:Addr}{o:Obj}{K:PySem.W.Frag}{C:Addr}
end
section
variable {prog:Program}{w:World}{A:Around}{E:Value->Shared->Prop}{h:Heap}{g:Array GenState}{d:Drawn}{t:Nat}{os:OsState}{a:Addr}{o:Obj}{K:PySem.W.Frag}{C:Addr}
end
end L3
namespace L3
open PySem PySem.Spec PyProof.Rows L2 PySem.W
section
variable {X:Cx}{es:List Expr}{Cs:List Addr}{y:Str}{C:Addr}{p:Pos}
end
section
variable {X:Cx}{a:Expr}{ma:EM}{pos p tp p2:Pos}{es:List Expr}{Cs:List Addr}{x1:Nat}{tab:List (Str × Bool)}{y:Str}{D0:Addr}
end
end L3
namespace L3
open PySem PySem.Spec PyProof.Rows L2
noncomputable def zqc (X:Cx) (T:String) (ty:V->Hp->Prop):Prop:=∀(pins:List (Addr × Obj)) (s:Shared) (σ:St) (H:Hp) (x:V) (v:Value),Inv X pins σ H s->RelV x v->ty x H ->
 s.TypeIs v T/\∀a,v=.ref a->∃ob,s.heap.get? a=some ob/\ob.dict=none
section
variable {X:Cx}{o e:Expr}{es:List Expr}{to:TE}{t:TA}{name:Str}{apos cpos:Pos}{T id:String}{r:V->List V->Hp->VK->Prop}{ty:V->Hp->Prop}
theorem zz4 (tok:zqc X T ty) (pa:PlainAttrs T) (slot:Slot T name id) (hty:typeOf (.builtin id)=pure (.type "method_descriptor")) (hm:MtM X id r) (ho:PE X o to) (ha:PA X (e :: es) t)
  (hbase:attributeBase o name X.env (eval o X.env)=eval o X.env:=by rfl)
  (hfew:((backTo cpos (starEach (e :: es) X.env)).all (fun x=>!x.1) && (backToKw cpos (keywordEach [] X.env)).all (fun x=>x.1.isSome)
   && decide ((e :: es).length+([]:List Keyword).length+(if ([]:List Keyword).isEmpty then 0 else 1)<30))=true:=by rfl)
  (hline:(apos.endLine == cpos.line)=true:=by rfl) (hs:starEach (e :: es) X.env=(false,eval e X.env) :: starEach es X.env:=by rfl) (hplain:(backTo cpos (starEach es X.env)).any (·.1)=false:=by rfl) :
  PE X (.Call (.Attribute o name apos) (e :: es) [] cpos) (fun σ H Q=>to σ H fun x H1=>ty x H1/\t σ H1 fun xs H2=>r x xs H2 Q):=by
 intro pins s σ H Q I h
 refine wpAny_Call_method_late hbase hfew hline rfl (thn (ho pins s σ H _ I h) fun v s1 ⟨x,H1,I1,r1,ty1,q1⟩=>?_)
 obtain ⟨h1,h2⟩:=tok pins s1 σ H1 x v I1 r1 ty1
 refine ⟨T,id,pa,slot,hty,h1,h2,?_⟩
 have hA:=ha cpos pins s1 σ H1 _ I1 q1
 rw [hs] at hA ⊢
 refine Calls.callWith_builtin (by show (false || (backTo cpos (starEach es X.env)).any (·.1))=false;rw [hplain] <;> rfl) (Calls.evalArgs_plain ?_)
 exact thn hA fun us s2 ⟨vs,H2,I2,r2,q2⟩=>hm pins s2 σ H2 x vs v us Q I2 r1 r2 q2
end
theorem zqd {P:Program}{w:World}:∀{ks:List Int}{us:List Value},Vals (ks.map V.int) us->ItemsAre (intKind P w) ks us
 | [],us,h=>by cases h;exact .nil
 | k :: ks,us,h=>by
  cases h with
  | cons r q=>obtain ⟨t,rfl⟩:=r;exact .cons (PySem.intKind_is P w k t) (zqd q)
theorem ze2 {P:Program}{w:World}{H:Hp}{h:Heap}{a:Addr}{ks:List Int}(ok:HOk P w H h) (e:H a=some (.tup (ks.map V.int))):TS.IsK P w h ks a:=by
 obtain ⟨_,its,r,o,h1,h2,n,h3⟩:=(show ObjOk P w H h a (.tup (ks.map V.int)) from ok a _ e)
 exact ⟨o,its.toArray,n,h1,h2,h3,by simpa using zqd r⟩
noncomputable def tyT (x:V) (H:Hp):Prop:=∃a xs,x=.ref a/\H a=some (.ext (TS.TSet a xs))
theorem zhs {X:Cx}{pins:List (Addr × Obj)}{σ:St}{H:Hp}{s:Shared}{a:Addr}{xs:List (List Int × Addr)}(I:Inv X pins σ H s) (h:H a=some (.ext (TS.TSet a xs))):TS.TSet a xs s.heap:=(I.hok a _ h).1
theorem zls {P:Program}{w:World}{H:Hp}{h:Heap}{a:Addr}{xs:List (List Int × Addr)}(hT:TS.TSet a xs h):ObjOk P w H h a (.ext (TS.TSet a xs)) :=
 ⟨hT,let ⟨o,ho,_⟩:=hT;⟨o,ho⟩,fun h1 h2 ⟨o,ho,r⟩ k=>⟨o,k o ho,r⟩⟩
theorem zz5 {X:Cx}:zqc X "set" tyT:=fun pins s σ H x v I r hx1_=>by
 obtain ⟨a,xs,e,hH⟩:=hx1_
 subst e
 cases r
 exact ⟨(zhs I hH).typeIs,(zhs I hH).noDict⟩
theorem zht (φ:Heap->Prop):zdx (.ext φ):=⟨fun _ z=>(by cases z),fun _ _ z=>(by cases z)⟩
noncomputable def zqe:V->List V->Hp->VK->Prop:=fun x vs H Q=>∃a b k xs,x=.ref a/\vs=[.ref b]/\H a=some (.ext (TS.TSet a xs))/\(∀p∈xs,H p.2=some (.tup (p.1.map V.int)))/\H b=some (.tup (k.map V.int))/\xs.length<1000 /\
 (k∈xs.map (·.1)->Q .non H)/\(k ∉ xs.map (·.1)->Q .non (upd H a (.ext (TS.TSet a (xs++[(k,b)])))))
section
variable {X:Cx}{j:Nat}
theorem zz6 (hr:Room j X.A):MtM X "set.add" zqe:=by
 intro pins s σ H x vs v us Q I rx rv h
 obtain ⟨a,b,k,xs,rfl,rfl,hH,hxs,hb,hz,q1,q2⟩:=h
 cases rx
 obtain ⟨u,rfl,ru⟩:=rv.one
 cases ru
 have hT:=zhs I hH
 have hu:X.A.in1.units<cLine:=zel hr
 refine wpAny_call_entry F.slot_set_add hT.typeIs F.entry_set_add ?_ (F.args_set_add_2 _ _)
 unfold Builtin.«set.add» Builtin.Frozenset.oneOther;simp only [List.isEmpty_nil,bind_assoc];unfold Builtin.Frozenset.addrOf setAdd
 refine wpAny_bind (wpAny_pure ?_);try dsimp only
 refine wpAny_bind (wpAny_pure ?_);try dsimp only
 refine wpAny_bind (wpAny_holding ?_)
 refine wpAny_bind ((tupleKind (intKind X.prog X.w)).pyHash (k:=k) hu (ze2 I.hok hb) ?_)
 refine TS.setAdd_t (s:={ s with toks:=s.toks+(k.length+1) }) hu hT (fun p hp=>ze2 I.hok (hxs p hp)) (ze2 I.hok hb) hz (fun hin=>?_) fun hni h' sb hT'=>?_
 ·exact wpAny_pure ⟨_,rfl,.non,H,I.tok _,rfl,q1 hin⟩
 ·obtain ⟨o,ho,hto⟩:=id hT'
  refine wpAny_pure ⟨_,rfl,.non,_,I.write (x:=a) (e:=a) (o:=.ext (TS.TSet a (xs++[(k,b)]))) (t':=s.toks+(k.length+1)) (by rw [hH];exact trivial) (.inl rfl) (fun b o hb e=>sb.extBut b o hb e) ⟨o,ho⟩ (zls hT'),rfl,q2 hni⟩
end
theorem zz7 {S:Sto}{n:Nat}{o:Ob}(e:S[n]? = some o):S.set n o=S:=by
 apply List.ext_getElem?
 intro i
 by_cases c:n=i
 ·subst c;rw [List.getElem?_set_self (List.getElem?_eq_some_iff.mp e).1,e]
 ·rw [List.getElem?_set_ne c]
noncomputable def zfn:D->List D->Sto->Option (D × Sto)
 | .ref n,[.tup ds],S=>match S[n]? with
  | some (.tset ks)=>(zdt ds).bind fun k=>if ks.length<1000 then some (.non,S.set n (.tset (if k∈ks then ks else ks++[k]))) else none
  | _=>none
 | _,_,_=>none
theorem zz8 {K:PySem.W.Frag}:Mt3 K zfn zqe:=by
 intro ρ S H x x' xs vs v S' Q sim rx r h p
 unfold zfn at h
 split at h
 ·split at h
  ·rename_i ks e
   obtain ⟨k,hk,h⟩:=bnd h
   obtain ⟨hz,e2⟩:=zbl h
   cases e2
   obtain ⟨w,rfl,rw'⟩:=r.one
   cases rx with
   | @ref n a hn =>
    cases rw' with
    | @tup _ b us hb rb =>
     obtain ⟨ys,hy,hH,hys⟩:=sim.at' _ a _ hn e
     have:=zji hk rb
     subst this
     subst hy
     refine ⟨a,b,k,ys,rfl,rfl,hH,hys,hb,by simpa using hz,fun hin=>?_,fun hni=>?_⟩
     ·rw [if_pos hin,zz7 e] at p
      exact p ρ H _ (Ext.refl ..) sim .non
     ·rw [if_neg hni] at p
      refine p ρ _ _ (zf4 hn hH (zht _)) (sim.setG hn e rfl hH (zht _) ?_) .non
      refine ⟨ys++[(k,b)],by simp,zb7,fun q hq=>?_⟩
      refine (zdg (ρ:=ρ) hH (zht _)).tup _ _ ?_
      rcases List.mem_append.mp hq with hq|hq
      ·exact hys q hq
      ·rw [List.mem_singleton] at hq;subst hq;exact hb
  ·cases h
 ·cases h
noncomputable def zgi (S:Sto):D->Option Unit
 | .ref n=>match S[n]? with
  | some (.tset _)=>some ()
  | _=>none
 | _=>none
noncomputable def zjj (f:D->List D->Sto->Option (D × Sto)) (o:EM) (as:AM):EM:=fun l S=>(o l S).bind fun p=>(zgi p.2 p.1).bind fun _=>(as l p.2).bind fun q=>f p.1 q.1 q.2
section
variable {X:Cx}{j:Nat}{o e:Expr}{mo m:EM}{apos cpos:Pos}
theorem zz9 (hr:Room j X.A) (ho:PE3 X o mo) (he:PE3 X e m)
  (hbase:attributeBase o "add" X.env (eval o X.env)=eval o X.env:=by rfl)
  (hfew:((backTo cpos (starEach [e] X.env)).all (fun x=>!x.1) && (backToKw cpos (keywordEach [] X.env)).all (fun x=>x.1.isSome)
   && decide ([e].length+([]:List Keyword).length+(if ([]:List Keyword).isEmpty then 0 else 1)<30))=true:=by rfl)
  (hline:(apos.endLine == cpos.line)=true:=by rfl) (hs:starEach [e] X.env=(false,eval e X.env) :: starEach [] X.env:=by rfl) :
  PE3 X (.Call (.Attribute o "add" apos) [e] [] cpos) (zjj zfn mo (zac m zae)) :=
 PE.imp (zz4 zz5 PySem.F.plainAttrs_set PySem.F.slot_set_add PySem.F.type_set_add (zz6 hr) ho (zad he zah hs) hbase hfew hline hs rfl) fun σ H Q hx2_=>by
  obtain ⟨ρ,l,S,v,S',sim,ro,hq,p⟩:=hx2_
  obtain ⟨⟨x,S1⟩,h1,hq⟩:=bnd hq
  obtain ⟨_,h2,hq⟩:=bnd hq
  obtain ⟨⟨ys,S2⟩,h4,hq⟩:=bnd hq
  refine ⟨ρ,l,S,x,S1,sim,ro,h1,fun ρ1 H1 x' e1 s1 r1=>⟨?_,ρ1,l,S1,ys,S2,s1,ro.mono e1,h4,fun ρ2 H2 vs e2 s2 r2=>zz8 ρ2 S2 H2 x x' ys vs v S' Q s2 (r1.mono e2) r2 hq (p.ext (e1.trans e2))⟩⟩
  unfold zgi at h2
  dsimp only at h2
  split at h2
  ·split at h2
   ·rename_i ks e
    cases r1 with
    | @ref n a hn =>
     obtain ⟨ys,_,hH,_⟩:=s1.at' _ a _ hn e
     exact ⟨a,ys,rfl,hH⟩
   ·cases h2
  ·cases h2
noncomputable def zqf (neg:Bool):R2:=fun x y H Q=>∃b k a xs,x=.ref b/\y=.ref a/\H b=some (.tup (k.map V.int))/\H a=some (.ext (TS.TSet a xs))/\(∀p∈xs,H p.2=some (.tup (p.1.map V.int)))/\Q (.bl (if neg then !decide (k∈xs.map (·.1)) else decide (k∈xs.map (·.1)))) H
theorem yaa {pins:List (Addr × Obj)}{s:Shared}{σ:St}{H:Hp}{a b:Addr}{k:List Int}{xs:List (List Int × Addr)}{E:Value->Shared->Prop}{Q:Bool->Shared->Prop}(hr:Room j X.A) (I:Inv X pins σ H s) (hb:H b=some (.tup (k.map V.int))) (hH:H a=some (.ext (TS.TSet a xs))) (hxs:∀p∈xs,H p.2=some (.tup (p.1.map V.int)))
  (q:∀t',Q (decide (k∈xs.map (·.1))) { s with toks:=t' }):wpAny (model X.prog X.w) X.A (contains (.ref a) (.ref b)) Q E s:=by
 have hT:=zhs I hH
 have hu:X.A.in1.units<cLine:=zel hr
 unfold contains
 try with_reducible refine wpAny_holding ?_
 refine wpAny_bind (wpAny_specialOf hT.typeIs F.slot_set_contains.lookup ?_)
 show wpAny _ _ (if (some (Value.builtin "set.__contains__") == some Value.none)=true then _ else _) _ E s
 rw [if_neg (by rw [beq_builtin_none];exact Bool.false_ne_true)]
 refine wpAny_bind (wpAny_callSpecialUnlessNone?_slot (name:=Str.ofString "__contains__") hT.typeIs F.slot_set_contains (wpAny_call_entry F.slot_set_contains hT.typeIs entry_set_contains ?_ (F.args_set_contains_2 _ _)))
 unfold Builtin.«frozenset.__contains__» Builtin.Frozenset.oneOther;simp only [List.isEmpty_nil,bind_assoc];unfold Builtin.Frozenset.addrOf Builtin.Frozenset.withSetAsKey setContains
 refine wpAny_bind (wpAny_pure ?_);try dsimp only
 refine wpAny_bind (wpAny_pure ?_);try dsimp only
 refine wpAny_bind (wpAny_tryCatch (wpAny_holding ?_))
 refine wpAny_bind ((tupleKind (intKind X.prog X.w)).pyHash (k:=k) hu (ze2 I.hok hb) ?_)
 refine wpAny_bind (TS.setFind_t (s:={ s with toks:=s.toks+(k.length+1) }) hu hT (fun p hp=>ze2 I.hok (hxs p hp)) (ze2 I.hok hb) fun r hr'=>?_)
 refine wpAny_pure ?_
 show wpAny _ _ (ret (Value.bool r.isSome)) _ _ _
 rw [hr']
 exact wpAny_pure ⟨_,rfl,wpAny_truthy_bool (q _)⟩
theorem yab (hr:Room j X.A):OpR X (compareOp .NotIn) (zqf true):=by
 intro pins s σ H x y v u Q I rx ry h
 obtain ⟨b,k,a,xs,rfl,rfl,hb,hH,hxs,q⟩:=h
 cases rx;cases ry
 show wpAny _ _ (do return Value.bool (!(←contains (Value.ref a) (Value.ref b)))) _ _ s
 exact wpAny_bind (yaa hr I hb hH hxs fun t'=>wpAny_pure ⟨.bl _,H,I.tok _,rfl,q⟩)
noncomputable def zfo (neg:Bool):D->D->Sto->Option (D × Sto)
 | .tup ds,.ref n,S=>match S[n]? with
  | some (.tset ks)=>(zdt ds).bind fun k=>some (.bl (if neg then !decide (k∈ks) else decide (k∈ks)),S)
  | _=>none
 | _,_,_=>none
theorem yac {K:PySem.W.Frag}{neg:Bool}:Op3 K (zfo neg) (zqf neg):=by
 intro ρ S H x y x' y' v S' Q sim rx ry h p
 unfold zfo at h
 split at h
 ·split at h
  ·rename_i ks e
   obtain ⟨k,hk,h⟩:=bnd h
   cases h
   cases ry with
   | @ref n a hn =>
    cases rx with
    | @tup _ b us hb rb =>
     obtain ⟨ys,hy,hH,hys⟩:=sim.at' _ a _ hn e
     have:=zji hk rb
     subst this
     subst hy
     exact ⟨b,k,a,ys,rfl,rfl,hb,hH,hys,p ρ H _ (Ext.refl ..) sim (.bl _)⟩
  ·cases h
 ·cases h
variable {a b:Expr}{ma mb:EM}{pos:Pos}
theorem yad (hr:Room j X.A) (ha:PE3 X a ma) (hb:PE3 X b mb) (hm:behindInMarks .NotIn b=false:=by rfl):PT3 X (.Compare a [.NotIn] [b] pos) (tE (eOp (zfo true) ma mb)):=zcr (yab hr) yac ha hb hm
theorem yae (h:Heap) (led:Bool):TS.TSet h.objs.size [] (h.push { cls:=.type "set",dict:=none,data:=.set #[] 0 (.fresh 0 0 led) }) :=
 ⟨_,Heap.get?_push_size _ rfl,⟨rfl,rfl,rfl⟩,#[],0,_,rfl,⟨rfl,rfl,⟨3,rfl,by decide⟩,fun i j _ h2=>absurd h2 (Nat.not_lt_zero _),fun j hx3_=>by obtain ⟨i,hi⟩:=hx3_;simp [SetTable.fresh] at hi,by show 0*5<7*3;decide,by show 7<8192;decide,fun i h v hi=>by simp at hi⟩,⟨fun e he=>by simp at he,fun p hp=>by simp at hp,rfl⟩⟩
theorem yaf {q:Str}{t:TE}(hr:Room j X.A) (hcd:PySem.W.codeIn X.K X.env.code q=true) (he:PE X e t) (hroad:displayRoad 0 [e]=.oneByOne:=by rfl) (hstar:starEach [e] X.env=[(false,eval e X.env)]:=by rfl) :
  PE X (.Set [e] 0 pos) (fun σ H Q=>∀a,H a=none->t σ (upd H a (.ext (TS.TSet a []))) fun x H1=>∃b k,x=.ref b/\H1 b=some (.tup (k.map V.int))/\H1 a=some (.ext (TS.TSet a []))/\Q (.ref a) (upd H1 a (.ext (TS.TSet a [(k,b)])))):=by
 intro pins s σ H Q I h
 rw [arm_eval_Set]
 refine wpAny_bind (wpAny_standAt (wpAny_bind (zzi (PySem.W.codeRec_of I.kIn hcd) fun bb=>?_)))
 rw [hroad,hstar]
 have hu:X.A.units<cLine:=Nat.lt_of_succ_lt (zel hr)
 unfold setDisplay
 show wpAny _ _ (newSet (.type "set") >>= _) _ _ s
 unfold newSet setsByText
 refine wpAny_bind (wpAny_bind (wpAny_bind (wpAny_askSetting (wpAny_pure ?_))))
 dsimp only
 simp only [newObj]
 refine wpAny_bind (wpAny_alloc (wpAny_pure ?_))
 have hD:H s.heap.objs.size=none:=I.hok.fresh (Nat.le_refl _)
 dsimp only
 generalize (!(_:Bool))=led
 have hT0:=yae s.heap led
 have I1:Inv X pins σ (upd H s.heap.objs.size (.ext (TS.TSet s.heap.objs.size []))) { s with heap:=s.heap.push { cls:=.type "set",dict:=none,data:=.set #[] 0 (.fresh 0 0 led) } }:=I.laid (t':=s.toks) (fun b o e=>Heap.get?_push_of_some _ e) (Nat.le_refl _) (zls hT0)
 refine wpAny_bind (wpAny_holding ?_)
 show wpAny _ _ (evalAll [_] >>= _) _ _ _
 refine wpAny_bind ?_
 show wpAny _ _ ((do let v ←eval e X.env;standAt pos;pure v) >>= _) _ _ _
 refine wpAny_bind (wpAny_bind (thn (he pins _ σ _ _ I1 (h _ hD)) fun v s2 hq2=>?_))
 obtain ⟨x,H2,I2,r2,b,k,ex,hb,hH2,q2⟩:=hq2
 subst ex
 cases r2
 refine wpAny_bind (wpAny_standAt (wpAny_pure ?_))
 refine wpAny_bind (wpAny_holding (wpAny_pure (wpAny_pure ?_)))
 refine wpAny_bind (wpAny_holding ?_)
 simp only [List.forIn_cons,List.forIn_nil,bind_assoc,pure_bind]
 refine wpAny_bind ?_
 unfold setAdd
 refine wpAny_holding (wpAny_bind ((tupleKind (intKind X.prog X.w)).pyHash (k:=k) hu (ze2 I2.hok hb) ?_))
 have hT2:TS.TSet s.heap.objs.size [] s2.heap:=zhs I2 hH2
 refine TS.setAdd_t (s:={ s2 with toks:=s2.toks+(k.length+1) }) hu hT2 (fun p hp=>by simp at hp) (ze2 I2.hok hb) (by decide) (fun hin=>by simp at hin) fun hni h' sb hT'=>?_
 obtain ⟨o,ho,hto⟩:=id hT'
 have I3:Inv X pins σ (upd H2 s.heap.objs.size (.ext (TS.TSet s.heap.objs.size [(k,b)]))) { s2 with heap:=h',toks:=s2.toks+(k.length+1) }:=I2.write (x:=s.heap.objs.size) (e:=s.heap.objs.size) (o:=.ext (TS.TSet s.heap.objs.size [(k,b)])) (t':=s2.toks+(k.length+1)) (by rw [hH2];exact trivial) (.inl rfl) (fun b o hb e=>sb.extBut b o hb e) ⟨o,ho⟩ (zls hT')
 refine wpAny_pure (wpAny_pure ?_)
 exact wpAny_pure ⟨.ref s.heap.objs.size,_,I3,rfl,q2⟩
noncomputable def zhu (m:EM):EM:=fun l S=>(m l (S++[.tset []])).bind fun p=>match p.1 with
 | .tup ds=>(zdt ds).bind fun k=>match p.2[S.length]? with
  | some (.tset [])=>some (.ref S.length,p.2.set S.length (.tset [k]))
  | _=>none
 | _=>none
theorem yag {q:Str}{m:EM}(hr:Room j X.A) (hcd:PySem.W.codeIn X.K X.env.code q=true) (he:PE3 X e m) (hroad:displayRoad 0 [e]=.oneByOne:=by rfl) (hstar:starEach [e] X.env=[(false,eval e X.env)]:=by rfl) :
  PE3 X (.Set [e] 0 pos) (zhu m):=PE.imp (yaf hr hcd he hroad hstar) fun σ H Q hx4_=>by
 obtain ⟨ρ,l,S,v,S',sim,ro,hm,p⟩:=hx4_
 obtain ⟨⟨x,S1⟩,q1,hm⟩:=bnd hm
 intro a ha
 have sim1:Sim X.K (ρ++[a]) (S++[.tset []]) (upd H a (.ext (TS.TSet a []))):=sim.pushG ha ⟨[],rfl,zb7,fun p hp=>by simp at hp⟩
 have ex:=zo6 (ρ:=ρ) (u:=.ext (TS.TSet a [])) ha
 refine ⟨ρ++[a],l,S++[.tset []],x,S1,sim1,ro.mono ex,q1,fun ρ1 H1 x' e1 s1 r1=>?_⟩
 dsimp only at hm
 split at hm
 ·rename_i ds
  obtain ⟨k,hk,hm⟩:=bnd hm
  split at hm
  ·rename_i hS
   cases hm
   have hn:(ρ++[a])[S.length]? = some a:=by rw [←sim.len];exact zdy ρ a
   have hn1:=e1.pre _ _ hn
   cases r1 with
   | @tup _ b us hb rb =>
    have:=zji hk rb
    subst this
    obtain ⟨ys,hy,hH,hys⟩:=s1.at' _ a _ hn1 hS
    have hy0:ys=[]:=by cases ys with|nil=>rfl|cons y ys=>simp at hy
    subst hy0
    refine ⟨b,k,rfl,hb,hH,?_⟩
    have ex2:=zf4 (o:=.ext (TS.TSet a [(k,b)])) hn1 hH (zht _)
    refine p ρ1 _ _ (ex.trans (e1.trans ex2)) (s1.setG hn1 hS rfl hH (zht _) ⟨[(k,b)],rfl,zb7,fun q hq=>?_⟩) (.ref hn1)
    rw [List.mem_singleton] at hq;subst hq
    exact ex2.tup _ _ hb
  ·cases hm
 ·cases hm
end
end L3
namespace L3
open PySem PySem.Spec PyProof.Rows L2
noncomputable def zhv:List D->Option (List Key)
 | []=>some []
 | x :: r=>(zgh x).bind fun k=>(zhv r).bind fun ks=>some (k :: ks)
noncomputable def zcp:D->Option (List Key)
 | .tup xs=>zhv xs
 | _=>none
theorem zqg {ρ:List Addr}{H:Hp}:∀{xs:List D}{ks:List Key}{vs:List V},zhv xs=some ks->RDs ρ H xs vs->vs=ks.map kV
 | [],ks,vs,h,r=>by cases h;cases r;rfl
 | x :: xs,ks,vs,h,r=>by
  cases r with
  | cons r1 r2 =>
   obtain ⟨k,h1,h⟩:=bnd (show (zgh x).bind (fun k=>(zhv xs).bind fun ks=>some (k :: ks))=some ks from h)
   obtain ⟨ks',h2,h⟩:=bnd h
   cases h
   rw [zqg h2 r2,zjh h1 r1];rfl
theorem zhw {ρ:List Addr}{H:Hp}{d:D}{v:V}{k:List Key}(h:zcp d=some k) (r:RD ρ H d v):∃b,v=.ref b/\H b=some (.tup (k.map kV)):=by
 cases r with
 | @tup xs b vs hb rs =>
  have:=zqg (show zhv xs=some k from h) rs
  subst this
  exact ⟨b,rfl,hb⟩
 | _=>cases h
noncomputable def zaq (kvs:List (List Key × D)) (k:List Key):Option D:=(kvs.find? fun kv=>decide (kv.1=k)).map (·.2)
noncomputable def zb5 (kvs:List (List Key × D)) (k:List Key) (v:D):List (List Key × D):=if (kvs.any fun kv=>decide (kv.1=k))=true then kvs.map (fun kv=>if kv.1=k then (kv.1,v) else kv) else kvs++[(k,v)]
section
variable {K:PySem.W.Frag}{ρ:List Addr}{H:Hp}{S:Sto}
theorem zjk {k:List Key}:∀{kvs:List (List Key × D)}{vs:List V},RDs ρ H (kvs.map (·.2)) vs->(zaq kvs k=none->zbv ((kvs.map (·.1)).zip vs) k=none)/\∀d,zaq kvs k=some d->∃v,zbv ((kvs.map (·.1)).zip vs) k=some v/\RD ρ H d v
 | [],vs,r=>by
  cases r
  exact ⟨fun _=>rfl,fun d h=>by cases h⟩
 | (k',d') :: kvs,vs,r=>by
  cases r with
  | @cons _ v _ vs r1 r2 =>
   by_cases e:k' = k
   ·have e1:zaq ((k',d') :: kvs) k=some d':=by simp [zaq,e]
    have e2:zbv ((((k',d') :: kvs).map (·.1)).zip (v :: vs)) k=some v:=zg9 (p:=(k',v)) e
    rw [e1,e2]
    exact ⟨fun z=>(by cases z),fun d h=>(by cases h;exact ⟨v,rfl,r1⟩)⟩
   ·have e1:zaq ((k',d') :: kvs) k=zaq kvs k:=by simp [zaq,e]
    have e2:zbv ((((k',d') :: kvs).map (·.1)).zip (v :: vs)) k=zbv ((kvs.map (·.1)).zip vs) k:=zha (p:=(k',v)) e
    rw [e1,e2]
    exact zjk r2
theorem zqh (k:List Key):∀{kvs:List (List Key × D)}{vs:List V},RDs ρ H (kvs.map (·.2)) vs->(((kvs.map (·.1)).zip vs).any fun kv=>decide (kv.1=k))=kvs.any fun kv=>decide (kv.1=k)
 | [],vs,r=>by cases r;rfl
 | (k',d') :: kvs,vs,r=>by
  cases r with
  | @cons _ v _ vs r1 r2 =>
   show (decide (k' = k) || (((kvs.map (·.1)).zip vs).any fun kv=>decide (kv.1=k)))=(decide (k' = k) || _)
   rw [zqh k r2]
theorem zlt {k:List Key}{d:D}{v:V}(rv:RD ρ H d v) {kvs:List (List Key × D)}{vs:List V}(r:RDs ρ H (kvs.map (·.2)) vs):∃ws,zbs ((kvs.map (·.1)).zip vs) k v=((zb5 kvs k d).map (·.1)).zip ws/\RDs ρ H ((zb5 kvs k d).map (·.2)) ws:=by
 unfold zbs zb5
 rw [zqh k r]
 by_cases e:(kvs.any fun kv=>decide (kv.1=k))=true
 ·rw [if_pos e,if_pos e]
  clear e
  induction kvs generalizing vs with
  | nil=>cases r;exact ⟨[],rfl,.nil⟩
  | cons p kvs ih =>
   obtain ⟨k',d'⟩:=p
   cases r with
   | @cons _ u _ us r1 r2 =>
    obtain ⟨ws,h1,h2⟩:=ih r2
    by_cases e:k' = k
    ·refine ⟨v :: ws,?_,?_⟩
     ·simp only [List.map_cons,List.zip_cons_cons,if_pos e];rw [←h1]
     ·simp only [List.map_cons,if_pos e];exact .cons rv h2
    ·refine ⟨u :: ws,?_,?_⟩
     ·simp only [List.map_cons,List.zip_cons_cons,if_neg e];rw [←h1]
     ·simp only [List.map_cons,if_neg e];exact .cons r1 h2
 ·rw [if_neg e,if_neg e]
  refine ⟨vs++[v],?_,?_⟩
  ·rw [List.map_append,List.zip_append (by rw [List.length_map];have:=r.length;rw [List.length_map] at this;exact this)];rfl
  ·rw [List.map_append];exact r.append (.cons rv .nil)
end
noncomputable def dRd (S:Sto):D->D->Option (Option D)
 | .ref n,y=>match S[n]? with
  | some (.dct kvs)=>(zgh y).bind fun k=>some (zek kvs k)
  | some (.fdct kvs)=>(zgh y).bind fun k=>some (zek kvs k)
  | some (.tdct kvs)=>(zcp y).bind fun k=>some (zaq kvs k)
  | some (.ftdct kvs)=>(zcp y).bind fun k=>some (zaq kvs k)
  | _=>none
 | _,_=>none
noncomputable def isDc (S:Sto):D->Option Unit
 | .ref n=>match S[n]? with
  | some (.dct _)=>some ()
  | some (.fdct _)=>some ()
  | some (.tdct _)=>some ()
  | some (.ftdct _)=>some ()
  | _=>none
 | _=>none
noncomputable def Ro1 (ρ:List Addr) (H:Hp) (o:Option D) (o':Option V):Prop:=(o=none->o' = none)/\∀d,o=some d->∃v,o' = some v/\RD ρ H d v
theorem Ro1.isSome {ρ:List Addr}{H:Hp}{o:Option D}{o':Option V}(r:Ro1 ρ H o o'):o'.isSome=o.isSome:=by
 cases o with
 | none=>rw [r.1 rfl];rfl
 | some d=>obtain ⟨v,e,_⟩:=r.2 d rfl;rw [e];rfl
theorem Ro1.getD {ρ:List Addr}{H:Hp}{o:Option D}{o':Option V}(r:Ro1 ρ H o o') {z:D}{z':V}(rz:RD ρ H z z'):RD ρ H (o.getD z) (o'.getD z'):=by
 cases o with
 | none=>rw [r.1 rfl];exact rz
 | some d=>obtain ⟨v,e,q⟩:=r.2 d rfl;rw [e];exact q
theorem Sim.isDc {K:PySem.W.Frag}{ρ:List Addr}{H:Hp}{S:Sto}{x:D}{x':V}(s:Sim K ρ S H) (rx:RD ρ H x x') (h:L3.isDc S x=some ()):∃a,x' = .ref a/\IsD H a:=by
 unfold L3.isDc at h
 split at h
 ·cases rx with
  | @ref n a hn =>
   refine ⟨a,rfl,?_⟩
   split at h
   ·rename_i e;obtain ⟨vs,hH,_⟩:=s.at' _ a _ hn e;exact .inl ⟨_,.inl hH⟩
   ·rename_i e;obtain ⟨o,vs,hH,_⟩:=s.at' _ a _ hn e;exact .inl ⟨_,.inr ⟨o,hH⟩⟩
   ·rename_i e;obtain ⟨vs,hH,_⟩:=s.at' _ a _ hn e;exact .inr ⟨_,.inl hH⟩
   ·rename_i e;obtain ⟨o,vs,hH,_⟩:=s.at' _ a _ hn e;exact .inr ⟨_,.inr ⟨o,hH⟩⟩
   ·cases h
 ·cases h
theorem Sim.dRd {K:PySem.W.Frag}{ρ:List Addr}{H:Hp}{S:Sto}{x y:D}{x' y':V}{o:Option D}(s:Sim K ρ S H) (rx:RD ρ H x x') (ry:RD ρ H y y') (h:L3.dRd S x y=some o):∃a o',x' = .ref a/\zep H a y' o'/\Ro1 ρ H o o':=by
 unfold L3.dRd at h
 split at h
 ·cases rx with
  | @ref n a hn =>
   split at h
   ·rename_i e
    obtain ⟨k,hk,h⟩:=bnd h
    cases h
    obtain ⟨vs,hH,r⟩:=s.at' _ a _ hn e
    have ey:=zjh hk ry
    subst ey
    exact ⟨a,_,rfl,.inl ⟨_,k,.inl hH,rfl,rfl⟩,zlp r⟩
   ·rename_i e
    obtain ⟨k,hk,h⟩:=bnd h
    cases h
    obtain ⟨ob,vs,hH,r⟩:=s.at' _ a _ hn e
    have ey:=zjh hk ry
    subst ey
    exact ⟨a,_,rfl,.inl ⟨_,k,.inr ⟨ob,hH⟩,rfl,rfl⟩,zlp r⟩
   ·rename_i e
    obtain ⟨k,hk,h⟩:=bnd h
    cases h
    obtain ⟨vs,hH,r⟩:=s.at' _ a _ hn e
    obtain ⟨b,rfl,hb⟩:=zhw hk ry
    exact ⟨a,_,rfl,.inr ⟨_,k,b,.inl hH,rfl,hb,rfl⟩,zjk r⟩
   ·rename_i e
    obtain ⟨k,hk,h⟩:=bnd h
    cases h
    obtain ⟨ob,vs,hH,r⟩:=s.at' _ a _ hn e
    obtain ⟨b,rfl,hb⟩:=zhw hk ry
    exact ⟨a,_,rfl,.inr ⟨_,k,b,.inr ⟨ob,hH⟩,rfl,hb,rfl⟩,zjk r⟩
   ·cases h
 ·cases h
noncomputable def zct (neg:Bool):D->D->Sto->Option (D × Sto):=fun y x S=>(dRd S x y).bind fun o=>some (.bl (if neg then !o.isSome else o.isSome),S)
theorem zqi {K:PySem.W.Frag}{neg:Bool}:Op3 K (zct neg) (fun y x H Q=>∃a o,x=.ref a/\zep H a y o/\Q (.bl (if neg then !o.isSome else o.isSome)) H):=by
 intro ρ S H y x y' x' v S' Q sim ry rx h p
 obtain ⟨o,h1,h⟩:=bnd h
 cases h
 obtain ⟨a,o',rfl,g,r⟩:=sim.dRd rx ry h1
 refine ⟨a,o',rfl,g,?_⟩
 rw [r.isSome]
 exact p ρ H _ (Ext.refl ..) sim (.bl _)
section
variable {X:Cx}{a b e f o i value:Expr}{ma mb me mf mo mi mv:EM}{pos pos' apos cpos:Pos}{k:Nat}
theorem zqj (hr:Room k X.A) (ha:PE3 X a ma) (hb:PE3 X b mb) (hm:behindInMarks .In b=false:=by rfl):PT3 X (.Compare a [.In] [b] pos) (tE (eOp (zct false) ma mb)):=zcr (zzy hr) (zqi (neg:=false)) ha hb hm
theorem zlu (hr:Room k X.A) (ha:PE3 X a ma) (hb:PE3 X b mb) (hm:behindInMarks .NotIn b=false:=by rfl):PT3 X (.Compare a [.NotIn] [b] pos) (tE (eOp (zct true) ma mb)):=zcr (zzz hr) (zqi (neg:=true)) ha hb hm
noncomputable def zgj (o e f:EM):EM:=fun l S=>(o l S).bind fun p=>(isDc p.2 p.1).bind fun _=>(e l p.2).bind fun q=>(f l q.2).bind fun t=>(dRd t.2 p.1 q.1).bind fun r=>some (r.getD t.1,t.2)
theorem yah (hr:Room k X.A) (ho:PE3 X o mo) (he:PE3 X e me) (hf:PE3 X f mf) (m:M2 X o "get" apos e f cpos:=by exact ⟨rfl,rfl,rfl,rfl⟩):PE3 X (.Call (.Attribute o "get" apos) [e,f] [] cpos) (zgj mo me mf):=PE.imp (zxy (zel hr) ho he hf m) fun σ H Q hx2_=>by
 obtain ⟨ρ,l,S,v,S',sim,ro,hq,p⟩:=hx2_
 obtain ⟨⟨x,S1⟩,h1,hq⟩:=bnd hq
 obtain ⟨_,h2,hq⟩:=bnd hq
 obtain ⟨⟨y,S2⟩,h3,hq⟩:=bnd hq
 obtain ⟨⟨z,S3⟩,h5,hq⟩:=bnd hq
 obtain ⟨r,h4,hq⟩:=bnd hq
 cases hq
 refine ⟨ρ,l,S,x,S1,sim,ro,h1,fun ρ1 H1 x' e1 s1 r1=>?_⟩
 obtain ⟨a,rfl,da⟩:=s1.isDc r1 h2
 refine ⟨a,rfl,da,ρ1,l,S1,y,S2,s1,ro.mono e1,h3,fun ρ2 H2 y' e2 s2 r2=>⟨ρ2,l,S2,z,_,s2,(ro.mono e1).mono e2,h5,fun ρ3 H3 z' e3 s3 r3=>?_⟩⟩
 obtain ⟨a',o',ea,g,ro'⟩:=s3.dRd ((r1.mono e2).mono e3) (r2.mono e3) h4
 cases ea
 exact ⟨o',g,p ρ3 H3 _ (e1.trans (e2.trans e3)) s3 (ro'.getD r3)⟩
end
noncomputable def zjl:EM:=fun _ S=>some (.ref S.length,S++[.tdct []])
section
variable {X:Cx}{pos:Pos}
theorem zqk:PE3 X (.Dict [] [] pos) zjl:=PE.imp zxv fun σ H Q hx3_=>by
 obtain ⟨ρ,l,S,v,S',sim,ro,hm,p⟩:=hx3_
 cases hm
 intro a ha
 exact p (ρ++[a]) _ _ (zo6 ha) (sim.pushG ha ⟨[],zb7,.nil⟩) (.ref (by rw [←sim.len];exact zdy ρ a))
end
theorem zd6 (kvs:List (List Key × V)):zdx (.dT kvs):=⟨fun _ z=>(by cases z),fun _ _ z=>(by cases z)⟩
noncomputable def zfp:D->D->D->Sto->Option Sto
 | .ref n,y,v,S=>match S[n]? with
  | some (.dct kvs)=>(zgh y).bind fun k=>if kvs.length<sizeLine then some (S.set n (.dct (zjg kvs k v))) else none
  | some (.tdct kvs)=>(zcp y).bind fun k=>if kvs.length<sizeLine then some (S.set n (.tdct (zb5 kvs k v))) else none
  | _=>none
 | _,_,_,_=>none
theorem zjm {ρ:List Addr}{H:Hp}{kvs:List (List Key × D)}{vs:List V}(r:RDs ρ H (kvs.map (·.2)) vs):((kvs.map (·.1)).zip vs).length=kvs.length:=by
 rw [List.length_zip,List.length_map];have:=r.length;rw [List.length_map] at this;omega
theorem yai {K:PySem.W.Frag}{ρ:List Addr}{S S':Sto}{H:Hp}{x y d:D}{x' y' v':V}(s:Sim K ρ S H) (rx:RD ρ H x x') (ry:RD ρ H y y') (rd:RD ρ H d v') (h:zfp x y d S=some S'):∃a H',x' = .ref a/\DPut H a y' v' H'/\Ext ρ H ρ H'/\Sim K ρ S' H':=by
 unfold zfp at h
 split at h
 ·cases rx with
  | @ref n a hn =>
   split at h
   ·rename_i kvs e
    obtain ⟨k,hk,h⟩:=bnd h
    obtain ⟨hz,e2⟩:=zbl h
    cases e2
    obtain ⟨vs,hH,r⟩:=s.at' _ a _ hn e
    have ey:=zjh hk ry
    subst ey
    obtain ⟨ws,hw1,hw2⟩:=zzx (k:=k) rd r
    have ex:=zf4 (o:=.dK (zbs ((kvs.map (·.1)).zip vs) k v')) hn hH (zp9 _)
    refine ⟨a,_,rfl,DPut.k hH (by rw [zz1 r];exact hz),ex,s.setG hn e rfl hH (zp9 _) ⟨ws,by rw [zb7,hw1],hw2.mono ex⟩⟩
   ·rename_i kvs e
    obtain ⟨k,hk,h⟩:=bnd h
    obtain ⟨hz,e2⟩:=zbl h
    cases e2
    obtain ⟨vs,hH,r⟩:=s.at' _ a _ hn e
    obtain ⟨b,rfl,hb⟩:=zhw hk ry
    obtain ⟨ws,hw1,hw2⟩:=zlt (k:=k) rd r
    have ex:=zf4 (o:=.dT (zbs ((kvs.map (·.1)).zip vs) k v')) hn hH (zd6 _)
    refine ⟨a,_,rfl,DPut.t hH hb (by rw [zjm r];exact hz),ex,s.setG hn e rfl hH (zd6 _) ⟨ws,by rw [zb7,hw1],hw2.mono ex⟩⟩
   ·cases h
 ·cases h
noncomputable def zgk (o i:EM):GM:=fun v l S=>(o l S).bind fun p=>(i l p.2).bind fun q=>(zfp p.1 q.1 v q.2).bind fun S'=>some (l,S')
section
variable {X:Cx}{o i value:Expr}{mo mi mv:EM}{pos pos':Pos}{k:Nat}
theorem zql (hr:Room k X.A) (ho:PE3 X o mo) (hi:PE3 X i mi) (hv:PE3 X value mv) (hs:swapsWith value (some (.Subscript o i pos')) pos.line X.env=pure false:=by rfl) :
  PS3 X (.Assign [.Subscript o i pos'] value pos) (zam mv (zgk mo mi)):=PS.imp (zxt (zel hr) ho hi hv hs) fun E σ H hx4_=>by
 obtain ⟨ρ,l,S,f,l',S',sim,ro,hm,p⟩:=hx4_
 obtain ⟨⟨d,S1⟩,h1,hm⟩:=bnd hm
 obtain ⟨⟨l2,S2⟩,h2,hm⟩:=bnd hm
 obtain ⟨⟨x,S3⟩,h3,h2⟩:=bnd h2
 obtain ⟨⟨y,S4⟩,h4,h2⟩:=bnd h2
 obtain ⟨S5,h5,h2⟩:=bnd h2
 cases h2;cases hm
 refine ⟨ρ,l,S,d,S1,sim,ro,h1,fun ρ1 H1 v' e1 s1 r1=>⟨ρ1,l,S1,x,S3,s1,ro.mono e1,h3,fun ρ2 H2 x' e2 s2 r2=>⟨ρ2,l,S3,y,S4,s2,(ro.mono e1).mono e2,h4,fun ρ3 H3 y' e3 s3 r3=>?_⟩⟩⟩
 obtain ⟨a,H4,rfl,pu,ex,s4⟩:=yai s3 (r2.mono e3) r3 (r1.mono (e2.trans e3)) h5
 exact ⟨a,H4,rfl,pu,p ρ3 _ σ ((e1.trans (e2.trans e3)).trans ex) s4 ((((ro.mono e1).mono e2).mono e3).mono ex)⟩
end
end L3
namespace L3
open PySem PySem.Spec PyProof.Rows L2
noncomputable def Fnc (K:PySem.W.Frag) (mg:Str->Option Value) (x:Str):Prop:=∃f o,PySem.W.nsIn K mainGlobals x=some (some (.ref f))/\K.lookup f=some o/\mg x=some (.ref f)
noncomputable def zlv (x:Str):EM:=fun _ S=>some (.ref S.length,S++[.fnc x])
section
variable {K:PySem.W.Frag}{ρ:List Addr}{H:Hp}{S:Sto}
theorem yaj {a:Addr}(ha:H a=none):Ext ρ H (ρ++[a]) H :=
 ⟨ext0_push,fun b vs h n=>⟨h,fun i hi=>by
  rcases za8 hi with hi|⟨_,z⟩
  ·exact n i hi
  ·rw [z,ha] at h;cases h⟩⟩
theorem Sim.fnc {a:Addr}{x:Str}(s:Sim K ρ S H) (h1:PySem.W.nsIn K mainGlobals x=some (some (.ref a))) (h2:∃o,K.lookup a=some o):Sim K (ρ++[a]) (S++[.fnc x]) H:=by
 refine ⟨by simp [s.len],fun i j b x1 x2 g1 g2 g3 g4 m1 m2=>?_,fun n b o g1 g2=>?_⟩
 ·rcases za8 g3 with g3|⟨e3,f3⟩
  ·rcases za8 g4 with g4|⟨e4,f4⟩
   ·have l1:=(List.getElem?_eq_some_iff.mp g3).1
    have l2:=(List.getElem?_eq_some_iff.mp g4).1
    have l:=s.len
    rcases za8 g1 with g1|⟨q1,_⟩
    ·rcases za8 g2 with g2|⟨q2,_⟩
     ·exact s.nd i j b _ _ g1 g2 g3 g4 m1 m2
     ·omega
    ·omega
   ·subst f4;cases m2
  ·subst f3;cases m1
 ·rcases za8 g1 with g1|⟨e1,f1⟩
  ·rcases za8 g2 with g2|⟨e2,f2⟩
   ·exact (s.at' n b o g1 g2).more ext0_push
   ·have:=(List.getElem?_eq_some_iff.mp g1).1;have:=s.len;omega
  ·subst f1
   rcases za8 g2 with g2|⟨e2,f2⟩
   ·have:=(List.getElem?_eq_some_iff.mp g2).1;have:=s.len;omega
   ·subst f2
    exact ⟨h1,h2⟩
end
section
variable {X:Cx}{x y:Str}{pos p:Pos}{a:Expr}{es:List Expr}
theorem yak {f:Addr}{o:Obj}(hg:Gl X x) (hm:X.mg x=some (.ref f)) (hk:X.K.lookup f=some o) (hd:(x == ("__debug__":Str))=false:=by decide):PE X (.Name x pos) (fun _ H Q=>H f=none->Q (.ref f) H) :=
 fun _ _ _ H _ I h=>znv I hg hm ⟨.ref f,H,I,rfl,h (I.bs f o (I.ok.mod.kin f o hk)).2⟩ hd
theorem yal (F:Fnc X.K X.mg x) (hg:Gl X x) (hd:(x == ("__debug__":Str))=false:=by decide):PE3 X (.Name x pos) (zlv x):=by
 obtain ⟨f,o,h1,h2,h3⟩:=F
 refine PE.imp (yak hg h3 h2 hd) fun σ H Q ⟨ρ,l,S,v,S',sim,ro,hm,p⟩=>?_
 cases hm
 intro hf
 exact p (ρ++[f]) H _ (yaj hf) (sim.fnc h1 ⟨o,h2⟩) (.ref (by rw [←sim.len];exact zdy ρ f))
theorem yam {tv:TE}{t:TA}{j:Nat}(hr:Room j X.A) (hv:PE X (.Name y p) tv) (ha:PA X (a :: es) t) (he:starEach (a :: es) X.env=(false,eval a X.env) :: starEach es X.env:=by rfl) (hpl:(backTo pos (starEach es X.env)).any (·.1)=false:=by rfl) :
  PE X (.Call (.Name y p) (a :: es) [] pos) (fun σ H Q=>tv σ H fun x H1=>∃f fd ps sp k,x=.ref f/\FnOk X.prog X.w X.K X.mg X.base CX0 k f fd ps sp/\k<=j/\PySem.W.keepIn X.K (.ref f)=true/\Binds X.K fd ps []/\zob sp [] E0 t σ H1 Q):=by
 intro pins s σ H Q I h
 refine wpAny_Call_Name_kw (thn (hv pins s σ H _ I h) fun u s0 ⟨x,H0,I0,rx,f,fd,ps,sp,k,ex,F,hkj,hk,hb,q0⟩=>?_)
 subst ex
 cases rx
 refine PySem.W.callWith_K (h₀:=X.base) I.ok.mod.kin hk (thn (ha pos pins s0 σ H0 _ I0 q0) fun us s1 ⟨vs,H1,I1,r,q⟩=>⟨I1.kIn,?_⟩) he hpl
 exact zoc F (hr.mono hkj) hb .nil zox I1 r q
noncomputable def zgl (S:Sto):D->Option Str
 | .ref n=>match S[n]? with
  | some (.fnc x)=>some x
  | _=>none
 | _=>none
noncomputable def zjn (tab:List (Str × FM)) (e:EM) (as:AM):EM:=fun l S=>(e l S).bind fun p=>(zgl p.2 p.1).bind fun x=>(tab.lookup x).bind fun m=>(as l p.2).bind fun q=>m q.1 q.2
theorem yan {j n:Nat}{me:EM}{mA:AM}{tab:List (Str × FM)}(hr:Room j X.A) (hv:PE3 X (.Name y p) me) (ha:PA3 X (a :: es) mA) (hl:∀l S v S',mA l S=some (v,S')->v.length=n)
  (ht:∀x m,tab.lookup x=some m->Fnc X.K X.mg x/\∃k,k<=j/\Has X.prog X.w X.K X.mg X.base x k n m)
  (he:starEach (a :: es) X.env=(false,eval a X.env) :: starEach es X.env:=by rfl) (hpl:(backTo pos (starEach es X.env)).any (·.1)=false:=by rfl) :
  PE3 X (.Call (.Name y p) (a :: es) [] pos) (zjn tab me mA):=PE.imp (yam hr hv ha he hpl) fun σ H Q hx1_=>by
 obtain ⟨ρ,l,S,v,S',sim,ro,hq,p⟩:=hx1_
 obtain ⟨⟨x,S1⟩,h1,hq⟩:=bnd hq
 obtain ⟨nm,h2,hq⟩:=bnd hq
 obtain ⟨m,h3,hq⟩:=bnd hq
 obtain ⟨⟨xs,S2⟩,h4,hq2⟩:=bnd hq
 obtain ⟨⟨f,o,n1,n2,n3⟩,k,hk,f',fd,ps,F,hm,kp,hb⟩:=ht nm m h3
 have ef:f' = f:=by rw [n3] at hm;cases hm;rfl
 subst ef
 refine ⟨ρ,l,S,x,S1,sim,ro,h1,fun ρ1 H1 x' e1 s1 r1=>?_⟩
 unfold zgl at h2
 dsimp only at h2
 split at h2
 ·split at h2
  ·rename_i e
   cases h2
   cases r1 with
   | @ref _ a' hn =>
    obtain ⟨g1,_⟩:=s1.at' _ a' _ hn e
    rw [n1] at g1
    cases g1
    exact ⟨f',fd,ps,_,k,rfl,F,hk,kp,hb,ρ1,l,S1,xs,S2,s1,ro.mono e1,h4,fun ρ2 H2 vs e2 s2 r2=>⟨by rw [List.append_nil,←r2.length];exact hl _ _ _ _ h4,ρ2,xs,S2,v,S',s2,by rw [List.append_nil];exact r2,hq2,p.ext (e1.trans e2)⟩⟩
  ·cases h2
 ·cases h2
theorem yao {R:Str->FM->Prop}{x:Str}{m:FM}(h:R x m):∀y m',([(x,m)]:List (Str × FM)).lookup y=some m'->R y m':=fun y m' e=>by
 rw [List.lookup_cons] at e
 split at e
 ·rename_i c
  cases e
  rw [eq_of_beq c];exact h
 ·cases e
end
end L3
namespace L3
open PySem PySem.Spec PyProof.Rows L2
section
variable {k:Nat}{names:List (Str × NameKind)}{acc:List (Str × Addr)}
theorem zlw:∀{names:List (Str × NameKind)}{k:Nat}{acc:List (Str × Addr)}{x:Str}{c:Addr},(x,c)∈cellsFrom k names acc->(x,c)∈acc∨(k<=c/\(x,NameKind.cell)∈names)
 | [],_,_,_,_,h=>.inl h
 | (n,kd) :: r,k,acc,x,c,h=>by
  unfold cellsFrom at h
  split at h
  ·rename_i hk
   have hk:kd=.cell:=by simpa using hk
   subst hk
   rcases zlw h with h|⟨h1,h2⟩
   ·rcases List.mem_cons.mp h with e|h
    ·cases e;exact .inr ⟨Nat.le_refl _,List.mem_cons_self⟩
    ·exact .inl h
   ·exact .inr ⟨by omega,List.mem_cons_of_mem _ h2⟩
  ·rcases zlw h with h|⟨h1,h2⟩
   ·exact .inl h
   ·exact .inr ⟨h1,List.mem_cons_of_mem _ h2⟩
theorem zlx:∀{names:List (Str × NameKind)}{k:Nat}{acc:List (Str × Addr)},(∀x y c,(x,c)∈acc->(y,c)∈acc->x=y)->(∀x c,(x,c)∈acc->c<k)->∀x y c,(x,c)∈cellsFrom k names acc->(y,c)∈cellsFrom k names acc->x=y
 | [],_,_,hi,_,x,y,c,h1,h2=>hi x y c h1 h2
 | (n,kd) :: r,k,acc,hi,hl,x,y,c,h1,h2=>by
  unfold cellsFrom at h1 h2
  split at h1
  ·rename_i hk
   rw [if_pos hk] at h2
   refine zlx (fun x y c g1 g2=>?_) (fun x c g=>?_) x y c h1 h2
   ·rcases List.mem_cons.mp g1 with e1|g1 <;> rcases List.mem_cons.mp g2 with e2|g2
    ·cases e1;cases e2;rfl
    ·cases e1;exact absurd (hl _ _ g2) (Nat.lt_irrefl _)
    ·cases e2;exact absurd (hl _ _ g1) (Nat.lt_irrefl _)
    ·exact hi x y c g1 g2
   ·rcases List.mem_cons.mp g with e|g
    ·cases e;exact Nat.lt_succ_self _
    ·exact Nat.lt_succ_of_lt (hl _ _ g)
  ·rename_i hk
   rw [if_neg hk] at h2
   exact zlx hi hl x y c h1 h2
theorem zjo:∀{names:List (Str × NameKind)}{k:Nat}{acc:List (Str × Addr)}{x:Str},((x,NameKind.cell)∈names∨∃c,acc.lookup x=some c)->∃c,(cellsFrom k names acc).lookup x=some c
 | [],_,_,x,h=>by
  rcases h with h|h
  ·cases h
  ·exact h
 | (n,kd) :: r,k,acc,x,h=>by
  unfold cellsFrom
  split
  ·rename_i hk
   have hk:kd=.cell:=by simpa using hk
   subst hk
   refine zjo ?_
   by_cases hx:x=n
   ·exact .inr ⟨k,by rw [hx,List.lookup_cons];simp⟩
   ·rcases h with h|⟨c,h⟩
    ·rcases List.mem_cons.mp h with e|h
     ·cases e;exact absurd rfl hx
     ·exact .inl h
    ·refine .inr ⟨c,?_⟩
     rw [List.lookup_cons]
     have:(x == n)=false:=by simpa using hx
     rw [this];exact h
  ·rename_i hk
   refine zjo ?_
   rcases h with h|h
   ·rcases List.mem_cons.mp h with e|h
    ·cases e;simp at hk
    ·exact .inl h
   ·exact .inr h
theorem zly:∀{names:List (Str × NameKind)}{k:Nat}{acc:List (Str × Addr)}{x:Str},(x,NameKind.cell) ∉ names->(cellsFrom k names acc).lookup x=acc.lookup x
 | [],_,_,_,_=>rfl
 | (n,kd) :: r,k,acc,x,h=>by
  unfold cellsFrom
  split
  ·rename_i hk
   have hk:kd=.cell:=by simpa using hk
   subst hk
   rw [zly fun z=>h (List.mem_cons_of_mem _ z),List.lookup_cons]
   have:(x == n)=false:=by
    have:x≠n:=fun e=>h (by rw [e];exact List.mem_cons_self)
    simpa using this
   rw [this]
  ·exact zly fun z=>h (List.mem_cons_of_mem _ z)
theorem zlz:∀{names:List (Str × NameKind)}{k k0:Nat}{acc:List (Str × Addr)}{x:Str}{c:Addr},k0<=k->((x,NameKind.cell)∈names∨∃c',acc.lookup x=some c'/\k0<=c')->(cellsFrom k names acc).lookup x=some c->k0<=c
 | [],k,k0,acc,x,c,_,h,e=>by
  have e:acc.lookup x=some c:=e
  rcases h with h|⟨c',h,q⟩
  ·cases h
  ·rw [h] at e;cases e;exact q
 | (n,kd) :: r,k,k0,acc,x,c,hk0,h,e=>by
  unfold cellsFrom at e
  split at e
  ·rename_i hk
   have hk:kd=.cell:=by simpa using hk
   subst hk
   refine zlz (by omega) ?_ e
   by_cases hx:x=n
   ·exact .inr ⟨k,by rw [hx,List.lookup_cons];simp,hk0⟩
   ·rcases h with h|⟨c',h,q⟩
    ·rcases List.mem_cons.mp h with e|h
     ·cases e;exact absurd rfl hx
     ·exact .inl h
    ·refine .inr ⟨c',?_,q⟩
     rw [List.lookup_cons]
     have:(x == n)=false:=by simpa using hx
     rw [this];exact h
  ·rename_i hk
   refine zlz hk0 ?_ e
   rcases h with h|h
   ·rcases List.mem_cons.mp h with e|h
    ·cases e;simp at hk
    ·exact .inl h
   ·exact .inr h
theorem zfq (env:Env):∀(names:List (Str × NameKind)) (cs:List (Str × Addr)),(∀x c,(x,c)∈cs->env.cells.lookup x=some c)->∀x c,(x,c)∈zbn env names cs->env.cells.lookup x=some c
 | [],cs,h,x,c,q=>h x c q
 | (n,k) :: r,cs,h,x,c,q=>by
  unfold zbn at q
  split at q
  ·split at q
   ·rename_i c' e
    refine zfq env r _ (fun y d hy=>?_) x c q
    rcases List.mem_cons.mp hy with z|hy
    ·cases z;exact e
    ·exact h y d hy
   ·exact zfq env r cs h x c q
  ·exact zfq env r cs h x c q
theorem zl0:∀{names:List (Str × NameKind)}{h:Heap}{acc:List (Str × Addr)}{x:Str}{c:Addr},(x,c)∈cellsFrom h.objs.size names acc->(x,c)∈acc∨(pushCells h names).IsCell c none
 | [],_,_,_,_,q=>.inl q
 | (n,kd) :: r,h,acc,x,c,q=>by
  unfold cellsFrom at q
  unfold pushCells
  split at q
  ·rename_i hk
   rw [if_pos hk]
   have:=zl0 (names:=r) (h:=h.push { cls:=.type "cell",data:=.cell none }) (acc:=(n,h.objs.size) :: acc) (x:=x) (c:=c) (by rw [Heap.size_push];exact q)
   rcases this with z|z
   ·rcases List.mem_cons.mp z with e|z
    ·cases e
     exact .inr ⟨_,pushCells_keeps r _ _ _ (Heap.get?_push_size _ rfl),rfl⟩
    ·exact .inl z
   ·exact .inr z
  ·rename_i hk
   rw [if_neg hk]
   exact zl0 q
end
theorem yap {M:Model}{A:Around}{E:Value->Shared->Prop}{s:Shared}{scope:Scope}{globals:Addr}{cl:List (Str × Addr)}{qual:Str}{outer:Env}{Q:Env->Shared->Prop}
  (hQ:∀h',h'.Ns s.heap.objs.size (fun _=>none)->(∀b o,s.heap.get? b=some o->h'.get? b=some o)->(∀x c,(x,c)∈cellsFrom (s.heap.objs.size+1) scope.names cl->(x,c)∈cl∨h'.IsCell c none) ->
   Q (newEnv scope s.heap.objs.size globals (cellsFrom (s.heap.objs.size+1) scope.names cl) qual none .none (some outer) builtinsNs) { s with heap:=h' }) :
  wpAny M A (newFunctionEnv scope globals cl [] qual none .none (some outer)) Q E s:=by
 unfold newFunctionEnv
 refine wpAny_bind (wpAny_alloc ?_)
 refine wpAny_bind (wpAny_layCells _ (fun name kind cells=>by cases hkc:kind == NameKind.cell <;> simp [hkc]) _ _ _ _ ?_)
 dsimp only
 rw [List.forIn_nil]
 refine wpAny_bind (wpAny_pure (wpAny_pure ?_))
 have hz:(s.heap.push { cls:=.type "dict",data:=.dict #[] }).objs.size=s.heap.objs.size+1:=Heap.size_push ..
 have h1:=hQ (pushCells (s.heap.push { cls:=.type "dict",data:=.dict #[] }) scope.names) ((Heap.Ns.new s.heap (.type "dict")).keeps (pushCells_keeps _ _)) (fun b o e=>pushCells_keeps _ _ b o (Heap.get?_push_of_some _ e)) (fun x c q=>zl0 (by rw [hz];exact q))
 simp only [Option.isSome_some,if_true,hz]
 exact h1
noncomputable def cxD (X:Cx) (N':List Str) (scope:Scope) (C:Addr) (s:Shared) (H:Hp) (fp:List Addr) (pins:List (Addr × Obj)):Cx where
 prog:=X.prog
 w:=X.w
 K:=X.K
 mg:=X.mg
 base:=X.base
 A:=X.A
 N:=N'
 s₀:=s
 H₀:=H
 env:=compEnvC scope (cellsFrom (C+1) scope.names (zbn X.env scope.names [])) C X.env
 outer:=X.stack
 stack:=X.stack
 ex:=fp
 fn:=fun x=>scope.names.contains (x,NameKind.cell)
 calm:=X.calm
 pn:=X.pn++pins
 xe:=fun _ _=>False
structure CompSd (X:Cx) (N':List Str) (scope:Scope) (src:St->St):Prop where
 kind:scope.kind=.function
 names:∀y∈scope.names,y.2=.local->scope.names.lookup y.1=some .local
 free:∀y∈scope.names,y.2=.free->X.env.kindOf y.1=some .cell∨X.env.kindOf y.1=some .free
 rel:∀y,(relabel scope X.env).names.lookup y=some .cell∨(relabel scope X.env).names.lookup y=some .free->(y,NameKind.free)∈scope.names∨(y,NameKind.cell)∈scope.names
 one:∀y,scope.names.lookup y=some .free->(y,NameKind.cell) ∉ scope.names
 len:∀σ,(src σ).length=N'.length
 src:∀σ (i:Nat) v x,(src σ)[i]? = some (some v)->N'[i]? = some x->∃j:Nat,X.N[j]? = some x/\σ[j]? = some (some v)/\scope.names.lookup x=some .free
theorem yaq {X:Cx}{N':List Str}{elt iter tgt:Expr}{ifs:List Expr}{scope:Scope}{pos pos':Pos}{use:Option (Value->Sem Unit)}{R:Value->Shared->Prop}{pins:List (Addr × Obj)}{s:Shared}{σ:St}{H:Hp}{Q:VK}{wi:TI}{src:St->St}{g:TG}{tts:TT}{t:TE}(hcalm:X.calm=true) (sc:CompSd X N' scope src)
  (hi:PI X tgt iter wi) (hg:∀C s H fp pins,PG (cxD X N' scope C s H fp pins) tgt g) (ht:∀C s H fp pins,PTs (cxD X N' scope C s H fp pins) ifs tts) (he:∀C s H fp pins,PE (cxD X N' scope C s H fp pins) elt t)
  (hs:∀x,foldedSetIterable iter X.env x=pure x) (I:Inv X pins σ H s) (h:zf9 X.K wi src g tts t σ H Q)
  (fin:∀D H5 s6 C mC,Inv X pins σ H5 s6->zcb X pins H5 C->s6.heap.Ns C mC->Q (.ref D) H5->compPost (model X.prog X.w) X.A X.xe use R (.ref D) C (.ok .next) s6) :
  wpAny (model X.prog X.w) X.A (comprehension (.ListComp elt [⟨tgt,iter,ifs,0⟩] scope pos) scope X.env pos' (newList []) false (eval iter X.env) use) R X.xe s:=by
 have hasC:∀x∈scope.names,x.2=.free->∃c,X.env.cells.lookup x.1=some c:=fun x hx hf=>I.ok.has x.1 (sc.free x hx hf)
 refine wpAny_comprehension_free (use:=use) (env:=X.env) rfl hs (zi1 scope X.env hasC) sc.kind sc.names ?_
 show wpAny (model X.prog X.w) X.A (eval iter X.env) _ _ s
 refine wpAny_mono (hi pins s σ H _ I h) (fun v s1 h1=>wpAny_mono h1 (fun itv s2 h2=>?_) fun _ _ z=>z) fun _ _ z=>z
 obtain ⟨it,fp,tn,J,H2,rfl,I2,T,st2,f2,q⟩:=h2
 refine wpAny_newObj_type ?_ (by show 0<=sizeLine;exact Nat.zero_le _)
 have hD:H2 s2.heap.objs.size=none:=I2.hok.fresh (Nat.le_refl _)
 have I3:Inv X pins σ (upd H2 s2.heap.objs.size (.lst [])) { s2 with heap:=s2.heap.push { cls:=.type "list",data:=.seq ([]:List Value).toArray } }:=I2.lnew (t':=s2.toks) .nil (Nat.zero_le _)
 obtain ⟨W,⟨m0,w0⟩,turn⟩:=q s2.heap.objs.size hD (by
  cases e:X.K.lookup s2.heap.objs.size with
  | none=>rfl
  | some o=>exact absurd (Heap.lt_size (I2.kIn _ o e)) (Nat.lt_irrefl _))
 refine yap fun h' hns old0 hown0=>?_
 have fpIn:∀b∈fp,∃o,s2.heap.get? b=some o/\∀v,o.data≠.cell v:=T.obj 0 s2.heap st2
 have fpD:∀b∈fp,b≠s2.heap.objs.size:=fun b hb=>let ⟨o,e,_⟩:=fpIn b hb;Nat.ne_of_lt (Heap.lt_size e)
 have f3:∀b∈fp,zcb X pins (upd H2 s2.heap.objs.size (.lst [])) b:=fun b hb=>⟨by rw [zas (fpD b hb)];exact (f2 b hb).1,(f2 b hb).2⟩
 have st3:tn 0 (s2.heap.push { cls:=.type "list",data:=.seq ([]:List Value).toArray }):=T.keep _ _ _ st2 fun b hb o e=>Heap.get?_push_of_some _ e
 clear q hD h st2 f2 fpD
 generalize upd H2 s2.heap.objs.size (.lst [])=H3 at *
 generalize hDe:s2.heap.objs.size=D at *
 have fpIn3:∀b∈fp,∃o,(s2.heap.push { cls:=.type "list",data:=.seq ([]:List Value).toArray }).get? b=some o/\∀v,o.data≠.cell v:=T.obj 0 _ st3
 clear fpIn
 generalize s2.heap.push { cls:=.type "list",data:=.seq ([]:List Value).toArray }=h3 at *
 have old:∀b o,h3.get? b=some o->h'.get? b=some o:=old0
 have stkNo:∀b,b≠X.env.locals->b ∉ X.fs->b ∉ frs X.stack:=fun b h1 h2 hb=>by
  rcases List.mem_cons.mp (I3.stkSub b hb) with z|z
  ·exact h1 z
  ·exact h2 z
 have sub:=zfk X.env scope.names [] (fun x c z=>by simp at z)
 have clLt:∀x c,(x,c)∈zbn X.env scope.names []->c<h3.objs.size:=fun x c z=>by
  obtain ⟨v,o,ho,_⟩:=I3.cell x c (zfq X.env scope.names [] (fun x c z=>by simp at z) x c z)
  exact Heap.lt_size ho
 have clInj:∀x y c,(x,c)∈zbn X.env scope.names []->(y,c)∈zbn X.env scope.names []->x=y:=fun x y c z1 z2=>by
  have e1:=zfq X.env scope.names [] (fun x c z=>by simp at z) x c z1
  have e2:=zfq X.env scope.names [] (fun x c z=>by simp at z) y c z2
  exact I3.ok.inj x y c e1 e2
 have own:∀x c,(cellsFrom (h3.objs.size+1) scope.names (zbn X.env scope.names [])).lookup x=some c->X.env.cells.lookup x=some c∨(h3.objs.size+1<=c/\h'.IsCell c none):=fun x c z=>by
  have zm:=PySem.mem_of_lookup z
  rcases zlw zm with y|⟨y,_⟩
  ·exact .inl (zfq X.env scope.names [] (fun x c z=>by simp at z) x c y)
  ·rcases hown0 x c zm with q|q
   ·exact absurd (clLt x c q) (Nat.not_lt.mpr (Nat.le_of_succ_le y))
   ·exact .inr ⟨y,q⟩
 have cNe:∀b o,h3.get? b=some o->b≠h3.objs.size:=fun b o e=>Nat.ne_of_lt (Heap.lt_size e)
 have exf:∀b∈fp,∀x c,(cellsFrom (h3.objs.size+1) scope.names (zbn X.env scope.names [])).lookup x=some c->c≠b:=fun b hb x c z=>by
  rcases own x c z with y|⟨y,_⟩
  ·exact (f3 b hb).2.2.2.2.1 x c y
  ·obtain ⟨o,e,_⟩:=fpIn3 b hb
   exact fun z=>absurd (Nat.lt_of_lt_of_le (Heap.lt_size e) (Nat.le_of_succ_le y)) (by rw [z];exact Nat.lt_irrefl _)
 have frC:∀x c,(cellsFrom (h3.objs.size+1) scope.names (zbn X.env scope.names [])).lookup x=some c->H3 c=none:=fun x c z=>by
  rcases own x c z with y|⟨y,_⟩
  ·exact I3.freeC x c y
  ·exact I3.hok.fresh (Nat.le_of_succ_le y)
 have I4:Inv (cxD X N' scope h3.objs.size { s2 with heap:=h3 } H3 fp pins) [] (src σ) H3 { s2 with heap:=h',toks:=s2.toks }:=by
  refine ⟨⟨I3.ok.mod,sc.kind,I3.ok.glob,I3.ok.blt,Nat.le_refl _,fun x y c h1 h2=>zlx clInj (fun x c z=>Nat.lt_succ_of_lt (clLt x c z)) x y c (PySem.mem_of_lookup h1) (PySem.mem_of_lookup h2),fun x hx=>?_,fun x c z q=>Nat.le_of_succ_le (zlz (k0:=h3.objs.size+1) (Nat.le_refl _) (.inl (by have z:scope.names.contains (x,NameKind.cell)=true:=z;simpa using z)) q),I3.ok.hd,I3.ok.frames,.inl rfl,fun b hb=>⟨?_,fun x c z=>exf b hb x c z⟩,fun b o e=>I3.bs b o e,Nat.le_trans I3.ok.bsz I3.sz,fun b o e hb=>?_,fun b hb=>stkNo b (f3 b hb).2.1 (f3 b hb).2.2.1,I3.stack,I3.stkFree⟩,
   rfl,I3.bare,Un.kept old,⟨_,hns,fun i x v h1 h2 h3'=>?_⟩,fun x c z=>?_,I3.hok.fresh (Nat.le_refl _),fun x c z=>frC x c z,fun p hp=>?_,I3.hok.kept old,sc.len σ⟩
  ·rcases sc.rel x hx with hm|hm
   ·exact zjo (.inr (zdo X.env scope.names [] x (.inl hm) (hasC _ hm rfl)))
   ·exact zjo (.inl hm)
  ·obtain ⟨o,e,_⟩:=fpIn3 b hb
   exact cNe b o e
  ·rcases (f3 b hb).2.2.2.1 with z|z
   ·exact I3.ok.noex b o e z
   ·have:=Heap.lt_size (I3.ok.bs b o e).1
    exact absurd (Nat.lt_of_lt_of_le this z) (Nat.lt_irrefl _)
  ·obtain ⟨j,e1,e2,e3⟩:=sc.src σ i v x h2 h1
   obtain ⟨m,hn,hl⟩:=I3.loc
   have hmem:=PySem.mem_of_lookup e3
   have hk:=sc.free (x,.free) hmem rfl
   have vis:Vis X.env.scope x:=by
    rcases hk with k|k
    ·exact .inr (.inl k)
    ·exact .inr (.inr k)
   obtain ⟨u,r,lk⟩:=hl j x v e1 e2 vis
   refine ⟨u,r,.inr ⟨?_,?_⟩⟩
   ·exact zhj (scope:=scope) e3
   ·rcases lk with ⟨k,_⟩|⟨_,c,hc,hcell⟩
    ·rcases hk with k' | k' <;> (rw [k] at k';cases k')
    ·obtain ⟨c',hc'⟩:=zdo X.env scope.names [] x (.inl hmem) ⟨c,hc⟩
     have:=sub x c' hc'
     rw [hc] at this;cases this
     have hc':(cellsFrom (h3.objs.size+1) scope.names (zbn X.env scope.names [])).lookup x=some c:=by rw [zly (sc.one x e3)];exact hc'
     obtain ⟨o,ho,hd⟩:=hcell
     exact ⟨c,hc',o,old _ _ ho,hd⟩
  ·rcases own x c z with y|⟨_,y⟩
   ·obtain ⟨v,o,ho,hd⟩:=I3.cell x c y
    exact ⟨v,o,old _ _ ho,hd⟩
   ·exact ⟨none,y⟩
  ·have hp':p∈X.pn++pins:=by simpa [cxD] using hp
   obtain ⟨e,n,ne,nf,d⟩:=I3.pin p hp'
   exact ⟨old _ _ e,n,cNe _ _ e,stkNo _ ne nf,d⟩
 have st4:tn 0 h':=T.keep _ _ _ st3 fun b hb o e=>old b o e
 have fr4:∀b∈fp,H3 b=none:=fun b hb=>(f3 b hb).1
 have stat:∀{H':Hp},(∀b∈fp,H' b=none)->∀b∈fp,zcb (cxD X N' scope h3.objs.size { s2 with heap:=h3 } H3 fp pins) [] H' b:=fun hn b hb=>by
  obtain ⟨g0,g1,g2,g3,g4,g5⟩:=f3 b hb
  obtain ⟨o,e,_⟩:=fpIn3 b hb
  exact ⟨hn b hb,cNe b o e,stkNo b g1 g2,.inl hb,fun x c z=>exf b hb x c z,fun p hp=>g5 p (by simpa [cxD] using hp)⟩
 have loop:codeAny (model X.prog X.w) X.A (.compLoop (.ListComp elt [⟨tgt,iter,ifs,0⟩] scope pos) 0 (.ref it) (.ref D) (compEnvC scope (cellsFrom (h3.objs.size+1) scope.names (zbn X.env scope.names [])) h3.objs.size X.env))
   (compPost (model X.prog X.w) X.A X.xe use R (.ref D) h3.objs.size) { s2 with heap:=h',toks:=s2.toks }:=by
  refine zpp (fun n s'=>∃i σ' H',Inv (cxD X N' scope h3.objs.size { s2 with heap:=h3 } H3 fp pins) [] σ' H' s'/\tn i s'.heap/\(∀b∈fp,H' b=none)/\W i n σ' H') ?_ m0 ⟨0,src σ,H3,I4,st4,fr4,w0⟩
  rintro n s5 ⟨i,σ5,H5,I5,st5,fr5,w5⟩
  rcases turn i n σ5 H5 w5 with ⟨stop,qn⟩|⟨go,N,hN,step⟩
  ·refine wpAny_mono (T.done (cxD X N' scope h3.objs.size { s2 with heap:=h3 } H3 fp pins) rfl rfl rfl hcalm i [] s5 σ5 H5 (fun _ _=>False) I5 (stat fr5) st5 stop) (fun r s6 hr=>?_) fun _ _ z=>z
   obtain ⟨hr,I6⟩:=hr
   subst hr
   obtain ⟨mC,hnC,_⟩:=I6.loc
   have IX:Inv X pins σ H5 s6:=I3.call' (s':=s6) (ch:=fp) I6.os I6.base I6.hok I6.bare fun b hb=>⟨(f3 b hb).2.2.2.1,(f3 b hb).2.1,(f3 b hb).2.2.2.2.1,(f3 b hb).2.2.2.2.2⟩
   exact fin D H5 s6 h3.objs.size mC IX (I3.fpOk (Nat.le_refl _) I6.free) hnC qn
  ·refine wpAny_mono (T.item (cxD X N' scope h3.objs.size { s2 with heap:=h3 } H3 fp pins) rfl rfl rfl hcalm i [] s5 σ5 H5 (fun _ _=>False) I5 (stat fr5) st5 go) (fun r s6 hr=>?_) fun _ _ z=>z
   obtain ⟨u,hr,h6⟩:=hr
   subst hr
   refine wpAny_mono h6 (fun _ s7 h7=>?_) fun _ _ z=>z
   obtain ⟨x,H7,I7,r7,y7,st7,fr7⟩:=h7
   have I7':=I7.pinned (stat fr7) (T.obj _ _ st7)
   refine wpAny_mono (hg _ _ _ _ _ _ s7 σ5 H7 x u _ I7' r7 (step x H7 y7)) (fun _ s8 h8=>?_) fun _ _ z=>z
   obtain ⟨σ8,H8,I8,q8⟩:=h8
   have again:∀{H9:Hp} {s9:Shared},Inv (cxD X N' scope h3.objs.size { s2 with heap:=h3 } H3 fp pins) ([]++zcx fp s7.heap) σ8 H9 s9->N σ8 H9->∃m,m<n/\∃i σ' H',Inv (cxD X N' scope h3.objs.size { s2 with heap:=h3 } H3 fp pins) [] σ' H' s9/\tn i s9.heap/\(∀b∈fp,H' b=none)/\W i m σ' H':=fun {H9 s9} I9 n9=>by
    obtain ⟨m',hm,w9⟩:=hN σ8 H9 n9
    refine ⟨m',hm,i+1,σ8,H9,I9.unpinned,T.keep _ _ _ st7 fun b hb o e=>(I9.pin (b,o) (List.mem_append_right _ (List.mem_append_right _ (zc4 hb e)))).1,fun b hb=>?_,w9⟩
    obtain ⟨o,e,d⟩:=T.obj _ _ st7 b hb
    exact (I9.pin (b,o) (List.mem_append_right _ (List.mem_append_right _ (zc4 hb e)))).2.1
   refine wpAny_mono (ht _ _ _ _ _ _ s8 σ8 H8 _ I8 q8) (fun ok s9 h9=>?_) fun _ _ z=>z
   obtain ⟨H9,I9,q9⟩:=h9
   cases ok with
   | false=>exact again I9 q9
   | true =>
    refine wpAny_mono (he _ _ _ _ _ _ s9 σ8 H9 _ I9 q9) (fun y s10 h10=>?_) fun _ _ z=>z
    obtain ⟨vy,H10,I10,r10,ys,hys,hz,nx⟩:=h10
    refine wpAny_mono (zim (X:=cxD X N' scope h3.objs.size { s2 with heap:=h3 } H3 fp pins) _ s10 σ8 H10 (.ref D) [vy] (.ref D) [y] (fun _ H'=>N σ8 H') I10 rfl (.cons r10 .nil) ⟨D,ys,vy,rfl,rfl,hys,hz,nx⟩) (fun _ s11 h11=>?_) fun _ _ z=>z
    obtain ⟨_,H11,I11,_,n11⟩:=h11
    exact again I11 n11
 exact codeAny_compStart_list loop (T.self _ 0 _ _ _ st4 loop)
theorem yar {X:Cx}{N':List Str}{elt iter tgt:Expr}{ifs:List Expr}{scope:Scope}{pos:Pos}{wi:TI}{src:St->St}{g:TG}{tts:TT}{t:TE}(hcalm:X.calm=true) (sc:CompSd X N' scope src)
  (hi:PI X tgt iter wi) (hg:∀C s H fp pins,PG (cxD X N' scope C s H fp pins) tgt g) (ht:∀C s H fp pins,PTs (cxD X N' scope C s H fp pins) ifs tts) (he:∀C s H fp pins,PE (cxD X N' scope C s H fp pins) elt t)
  (hs:∀x,foldedSetIterable iter X.env x=pure x:=by intro _;rfl):PE X (.ListComp elt [⟨tgt,iter,ifs,0⟩] scope pos) (zf9 X.K wi src g tts t):=by
 intro pins s σ H Q I h
 rw [eval_ListComp]
 refine yaq (use:=none) hcalm sc hi hg ht he hs I h fun D H5 s6 C mC IX fp hn q=>⟨mC,hn,fun h'' sb=>⟨.ref D,H5,?_,rfl,q⟩⟩
 exact IX.turned (t':=s6.toks) (fun b o hb e=>sb.extBut b o hb e) fp.1 fp.2.1 fp.2.2.2.1 fp.2.2.2.2.1 fp.2.2.2.2.2
theorem yas {X:Cx}{N':List Str}{elt iter tgt:Expr}{ifs:List Expr}{scope:Scope}{pos:Pos}{im:IM}{ixs:List (Option Nat)}{g:GM}{t:TM}{e:EM}(hcalm:X.calm=true) (sc:CompSd X N' scope (za3 ixs))
  (hi:PI3 X tgt iter im) (hg:∀C s H fp pins,PG3 (cxD X N' scope C s H fp pins) tgt g) (ht:∀C s H fp pins,PTs (cxD X N' scope C s H fp pins) ifs (tt X.K t)) (he:∀C s H fp pins,PE3 (cxD X N' scope C s H fp pins) elt e)
  (hs:∀x,foldedSetIterable iter X.env x=pure x:=by intro _;rfl):PE3 X (.ListComp elt [⟨tgt,iter,ifs,0⟩] scope pos) (zbo im ixs g t e) :=
 PE.imp (yar (g:=tg X.K g) (tts:=tt X.K t) (t:=te X.K e) hcalm sc hi hg ht he hs) zk1
noncomputable def zqm (scO scope:Scope) (NO N':List Str) (ixs:List (Option Nat)):Bool :=
 decide (scope.kind=.function) && (scope.names.all fun y=>y.2 != .local || scope.names.lookup y.1 == some .local) && (scope.names.all fun y=>y.2 != .cell || scope.names.lookup y.1 == some .cell) &&
 (scope.names.all fun y=>y.2 != .free || (scO.names.lookup y.1 == some .cell || scO.names.lookup y.1 == some .free)) && (ixs.length == N'.length) &&
 ((List.range ixs.length).all fun i=>match ixs[i]? with|some (some j)=>(NO[j]? == N'[i]? && (match N'[i]? with|some x=>scope.names.lookup x == some .free|none=>false))|_=>true)
theorem yat {X:Cx}{scO scope:Scope}{NO N':List Str}{ixs:List (Option Nat)}(hX:X.env.scope=scO) (hN:X.N=NO) (h:zqm scO scope NO N' ixs=true):CompSd X N' scope (za3 ixs):=by
 unfold zqm at h
 simp only [Bool.and_eq_true,decide_eq_true_eq,List.all_eq_true,beq_iff_eq,Bool.or_eq_true,bne_iff_ne,ne_eq] at h
 obtain ⟨⟨⟨⟨⟨h1,h3⟩,h2⟩,h4⟩,h5⟩,h6⟩:=h
 refine ⟨h1,fun y hy hl=>?_,fun y hy hl=>?_,fun y hy=>?_,fun y hy hc=>?_,fun σ=>by simp [za3,h5],fun σ i v x hv hx=>?_⟩
 ·rcases h3 y hy with z|z
  ·exact absurd hl z
  ·exact z
 ·show X.env.scope.names.lookup y.1=_∨X.env.scope.names.lookup y.1=_
  rw [hX]
  rcases h4 y hy with z|z
  ·exact absurd hl z
  ·exact z
 ·have mem:∃k,(k=NameKind.cell∨k=NameKind.free)/\(y,k)∈(relabel scope X.env).names:=by
   rcases hy with z|z
   ·exact ⟨_,.inl rfl,PySem.mem_of_lookup z⟩
   ·exact ⟨_,.inr rfl,PySem.mem_of_lookup z⟩
  obtain ⟨k,hk,hm⟩:=mem
  unfold relabel at hm
  obtain ⟨⟨n,k'⟩,hm1,hm2⟩:=List.mem_map.mp hm
  dsimp only at hm2
  split at hm2
  ·rename_i hc
   have:k' = .free:=by
    rw [Bool.and_eq_true,Bool.and_eq_true] at hc
    exact eq_of_beq hc.1.1
   cases hm2
   rw [←this];exact .inl hm1
  ·cases hm2
   rcases hk with z|z
   ·rw [←z];exact .inr hm1
   ·rw [←z];exact .inl hm1
 ·rcases h2 (y,.cell) hc with z|z
  ·exact z rfl
  ·rw [hy] at z;cases z
 ·have hl:i<ixs.length:=by
   have:=(List.getElem?_eq_some_iff.mp hv).1
   simpa [za3] using this
  unfold za3 at hv
  rw [List.getElem?_map] at hv
  have q:=h6 i (List.mem_range.mpr hl)
  cases e:ixs[i]? with
  | none=>rw [e] at hv;cases hv
  | some o =>
   rw [e] at hv
   cases o with
   | none=>cases hv
   | some j =>
    rw [e] at q
    dsimp only at q
    rw [hx] at q
    simp only [Bool.and_eq_true,beq_iff_eq] at q
    have hv:((σ[j]?).join:Option V)=some v:=Option.some.inj hv
    refine ⟨j,by rw [hN];exact q.1,?_,q.2⟩
    cases e2:σ[j]? with
    | none=>rw [e2] at hv;cases hv
    | some o2=>rw [e2] at hv;have hv:o2=some v:=hv;rw [hv]
theorem yau {X:Cx}{scO scope1 scope2:Scope}{N1 N':List Str}{ixs:List (Option Nat)}{C:Addr}{s:Shared}{H:Hp}{fp:List Addr}{pins:List (Addr × Obj)}(hX:X.env.scope=scO) (h:chk (zlr scope1 scO) scope2 N1 N' ixs=true):CompSc (cxD X N1 scope1 C s H fp pins) N' scope2 (za3 ixs) :=
 zd3 (scO:=zlr scope1 scO) (NO:=N1) (by rw [←hX];exact zz3 scope1 X.env) rfl h
end L3
namespace L3
open PySem PySem.Spec PyProof.Rows L2
noncomputable def zl1 (K:PySem.W.Frag) (wi:TI) (src:St->St) (g:TG) (tts:TT) (tk tv:TE):TE:=fun σ H Q=>wi σ H fun J H1=>∀D,H1 D=none->K.lookup D=none->∃W:Nat->Nat->St->Hp->Prop,
 (∃m,W 0 m (src σ) (upd H1 D (.dT [])))/\∀i m σ' H',W i m σ' H' ->
  (J.stop i H'/\Q (.ref D) H')∨(J.go i H'/\∃N:St->Hp->Prop,(∀σ' H',N σ' H'->∃m',m' < m/\W (i+1) m' σ' H') /\
   ∀x H'',J.yld i H' x H''->g x σ' H'' fun σ2 H2=>tts σ2 H2 fun b H3=>if b=true then tk σ2 H3 (fun kx H4=>tv σ2 H4 fun vx H5=>∃kvs k b,H5 D=some (.dT kvs)/\kx=.ref b/\H5 b=some (.tup (k.map kV))/\kvs.length<sizeLine/\N σ2 (upd H5 D (.dT (zbs kvs k vx)))) else N σ2 H3)
theorem yav {X:Cx}{rk:Nat}{N':List Str}{elt vx iter tgt:Expr}{ifs:List Expr}{scope:Scope}{pos pos':Pos}{use:Option (Value->Sem Unit)}{R:Value->Shared->Prop}{pins:List (Addr × Obj)}{s:Shared}{σ:St}{H:Hp}{Q:VK}{wi:TI}{src:St->St}{g:TG}{tts:TT}{t tv:TE}(hr:Room rk X.A) (hcalm:X.calm=true) (sc:CompSc X N' scope src)
  (hi:PI X tgt iter wi) (hg:∀C s H fp pins,PG (cxC X N' scope C s H fp pins) tgt g) (ht:∀C s H fp pins,PTs (cxC X N' scope C s H fp pins) ifs tts) (he:∀C s H fp pins,PE (cxC X N' scope C s H fp pins) elt t) (hv:∀C s H fp pins,PE (cxC X N' scope C s H fp pins) vx tv)
  (hs:∀x,foldedSetIterable iter X.env x=pure x) (I:Inv X pins σ H s) (h:zl1 X.K wi src g tts t tv σ H Q)
  (fin:∀D H5 s6 C mC,Inv X pins σ H5 s6->zcb X pins H5 C->s6.heap.Ns C mC->Q (.ref D) H5->compPost (model X.prog X.w) X.A X.xe use R (.ref D) C (.ok .next) s6) :
  wpAny (model X.prog X.w) X.A (comprehension (.DictComp elt vx [⟨tgt,iter,ifs,0⟩] scope pos) scope X.env pos' newDict false (eval iter X.env) use) R X.xe s:=by
 have hasC:∀x∈scope.names,x.2=.free->∃c,X.env.cells.lookup x.1=some c:=fun x hx hf=>I.ok.has x.1 (sc.free x hx hf)
 refine wpAny_comprehension_free (use:=use) (env:=X.env) rfl hs (zi1 scope X.env hasC) sc.kind sc.names ?_
 show wpAny (model X.prog X.w) X.A (eval iter X.env) _ _ s
 refine wpAny_mono (hi pins s σ H _ I h) (fun v s1 h1=>wpAny_mono h1 (fun itv s2 h2=>?_) fun _ _ z=>z) fun _ _ z=>z
 obtain ⟨it,fp,tn,J,H2,rfl,I2,T,st2,f2,q⟩:=h2
 refine wpAny_newObj_type ?_
 have hD:H2 s2.heap.objs.size=none:=I2.hok.fresh (Nat.le_refl _)
 have I3:Inv X pins σ (upd H2 s2.heap.objs.size (.dT [])) { s2 with heap:=s2.heap.push { cls:=.type "dict",data:=.dict #[] } }:=I2.laid (t':=s2.toks) (fun b u e=>Heap.get?_push_of_some _ e) (Nat.le_refl _) (zo2 s2.heap I2.big)
 obtain ⟨W,⟨m0,w0⟩,turn⟩:=q s2.heap.objs.size hD (by
  cases e:X.K.lookup s2.heap.objs.size with
  | none=>rfl
  | some o=>exact absurd (Heap.lt_size (I2.kIn _ o e)) (Nat.lt_irrefl _))
 refine wpAny_newFunctionEnv sc.nocell (by intro y hy;simp at hy) (fun h' hns hsb=>?_) sc.kind
 have fpIn:∀b∈fp,∃o,s2.heap.get? b=some o/\∀v,o.data≠.cell v:=T.obj 0 s2.heap st2
 have fpD:∀b∈fp,b≠s2.heap.objs.size:=fun b hb=>let ⟨o,e,_⟩:=fpIn b hb;Nat.ne_of_lt (Heap.lt_size e)
 have f3:∀b∈fp,zcb X pins (upd H2 s2.heap.objs.size (.dT [])) b:=fun b hb=>⟨by rw [zas (fpD b hb)];exact (f2 b hb).1,(f2 b hb).2⟩
 have st3:tn 0 (s2.heap.push { cls:=.type "dict",data:=.dict #[] }):=T.keep _ _ _ st2 fun b hb o e=>Heap.get?_push_of_some _ e
 clear q hD h st2 f2 fpD
 generalize upd H2 s2.heap.objs.size (.dT [])=H3 at *
 generalize hDe:s2.heap.objs.size=D at *
 have fpIn3:∀b∈fp,∃o,(s2.heap.push { cls:=.type "dict",data:=.dict #[] }).get? b=some o/\∀v,o.data≠.cell v:=T.obj 0 _ st3
 clear fpIn
 generalize s2.heap.push { cls:=.type "dict",data:=.dict #[] }=h3 at *
 have old:∀b o,h3.get? b=some o->h'.get? b=some o:=fun b o e=>hsb.extBut b o (Nat.ne_of_lt (Heap.lt_size e)) (Heap.get?_push_of_some _ e)
 have stkNo:∀b,b≠X.env.locals->b ∉ X.fs->b ∉ frs X.stack:=fun b h1 h2 hb=>by
  rcases List.mem_cons.mp (I3.stkSub b hb) with z|z
  ·exact h1 z
  ·exact h2 z
 have sub:=zfk X.env scope.names [] (fun x c z=>by simp at z)
 have cNe:∀b o,h3.get? b=some o->b≠h3.objs.size:=fun b o e=>Nat.ne_of_lt (Heap.lt_size e)
 have I4:Inv (cxC X N' scope h3.objs.size { s2 with heap:=h3 } H3 fp pins) [] (src σ) H3 { s2 with heap:=h',toks:=s2.toks+([]:List (Str × Value)).length }:=by
  refine ⟨⟨I3.ok.mod,sc.kind,I3.ok.glob,I3.ok.blt,Nat.le_refl _,fun x y c h1 h2=>I3.ok.inj x y c (sub x c h1) (sub y c h2),fun x hx=>?_,fun x c z=>absurd (show false=true from z) Bool.false_ne_true,I3.ok.hd,I3.ok.frames,.inl rfl,fun b hb=>⟨?_,fun x c z=>(f3 b hb).2.2.2.2.1 x c (sub x c z)⟩,fun b o e=>I3.bs b o e,Nat.le_trans I3.ok.bsz I3.sz,fun b o e hb=>?_,fun b hb=>stkNo b (f3 b hb).2.1 (f3 b hb).2.2.1,I3.stack,I3.stkFree⟩,
   rfl,I3.bare,Un.kept old,⟨_,hns,fun i x v h1 h2 h3'=>?_⟩,fun x c z=>?_,I3.hok.fresh (Nat.le_refl _),fun x c z=>I3.freeC x c (sub x c z),fun p hp=>?_,I3.hok.kept old,sc.len σ⟩
  ·have hm:=sc.rel x hx
   exact zdo X.env scope.names [] x (.inl hm) (hasC _ hm rfl)
  ·obtain ⟨o,e,_⟩:=fpIn3 b hb
   exact cNe b o e
  ·rcases (f3 b hb).2.2.2.1 with z|z
   ·exact I3.ok.noex b o e z
   ·have:=Heap.lt_size (I3.ok.bs b o e).1
    exact absurd (Nat.lt_of_lt_of_le this z) (Nat.lt_irrefl _)
  ·obtain ⟨j,e1,e2,e3⟩:=sc.src σ i v x h2 h1
   obtain ⟨m,hn,hl⟩:=I3.loc
   have hmem:=PySem.mem_of_lookup e3
   have hk:=sc.free (x,.free) hmem rfl
   have vis:Vis X.env.scope x:=by
    rcases hk with k|k
    ·exact .inr (.inl k)
    ·exact .inr (.inr k)
   obtain ⟨u,r,lk⟩:=hl j x v e1 e2 vis
   refine ⟨u,r,.inr ⟨?_,?_⟩⟩
   ·exact zhj (scope:=scope) e3
   ·rcases lk with ⟨k,_⟩|⟨_,c,hc,hcell⟩
    ·rcases hk with k' | k' <;> (rw [k] at k';cases k')
    ·obtain ⟨c',hc'⟩:=zdo X.env scope.names [] x (.inl hmem) ⟨c,hc⟩
     have:=sub x c' hc'
     rw [hc] at this;cases this
     obtain ⟨o,ho,hd⟩:=hcell
     exact ⟨c,hc',o,old _ _ ho,hd⟩
  ·obtain ⟨v,o,ho,hd⟩:=I3.cell x c (sub x c z)
   exact ⟨v,o,old _ _ ho,hd⟩
  ·have hp':p∈X.pn++pins:=by simpa [cxC] using hp
   obtain ⟨e,n,ne,nf,d⟩:=I3.pin p hp'
   exact ⟨old _ _ e,n,cNe _ _ e,stkNo _ ne nf,d⟩
 have st4:tn 0 h':=T.keep _ _ _ st3 fun b hb o e=>old b o e
 have fr4:∀b∈fp,H3 b=none:=fun b hb=>(f3 b hb).1
 have stat:∀{H':Hp},(∀b∈fp,H' b=none)->∀b∈fp,zcb (cxC X N' scope h3.objs.size { s2 with heap:=h3 } H3 fp pins) [] H' b:=fun hn b hb=>by
  obtain ⟨g0,g1,g2,g3,g4,g5⟩:=f3 b hb
  obtain ⟨o,e,_⟩:=fpIn3 b hb
  exact ⟨hn b hb,cNe b o e,stkNo b g1 g2,.inl hb,fun x c z=>g4 x c (sub x c z),fun p hp=>g5 p (by simpa [cxC] using hp)⟩
 have loop:codeAny (model X.prog X.w) X.A (.compLoop (.DictComp elt vx [⟨tgt,iter,ifs,0⟩] scope pos) 0 (.ref it) (.ref D) (compEnvC scope (zbn X.env scope.names []) h3.objs.size X.env))
   (compPost (model X.prog X.w) X.A X.xe use R (.ref D) h3.objs.size) { s2 with heap:=h',toks:=s2.toks+([]:List (Str × Value)).length }:=by
  refine zz0 (fun n s'=>∃i σ' H',Inv (cxC X N' scope h3.objs.size { s2 with heap:=h3 } H3 fp pins) [] σ' H' s'/\tn i s'.heap/\(∀b∈fp,H' b=none)/\W i n σ' H') ?_ m0 ⟨0,src σ,H3,I4,st4,fr4,w0⟩
  rintro n s5 ⟨i,σ5,H5,I5,st5,fr5,w5⟩
  rcases turn i n σ5 H5 w5 with ⟨stop,qn⟩|⟨go,N,hN,step⟩
  ·refine wpAny_mono (T.done (cxC X N' scope h3.objs.size { s2 with heap:=h3 } H3 fp pins) rfl rfl rfl hcalm i [] s5 σ5 H5 (fun _ _=>False) I5 (stat fr5) st5 stop) (fun r s6 hr=>?_) fun _ _ z=>z
   obtain ⟨hr,I6⟩:=hr
   subst hr
   obtain ⟨mC,hnC,_⟩:=I6.loc
   have IX:Inv X pins σ H5 s6:=I3.call' (s':=s6) (ch:=fp) I6.os I6.base I6.hok I6.bare fun b hb=>⟨(f3 b hb).2.2.2.1,(f3 b hb).2.1,(f3 b hb).2.2.2.2.1,(f3 b hb).2.2.2.2.2⟩
   exact fin D H5 s6 h3.objs.size mC IX (I3.fpOk (Nat.le_refl _) I6.free) hnC qn
  ·refine wpAny_mono (T.item (cxC X N' scope h3.objs.size { s2 with heap:=h3 } H3 fp pins) rfl rfl rfl hcalm i [] s5 σ5 H5 (fun _ _=>False) I5 (stat fr5) st5 go) (fun r s6 hr=>?_) fun _ _ z=>z
   obtain ⟨u,hr,h6⟩:=hr
   subst hr
   refine wpAny_mono h6 (fun _ s7 h7=>?_) fun _ _ z=>z
   obtain ⟨x,H7,I7,r7,y7,st7,fr7⟩:=h7
   have I7':=I7.pinned (stat fr7) (T.obj _ _ st7)
   refine wpAny_mono (hg _ _ _ _ _ _ s7 σ5 H7 x u _ I7' r7 (step x H7 y7)) (fun _ s8 h8=>?_) fun _ _ z=>z
   obtain ⟨σ8,H8,I8,q8⟩:=h8
   have again:∀{H9:Hp} {s9:Shared},Inv (cxC X N' scope h3.objs.size { s2 with heap:=h3 } H3 fp pins) ([]++zcx fp s7.heap) σ8 H9 s9->N σ8 H9->∃m,m<n/\∃i σ' H',Inv (cxC X N' scope h3.objs.size { s2 with heap:=h3 } H3 fp pins) [] σ' H' s9/\tn i s9.heap/\(∀b∈fp,H' b=none)/\W i m σ' H':=fun {H9 s9} I9 n9=>by
    obtain ⟨m',hm,w9⟩:=hN σ8 H9 n9
    refine ⟨m',hm,i+1,σ8,H9,I9.unpinned,T.keep _ _ _ st7 fun b hb o e=>(I9.pin (b,o) (List.mem_append_right _ (List.mem_append_right _ (zc4 hb e)))).1,fun b hb=>?_,w9⟩
    obtain ⟨o,e,d⟩:=T.obj _ _ st7 b hb
    exact (I9.pin (b,o) (List.mem_append_right _ (List.mem_append_right _ (zc4 hb e)))).2.1
   refine wpAny_mono (ht _ _ _ _ _ _ s8 σ8 H8 _ I8 q8) (fun ok s9 h9=>?_) fun _ _ z=>z
   obtain ⟨H9,I9,q9⟩:=h9
   cases ok with
   | false=>exact again I9 q9
   | true =>
    refine wpAny_mono (he _ _ _ _ _ _ s9 σ8 H9 _ I9 q9) (fun y s10 h10=>?_) fun _ _ z=>z
    obtain ⟨vy,H10,I10,r10,q10⟩:=h10
    refine wpAny_mono (hv _ _ _ _ _ _ s10 σ8 H10 _ I10 q10) (fun z s11 h11=>?_) fun _ _ z=>z
    obtain ⟨vz,H11,I11,r11,kvs,kk,kb,hys,ek,hkb,hz,nx⟩:=h11
    subst ek
    cases r10
    obtain ⟨z1,hsm,xs,rel,dd⟩:=zko I11.hok hys
    have hzv:xs.length<=sizeLine:=by rw [←Paired.length rel];exact z1
    have hl:(zbs kvs kk vz).length<=sizeLine:=by have:=zio kvs kk vz;omega
    have hroom:(tupleKind (zca X.prog X.w)).room X.A:=Nat.lt_of_succ_lt (zel hr)
    refine wpAny_dictSet_heap (hsz:=hzv) hroom (zfa I11.hok hkb) dd fun h' dd' hs'=>?_
    obtain ⟨q,es,ep,hq,g2,g3,g4,_,g5⟩:=dd'
    refine again (ziq (ob:=.dT (zbs kvs kk vz)) (t':=s11.toks+(tupleKind (zca X.prog X.w)).draws kk) I11 (by rw [hys];exact True.intro) hs' ⟨q,hq⟩ ⟨hl,hsm,_,(rel.put kk hkb r11).keeps fun c ys ec=>?_,q,es,ep,hq,g2,g3,g4,g5⟩) nx
    rw [zas (zcw ec hys (fun z=>nomatch z))]
    exact ec
 exact codeAny_compStart_dict loop (T.self _ 0 _ _ _ st4 loop)
theorem yaw {X:Cx}{rk:Nat}{N':List Str}{elt vx iter tgt:Expr}{ifs:List Expr}{scope:Scope}{pos spos py:Pos}{wi:TI}{src:St->St}{g:TG}{tts:TT}{t tv:TE}{i:Nat}{y:Str}(hN:X.N.Nodup) (hi':X.N[i]? = some y) (hx:Loc X.env.scope y)
  (hsw:swapsWith (.DictComp elt vx [⟨tgt,iter,ifs,0⟩] scope pos) (some (.Name y py)) spos.line X.env=pure true) (hf:X.fn y=true∨X.env.scope.names.lookup y=some .local)
  (hr:Room rk X.A) (hcalm:X.calm=true) (sc:CompSc X N' scope src)
  (hi:PI X tgt iter wi) (hg:∀C s H fp pins,PG (cxC X N' scope C s H fp pins) tgt g) (ht:∀C s H fp pins,PTs (cxC X N' scope C s H fp pins) ifs tts) (he:∀C s H fp pins,PE (cxC X N' scope C s H fp pins) elt t) (hv:∀C s H fp pins,PE (cxC X N' scope C s H fp pins) vx tv)
  (hs:∀x,foldedSetIterable iter X.env x=pure x:=by intro _;rfl):PS X (.Assign [.Name y py] (.DictComp elt vx [⟨tgt,iter,ifs,0⟩] scope pos) spos) (zii (zl1 X.K wi src g tts t tv) (zih i)):=by
 intro pins s σ H D I h
 rw [exec_Assign_Name_used _ _ _ _ hsw]
 refine wpAny_bind (wpAny_standAt (wpAny_bind ?_))
 show wpAny _ X.A (do let _ ←comprehension (.DictComp elt vx [⟨tgt,iter,ifs,0⟩] scope pos) scope X.env _ newDict false (eval iter X.env) (some (assign (.Name y py) X.env))) _ _ s
 refine wpAny_bind (wpAny_mono (yav (use:=some (assign (.Name y py) X.env)) (R:=fun _ s'=>SP X pins D .next s') hr hcalm sc hi hg ht he hv hs I h fun D' H5 s6 C mC IX fp hn q=>?_) (fun _ s' hq=>wpAny_pure (wpAny_pure hq)) fun _ _ e=>e)
 show wpAny _ X.A (assign (.Name y py) X.env (.ref D')) _ _ s6
 refine wpAny_assign_Name (zkf (v:=.ref D') IX hN hi' hx rfl (fun s' I' ha=>?_) hf)
 obtain ⟨a,sb,ha⟩:=ha
 have hCa:C≠a:=by
  rcases ha with ha|ha
  ·rw [ha];exact fp.2.1
  ·exact fun z=>fp.2.2.2.2.1 y a ha z.symm
 refine ⟨mC,hn.sameBut sb hCa,fun h'' sb''=>⟨_,H5,?_,q⟩⟩
 exact I'.turned (t':=s'.toks) (fun b o hb e=>sb''.extBut b o hb e) fp.1 fp.2.1 fp.2.2.2.1 fp.2.2.2.2.1 fp.2.2.2.2.2
noncomputable def zgm:List D->List (List Key × D)->Option (List (List Key × D))
 | [],acc=>some acc
 | .tup [k,v] :: r,acc=>(zcp k).bind fun kk=>zgm r (zb5 acc kk v)
 | _,_=>none
noncomputable def zhx (im:IM) (ixs:List (Option Nat)) (g:GM) (t:TM) (k v:EM):EM:=fun l S=>(im l S).bind fun p=>(zbq p.1 g t (zfm k v) p.2.1 0 (za3 ixs l) p.2.2).bind fun z =>
 if z.1.length<=sizeLine then (zgm z.1 []).bind fun kvs=>some (.ref z.2.length,z.2++[.tdct kvs]) else none
theorem zqn (kvs:List (List Key × D)) (k:List Key) (v:D):(zb5 kvs k v).length<=kvs.length+1:=by
 unfold zb5
 split
 ·rw [List.length_map];omega
 ·simp
inductive CIT (K:PySem.W.Frag) (it:ItM) (g:GM) (t:TM) (ek ev:EM) (S2:Sto) (fin:List (List Key × D)) (ρ1:List Addr) (H1:Hp) (Da:Addr) (i m:Nat) (σ':St) (H':Hp):Prop
 | mk (ρ':List Addr) (l':Lo) (S':Sto) (acc:List (List Key × D)) (vs:List V) (rest:List D) (_:Ext ρ1 H1 ρ' H') (_:Sim K ρ' S' H') (_:RO ρ' H' l' σ') (_:H' Da=some (.dT ((acc.map (·.1)).zip vs))) (_:(∀n:Nat,ρ'[n]?≠some Da)) (_:RDs ρ' H' (acc.map (·.2)) vs) (_:zbq it g t (zfm ek ev) m i l' S' = some (rest,S2)) (_:zgm rest acc=some fin) (_:acc.length+rest.length<=sizeLine)
theorem yax {K:PySem.W.Frag}{im:IM}{ixs:List (Option Nat)}{g:GM}{t:TM}{ek ev:EM}(σ:St) (H:Hp) (Q:VK) (q:te K (zhx im ixs g t ek ev) σ H Q):zl1 K (tiL K im) (za3 ixs) (tg K g) (tt K t) (te K ek) (te K ev) σ H Q:=by
 obtain ⟨ρ,l,S,v,S',sim,ro,hm,p⟩:=q
 obtain ⟨⟨it,k,S1⟩,q1,hm⟩:=bnd hm
 obtain ⟨⟨all,S2⟩,q2,hm⟩:=bnd hm
 obtain ⟨hz,hm⟩:=zzs hm
 obtain ⟨fin,hf,he⟩:=bnd hm
 cases he
 refine ⟨ρ,l,S,it,k,S1,sim,ro,q1,fun ρ1 H1 J e1 s1 io D hD hK=>?_⟩
 dsimp only at q2 hz p hf
 refine ⟨fun i m σ' H'=>CIT K it g t ek ev S2 fin ρ1 H1 D i m σ' H',⟨k,?_⟩,?_⟩
 ·exact ⟨ρ1,za3 ixs l,S1,[],[],all,zcq hD,s1.laid hD,(zk0 ixs (ro.mono e1)).mono (zcq hD),zb7,s1.notin hD hK,.nil,q2,hf,by simpa using hz⟩
 ·rintro i m σ' H' ⟨ρ',l',S',acc,vs,rest,e2,s2,ro2,hD2,hn2,rd2,hc,hfold,hlen⟩
  cases m with
  | zero=>cases hc
  | succ m =>
   unfold zbq at hc
   obtain ⟨o,ho,hc⟩:=bnd hc
   obtain ⟨iStop,iGo⟩:=io i ρ' S' H' e2 s2
   cases o with
   | none =>
    cases hc
    cases hfold
    refine .inl ⟨iStop ho,p (ρ'++[D]) H' (.ref D) (e1.trans (e2.adopt hD)) (s2.adoptG ⟨vs,hD2,rd2⟩ hn2) (.ref ?_)⟩
    rw [←s2.len];exact zdy ρ' D
   | some x =>
    obtain ⟨⟨l3,S3⟩,q3,hc⟩:=bnd hc
    obtain ⟨⟨b,S4⟩,q4,hc⟩:=bnd hc
    obtain ⟨hgo,hy⟩:=iGo x ho
    refine .inr ⟨hgo,_,fun σ' H' h=>h,fun y H'' hyl=>?_⟩
    obtain ⟨ex,sx,ry⟩:=hy y H'' hyl
    refine ⟨ρ',l',S',x,l3,S3,sx,ro2.mono ex,ry,q3,fun ρ3 H3 σ3 e3' s3 ro3=>⟨ρ3,l3,S3,b,S4,s3,ro3,q4,fun ρ4 H4 e4 s4=>?_⟩⟩
    have e3:=ex.trans e3'
    obtain ⟨hD3,hn3⟩:=e3.out D _ hD2 hn2
    obtain ⟨hD4,hn4⟩:=e4.out D _ hD3 hn3
    cases b with
    | false=>exact zee ⟨m,Nat.lt_succ_self m,ρ4,l3,S4,acc,vs,rest,e2.trans (e3.trans e4),s4,ro3.mono e4,hD4,hn4,rd2.mono (e3.trans e4),hc,hfold,hlen⟩
    | true =>
     have hc:((zfm ek ev l3 S4).bind fun r=>(zbq it g t (zfm ek ev) m (i+1) l3 r.2).bind fun z=>some (r.1 :: z.1,z.2))=some (rest,S2):=hc
     obtain ⟨⟨y5,S5⟩,q5,hc⟩:=bnd hc
     obtain ⟨⟨rest',S6⟩,q6,hc⟩:=bnd hc
     cases hc
     obtain ⟨⟨yk,S7⟩,q7,q5⟩:=bnd q5
     obtain ⟨⟨yv,S8⟩,q8,q5⟩:=bnd q5
     cases q5
     obtain ⟨kk,hkk,hfold⟩:=bnd (show (zcp yk).bind (fun kk=>zgm rest' (zb5 acc kk yv))=some fin from hfold)
     refine zef ⟨ρ4,l3,S4,yk,S7,s4,ro3.mono e4,q7,fun ρ5 H5 v5 e5 s5 r5=>⟨ρ5,l3,S7,yv,S8,s5,(ro3.mono e4).mono e5,q8,fun ρ6 H6 v6 e6 s6 r6=>?_⟩⟩
     obtain ⟨hD5,hn5⟩:=e5.out D _ hD4 hn4
     obtain ⟨hD6,hn6⟩:=e6.out D _ hD5 hn5
     have e26:=e2.trans (e3.trans (e4.trans (e5.trans e6)))
     have rd6:=rd2.mono (e3.trans (e4.trans (e5.trans e6)))
     obtain ⟨kb,ek,hkb⟩:=zhw hkk r5
     have hkb6:=e6.tup _ _ hkb
     obtain ⟨ws,hw1,hw2⟩:=zlt (k:=kk) r6 rd6
     have hl:acc.length+rest'.length+1<=sizeLine:=by simpa [Nat.add_assoc] using hlen
     have hpl:=zqn acc kk yv
     refine ⟨_,kk,kb,hD6,ek,hkb6,by rw [zjm rd6];omega,m,Nat.lt_succ_self m,ρ6,l3,S8,zb5 acc kk yv,ws,rest',e26.besideG hD hD6 (zd6 _),s6.besideG hD6 (zd6 _) hn6,?_,by rw [zb7,hw1],hn6,hw2.mono0 (zdg hD6 (zd6 _)),q6,hfold,by omega⟩
     have r0:=((ro3.mono e4).mono e5).mono e6
     exact ⟨r0.len,fun i d h=>let ⟨w,h1,h2⟩:=r0.get i d h;⟨w,h1,h2.mono0 (zdg hD6 (zd6 _))⟩⟩
theorem yay {X:Cx}{tgt iter:Expr}{im:IM}(h:PI3 X tgt iter im):zqa X tgt iter im:=PI.imp h fun σ H R ⟨ρ,l,S,it,k,S',sim,ro,hm,p⟩=>⟨ρ,l,S,it,k,S',sim,ro,hm,fun ρ1 H1 J e1 s1 ok=>p ρ1 H1 J e1 s1 fun i ρ2 S2 H2 e2 s2=>⟨(ok i ρ2 S2 H2 e2 s2).1,fun x hx=>⟨((ok i ρ2 S2 H2 e2 s2).2 x hx).1,fun y H3 hy=>by
 obtain ⟨e,r⟩:=((ok i ρ2 S2 H2 e2 s2).2 x hx).2 y H3 hy
 subst e
 exact ⟨Ext.refl ..,s2,r⟩⟩⟩⟩
theorem yaz (j:Nat) {X:Cx}{rk:Nat}{N':List Str}{elt vx iter tgt:Expr}{ifs:List Expr}{scope:Scope}{pos spos py:Pos}{y:Str}{im:IM}{ixs:List (Option Nat)}{g:GM}{t:TM}{e ev:EM}(hN:X.N.Nodup) (hr:Room rk X.A) (hcalm:X.calm=true) (sc:CompSc X N' scope (za3 ixs))
  (hi:zqa X tgt iter im) (hg:∀C s H fp pins,PG3 (cxC X N' scope C s H fp pins) tgt g) (ht:∀C s H fp pins,PTs (cxC X N' scope C s H fp pins) ifs (tt X.K t)) (he:∀C s H fp pins,PE3 (cxC X N' scope C s H fp pins) elt e) (hv:∀C s H fp pins,PE3 (cxC X N' scope C s H fp pins) vx ev)
  (hi':X.N[j]? = some y:=by rfl) (hx:Loc X.env.scope y:=by first|exact Or.inl rfl|exact Or.inr rfl)
  (hsw:swapsWith (.DictComp elt vx [⟨tgt,iter,ifs,0⟩] scope pos) (some (.Name y py)) spos.line X.env=pure true:=by with_unfolding_all rfl) (hf:X.fn y=true∨X.env.scope.names.lookup y=some .local:=by first|exact .inl rfl|exact .inr rfl|assumption)
  (hs:∀x,foldedSetIterable iter X.env x=pure x:=by intro _;rfl):PS3 X (.Assign [.Name y py] (.DictComp elt vx [⟨tgt,iter,ifs,0⟩] scope pos) spos) (zam (zhx im ixs g t e ev) (zag j)) :=
 PS.imp (yaw (g:=tg X.K g) (tts:=tt X.K t) (t:=te X.K e) (tv:=te X.K ev) hN hi' hx hsw hf hr hcalm sc hi hg ht he hv hs) fun E σ H hx1_=>by
  obtain ⟨ρ,l,S,f,l',S',sim,ro,hm,p⟩:=hx1_
  obtain ⟨⟨x,S1⟩,q1,hm⟩:=bnd hm
  cases hm
  exact yax σ H _ ⟨ρ,l,S,x,S1,sim,ro,q1,fun ρ1 H1 x' e1 s1 r1=>p ρ1 H1 _ e1 s1 ((ro.mono e1).set j r1)⟩
end L3
namespace SP
open PySem PySem.W PyProof.Rows PySem.Calls
section
variable {prog:Program}{w:World}{A:Around}{E:Value->Shared->Prop}{s:Shared}
theorem sorted_pairs {x:Addr}{ps:List Pr}{R0:Value->Pr->Prop}{Q:Value->Shared->Prop}(hR:∀v p,R0 v p->IsP s.heap v p)
  (hc:∀(E:Value->Shared->Prop) (R:List Value->Shared->Prop),(∀h' tk vs,s.heap.objs.size<=h'.objs.size->(∀b o,s.heap.get? b=some o->h'.get? b=some o)->TR R0 vs ps->R vs { s with heap:=h',toks:=tk })->wpAny (model prog w) A.in1 (collect (.ref x)) R E s) (nd:ps.Nodup) (h64:ps.length<64)
  (h:∀h' tk D e out,(∀b o,s.heap.get? b=some o->h'.get? b=some o)->s.heap.objs.size<=D->h'.get? D=some (seqObj "list" out.toArray e)->TR R0 out (sortP ps)->Q (.ref D) { s with heap:=h',toks:=tk }) :
  wpAny (model prog w) A (call (.builtin "sorted") [.ref x]) Q E s:=by
 have fits:∀k,k<64->k<=sizeLine:=fun k hk=>by rw [sizeLine_eq];omega
 refine call_function_entry kind_sorted plain_sorted entry_sorted (args_sorted1 _) ?_
 unfold Builtin.«sorted»
 refine wpAny_bind (m:=checkCount "sorted" 1 1 _) (wpAny_pure (wpAny_bind (hc _ _ fun h' tk vs sz keep t=>?_)))
 have hl:=t.length
 refine wpAny_bind (wpAny_newList ?_ (fits _ (by omega)))
 have hD:(h'.push (seqObj "list" vs.toArray 0)).get? h'.objs.size=some (seqObj "list" vs.toArray 0):=Heap.get?_push_size _ rfl
 have t':Tp (h'.push (seqObj "list" vs.toArray 0)) vs ps:=t.imp fun v p x=>(hR v p x).kept fun b o _ e=>Heap.get?_push_of_some _ (keep b o e)
 refine wpAny_bind (wpAny_holding (wpAny_call_entry slot_list_sort ⟨_,hD,rfl⟩ entry_list_sort (zt8 (s:={ s with heap:=h'.push (seqObj "list" vs.toArray 0),toks:=tk }) hD t' t nd h64 fun out to=>⟨_,rfl,?_⟩) (args_list_sort _)))
 refine wpAny_pure ⟨_,rfl,?_⟩
 obtain ⟨c,hc2⟩:=sortedHeap_at (out:=out.toArray) hD
 refine h _ tk h'.objs.size c out (fun b o e=>?_) sz hc2 to
 have lb:=Heap.lt_size (keep b o e)
 rw [sortedHeap_old (Nat.ne_of_lt lb) (by rw [size_push'];exact Nat.lt_succ_of_lt lb)]
 exact Heap.get?_push_of_some _ (keep b o e)
theorem sorted_pairs_list {x:Addr}{vs:List Value}{ps:List Pr}{R0:Value->Pr->Prop}{Q:Value->Shared->Prop}(hR:∀v p,R0 v p->IsP s.heap v p) (hl:s.heap.IsList x vs.toArray) (t:TR R0 vs ps) (nd:ps.Nodup) (h64:ps.length<64)
  (h:∀h' tk D e out,(∀b o,s.heap.get? b=some o->h'.get? b=some o)->s.heap.objs.size<=D->h'.get? D=some (seqObj "list" out.toArray e)->TR R0 out (sortP ps)->Q (.ref D) { s with heap:=h',toks:=tk }) :
  wpAny (model prog w) A (call (.builtin "sorted") [.ref x]) Q E s:=by
 refine sorted_pairs hR (fun E R hQ=>collect_list hl ?_ (by rw [t.length,sizeLine_eq];omega)) nd h64 h
 refine hQ _ s.toks vs (by rw [Heap.size_update,size_push'];exact Nat.le_succ _) (fun b o e=>?_) t
 have hb:=Nat.ne_of_lt (Heap.lt_size e)
 exact (Heap.get?_update_other _ _ (Ne.symm hb)).trans (Heap.get?_push_of_some _ e)
end
end SP
namespace L3
open PySem PySem.Spec PyProof.Rows L2
noncomputable def dPr:D->Option SP.Pr
 | .tup [.int a,.int b]=>some (a,b)
 | _=>none
noncomputable def pD (p:SP.Pr):D:=.tup [.int p.1,.int p.2]
noncomputable def zhy:List D->Option (List SP.Pr)
 | []=>some []
 | d :: ds=>(dPr d).bind fun p=>(zhy ds).bind fun ps=>some (p :: ps)
theorem ya0 {d:D}{p:SP.Pr}(h:dPr d=some p):d=pD p:=by
 unfold dPr at h
 split at h
 ·cases h;rfl
 ·cases h
theorem zqo:∀{ds:List D}{ps:List SP.Pr},zhy ds=some ps->ds=ps.map pD
 | [],ps,h=>by cases h;rfl
 | d :: ds,ps,h=>by
  obtain ⟨p,h1,h⟩:=bnd h
  obtain ⟨qs,h2,h⟩:=bnd h
  cases h
  rw [List.map_cons,ya0 h1,zqo h2]
noncomputable def VP (H:Hp):List V->List SP.Pr->Prop:=Paired fun v p=>∃b,v=.ref b/\H b=some (.tup [.int p.1,.int p.2])
theorem zqp {ρ:List Addr}{H:Hp}:∀{ps:List SP.Pr}{vs:List V},RDs ρ H (ps.map pD) vs->VP H vs ps
 | [],vs,r=>by cases r;exact .nil
 | p :: ps,vs,r=>by
  cases r with
  | cons r1 r2 =>
   refine .cons ?_ (zqp r2)
   cases r1 with
   | tup hb rs =>
    obtain ⟨x,y,e,q1,q2⟩:=rs.two
    subst e
    cases q1;cases q2
    exact ⟨_,rfl,hb⟩
theorem zl2 {ρ:List Addr}{H:Hp}{ps:List SP.Pr}{vs:List V}(h:VP H vs ps):RDs ρ H (ps.map pD) vs:=by
 induction h with
 | nil=>exact .nil
 | cons q _ ih =>
  obtain ⟨b,rfl,hb⟩:=q
  exact .cons (.tup hb (.cons (.int _) (.cons (.int _) .nil))) ih
noncomputable def RH (H:Hp) (v:Value) (p:SP.Pr):Prop:=∃b,v=.ref b/\H b=some (.tup [.int p.1,.int p.2])
theorem zqq {P:Program}{w:World}{H:Hp}{h:Heap}(ok:HOk P w H h) {v:Value}{p:SP.Pr}(x:RH H v p):SP.IsP h v p:=by
 obtain ⟨b,rfl,hb⟩:=x
 obtain ⟨_,its,rv,o,h1,h2,n,h3⟩:=(show ObjOk P w H h b (.tup _) from ok b _ hb)
 cases rv with
 | cons a1 a2 =>
  cases a2 with
  | cons a3 a4 =>
   cases a4
   obtain ⟨t1,rfl⟩:=a1
   obtain ⟨t2,rfl⟩:=a3
   exact ⟨b,o,t1,t2,n,rfl,h1,h2,h3⟩
theorem ya1 {H:Hp}{vs:List V}{ps:List SP.Pr}(x:VP H vs ps):∀{us:List Value},Vals vs us->SP.TR (RH H) us ps:=by
 induction x with
 | nil=>intro us r;cases r;exact .nil
 | cons q _ ih =>
  intro us r
  cases r with
  | cons r1 r2 =>
   obtain ⟨b,rfl,hb⟩:=q
   cases r1
   exact .cons ⟨b,rfl,hb⟩ (ih r2)
theorem zqr {H:Hp}{us:List Value}{ps:List SP.Pr}(t:SP.TR (RH H) us ps):∃ws,Vals ws us/\VP H ws ps:=by
 induction t with
 | nil=>exact ⟨[],.nil,.nil⟩
 | cons q _ ih =>
  obtain ⟨ws,w1,w2⟩:=ih
  obtain ⟨b,rfl,hb⟩:=q
  exact ⟨.ref b :: ws,.cons rfl w1,.cons ⟨b,rfl,hb⟩ w2⟩
theorem VP.length {H:Hp}{vs:List V}{ps:List SP.Pr}(x:VP H vs ps):vs.length=ps.length:=Paired.length x
noncomputable def zqs (K:PySem.W.Frag):List V->Hp->VK->Prop:=fun xs H Q=>∃(p:Addr) (vs:List V) (ps:List SP.Pr),xs=[.ref p]/\SqL K H p vs/\VP H vs ps/\ps.Nodup/\ps.length<64/\∀l ws,H l=none->VP H ws (SP.sortP ps)->Q (.ref l) (upd H l (.lst ws))
section
variable {X:Cx}
theorem ya2:CallR X (.builtin "sorted") (zqs X.K):=by
 intro pins s σ H xs us Q I r h
 obtain ⟨p,vs,ps,rfl,sq,vp,nd,h64,q⟩:=h
 obtain ⟨u,rfl,ru⟩:=zed r
 cases ru
 obtain ⟨its,rv,pl,hz⟩:=I.list sq
 refine SP.sorted_pairs_list (R0:=RH H) (fun v p x=>zqq I.hok x) pl.isList (ya1 vp rv) nd h64 fun h' tk D e out keep sz hD t=>?_
 obtain ⟨ws,w1,w2⟩:=zqr t
 have hl:ws.length<=sizeLine:=by rw [w2.length,(SP.sortP_perm ps).length_eq,sizeLine_eq];omega
 exact ⟨.ref D,_,I.laid (t':=tk) keep sz (show ObjOk X.prog X.w _ _ _ (.lst ws) from ⟨hl,out,e,w1,hD⟩),rfl,q D ws (I.hok.fresh sz) w2⟩
end
noncomputable def zgn:FM
 | [.ref n],S=>(lstOf S n).bind fun xs=>(zhy xs).bind fun ps=>if ps.Nodup/\ps.length<64 then some (.ref S.length,S++[.lst ((SP.sortP ps).map pD)]) else none
 | _,_=>none
theorem ya3 {K:PySem.W.Frag}:Fn3 K zgn (zqs K):=by
 intro ρ S H xs vs v S' Q sim r h p
 unfold zgn at h
 split at h
 ·obtain ⟨ys,h1,h⟩:=bnd h
  obtain ⟨ps,h2,h⟩:=bnd h
  obtain ⟨hz,e⟩:=zbl h
  cases e
  obtain ⟨w,rfl,rw'⟩:=r.one
  obtain ⟨a,us,ha,sq,rv⟩:=sim.lstOf h1
  cases rw' with
  | ref hn =>
   rw [ha] at hn;cases hn
   rw [zqo h2] at rv
   exact ⟨a,us,ps,rfl,sq,zqp rv,hz.1,hz.2,fun l ws hl hw=>zhf sim (zl2 hw) p l hl⟩
 ·cases h
section
variable {X:Cx}{a:Expr}{es:List Expr}{mA:AM}{pos p:Pos}
theorem ya4 (hg:Gl X "sorted") (hm:X.mg "sorted" = none) (ha:PA3 X (a :: es) mA) (he:starEach (a :: es) X.env=(false,eval a X.env) :: starEach es X.env:=by rfl) (hpl:(backTo pos (starEach es X.env)).any (·.1)=false:=by rfl):PE3 X (.Call (.Name "sorted" p) (a :: es) [] pos) (zaf zgn mA) :=
 zet ya2 ya3 hg hm zqb ha (by decide) (by decide) he hpl
end
end L3
namespace SP
open PySem PySem.W PyProof.Rows PySem.Calls
noncomputable def DAt (h:Heap) (d:Addr) (es:Array DictEntry) (ep:Nat):Prop:=∃o,h.get? d=some o/\o.ExactDict/\o.data=.dict es ep
section
variable {prog:Program}{w:World}{A:Around}{E:Value->Shared->Prop}{s:Shared}{d it:Addr}{es:Array DictEntry}{ep i:Nat}
theorem DAt.keep {h h':Heap}(x:DAt h d es ep) (k:∀o,h.get? d=some o->h'.get? d=some o):DAt h' d es ep:=let ⟨o,e,r⟩:=x;⟨o,k o e,r⟩
theorem DAt.lt {h:Heap}(x:DAt h d es ep):d<h.objs.size:=let ⟨_,e,_⟩:=x;Heap.lt_size e
theorem DAt.ty (x:DAt s.heap d es ep):s.TypeIs (.ref d) "dict":=let ⟨o,e,c,_⟩:=x;⟨o,e,c.1⟩
theorem iterR {Q:Value->Shared->Prop}(hd:(d == sysModules)=false) (x:DAt s.heap d es ep)
  (hQ:Q (.ref s.heap.objs.size) { s with heap:=s.heap.push { cls:=.type "dict_keyiterator",data:=.fields #[.ref d,.int 0 0,.int es.size 0,.int ep 0] } }):wpAny (model prog w) A (pyIter (.ref d)) Q E s:=by
 obtain ⟨o,ho,_,dat⟩:=id x
 refine wpAny_pyIter_slot x.ty PySem.F.slot_dict_iter (wpAny_call_entry PySem.F.slot_dict_iter x.ty PySem.F.entry_dict_iter (show wpAny _ _ (Builtin.«dict.__iter__» _) _ _ _ from ?_) (PySem.F.args_dict_iter_1 _))
 unfold Builtin.«dict.__iter__» Builtin.Dict.dictSlotNone
 refine wpAny_bind (wpAny_bind (wpAny_notOrdered_dict x.ty (show wpAny _ _ (pure (Value.ref d)) _ _ s from wpAny_pure ?_)))
 show wpAny _ _ (Builtin.Dict.showsAll d >>= _) _ _ s
 unfold Builtin.Dict.showsAll
 rw [hd,if_neg Bool.false_ne_true]
 refine wpAny_bind (wpAny_pure (wpAny_bind (wpAny_dictEntries ho dat (wpAny_bind (wpAny_dictEpoch ho dat ?_)))))
 refine wpAny_bind (wpAny_newObj_type (wpAny_pure ⟨_,rfl,"dict_keyiterator",_,⟨_,Heap.get?_push_size _ rfl,rfl⟩,PySem.F.slot_dict_keyiterator_next.lookup,by simpa [rawInt] using hQ⟩))
theorem nextR {Q:Option Value->Shared->Prop}(hit:s.heap.IsKeyIter it d i es.size ep) (x:DAt s.heap d es ep) (hi:i<es.size)
  (hQ:∀h',h'.IsKeyIter it d (i+1) es.size ep->Heap.SameBut it s.heap h'->Q (some es[i].key) { s with heap:=h' }):wpAny (model prog w) A (pyNext (.ref it)) Q E s:=by
 obtain ⟨o,ho,hc,hd⟩:=id hit
 obtain ⟨od,hod,_,hdd⟩:=id x
 have hown:Builtin.Dict_items.ownsTuple "dict_keyiterator" = false:=by decide
 unfold pyNext
 refine wpAny_bind (wpAny_attempt (wpAny_callSpecial?_slot (name:=Str.ofString "__next__") hit.typeIs PySem.F.slot_dict_keyiterator_next (wpAny_call_entry PySem.F.slot_dict_keyiterator_next hit.typeIs PySem.F.entry_dict_keyiterator_next ?_ (PySem.F.args_dict_keyiterator_next_1 _))))
 refine wpAny_bind (wpAny_pure (wpAny_bind (wpAny_bind ?_)))
 first|refine wpAny_bind (wpAny_typeNameOfWhole_keyiter hit.typeIs (wpAny_pure (wpAny_bind (wpAny_fieldsOf ho hd ?_))))|refine wpAny_bind (wpAny_typeNameOf_keyiter hit.typeIs (wpAny_pure (wpAny_bind (wpAny_fieldsOf ho hd ?_))))
 simp only [hown,Bool.false_eq_true,if_false]
 show wpAny _ _ (if (Value.ref d == Value.none)=true then _ else _) _ _ s
 rw [if_neg (show ¬((Value.ref d == Value.none)=true) from Bool.false_ne_true)]
 refine wpAny_bind (wpAny_pure (wpAny_bind (wpAny_dictEntries hod hdd ?_)))
 rw [if_neg (by simp)]
 refine wpAny_bind (wpAny_pure (wpAny_bind (wpAny_dictEpoch hod hdd ?_)))
 rw [if_neg (by simp)]
 refine wpAny_pure ?_
 simp only [show ¬((i:Int)<0) from by omega,if_false,Int.toNat_natCast,Array.getElem?_eq_getElem hi]
 refine wpAny_bind ?_
 first|refine wpAny_bind (wpAny_typeNameOfWhole_keyiter hit.typeIs (wpAny_pure (wpAny_bind (wpAny_isOneOf_keyiter hit.typeIs ?_))))|refine wpAny_bind (wpAny_typeNameOf_keyiter hit.typeIs (wpAny_pure (wpAny_bind (wpAny_isOneOf_keyiter hit.typeIs ?_))))
 show wpAny _ _ (setField (.ref it) 1 (rawInt ((i:Int)+1)) >>= _) _ _ s
 have on:(s.heap.update it (Obj.mapFields (·.setIfInBounds 1 (rawInt ((i:Int)+1))))).IsKeyIter it d (i+1) es.size ep:=⟨_,Heap.get?_update_self _ ho (Obj.isFreed_of_fields (Obj.data_mapFields hd _)),(Obj.cls_mapFields ..).trans hc,by rw [Obj.data_mapFields hd];simp [rawInt]⟩
 refine wpAny_bind (wpAny_setField ho hd (by simp) (wpAny_bind (wpAny_holding (wpAny_bind (wpAny_isOneOf_keyiter (s:={ s with heap:=s.heap.update it (Obj.mapFields (·.setIfInBounds 1 (rawInt ((i:Int)+1)))) }) on.typeIs ?_)))))
 show wpAny _ _ (pure es[i].key) _ _ _
 exact wpAny_pure (wpAny_pure ⟨_,rfl,wpAny_pure (hQ _ on (Heap.SameBut.update ..))⟩)
theorem endR {Q:Option Value->Shared->Prop}(hh:A.handled=none) (hit:s.heap.IsKeyIter it d i es.size ep) (x:DAt s.heap d es ep) (hi:es.size<=i)
  (hQ:∀h',Heap.ExtBut it s.heap h'->Q none { s with heap:=h' }):wpAny (model prog w) A (pyNext (.ref it)) Q E s:=by
 obtain ⟨o,ho,hc,hd⟩:=id hit
 obtain ⟨od,hod,_,hdd⟩:=id x
 have hown:Builtin.Dict_items.ownsTuple "dict_keyiterator" = false:=by decide
 unfold pyNext
 refine wpAny_bind (wpAny_attempt (wpAny_callSpecial?_slot (name:=Str.ofString "__next__") hit.typeIs PySem.F.slot_dict_keyiterator_next (wpAny_call_entry PySem.F.slot_dict_keyiterator_next hit.typeIs PySem.F.entry_dict_keyiterator_next ?_ (PySem.F.args_dict_keyiterator_next_1 _))))
 refine wpAny_bind (wpAny_pure (wpAny_bind (wpAny_bind ?_)))
 first|refine wpAny_bind (wpAny_typeNameOfWhole_keyiter hit.typeIs (wpAny_pure (wpAny_bind (wpAny_fieldsOf ho hd ?_))))|refine wpAny_bind (wpAny_typeNameOf_keyiter hit.typeIs (wpAny_pure (wpAny_bind (wpAny_fieldsOf ho hd ?_))))
 simp only [hown,Bool.false_eq_true,if_false]
 show wpAny _ _ (if (Value.ref d == Value.none)=true then _ else _) _ _ s
 rw [if_neg (show ¬((Value.ref d == Value.none)=true) from Bool.false_ne_true)]
 refine wpAny_bind (wpAny_pure (wpAny_bind (wpAny_dictEntries hod hdd ?_)))
 rw [if_neg (by simp)]
 refine wpAny_bind (wpAny_pure (wpAny_bind (wpAny_dictEpoch hod hdd ?_)))
 rw [if_neg (by simp)]
 refine wpAny_pure ?_
 simp only [show ¬((i:Int)<0) from by omega,if_false,Int.toNat_natCast,Array.getElem?_eq_none hi]
 refine wpAny_bind ?_
 first|refine wpAny_bind (wpAny_typeNameOfWhole_keyiter hit.typeIs (wpAny_pure (show wpAny _ _ (setField (.ref it) 0 .none >>= _) _ _ s from ?_)))|refine wpAny_bind (wpAny_typeNameOf_keyiter hit.typeIs (wpAny_pure (show wpAny _ _ (setField (.ref it) 0 .none >>= _) _ _ s from ?_)))
 refine wpAny_bind (wpAny_setField ho hd (by simp) (show wpAny _ _ (newExc (.type "StopIteration") [] >>= _) _ _ _ from wpAny_bind ?_))
 simp only [newExc,newTuple]
 refine wpAny_bind (wpAny_newObj_type (wpAny_bind (m:=firstArgMember _ _) (wpAny_of_eq (a:=Value.none) (by first|rfl|(simp only [firstArgMember];rfl)) (wpAny_newObj_type ?_ (by size_fits)))) (by size_fits))
 simp only [raiseNew]
 refine wpAny_bind (wpAny_handled ?_)
 rw [show A.in1.handled=none from hh]
 refine wpAny_bind (wpAny_pure (wpAny_throw ?_))
 refine wpAny_bind (wpAny_isInstance (T:="StopIteration") (b:=true) ⟨_,Heap.get?_push_size _ rfl,rfl⟩ isSubtype_stop ?_)
 exact wpAny_pure (hQ _ (((Heap.SameBut.update ..).extBut.push _).push _))
theorem ya5 (hh:A.handled=none) (I d:Addr) (hne:d≠I) (es:Array DictEntry) (ep:Nat) :
  Walks prog w A I [I,d] [I] es.size (fun i v=>es[i]?.map (·.key)=some v) (fun i h=>h.IsKeyIter I d i es.size ep/\DAt h d es ep) where
 sub:=fun b hb=>by simp at hb;simp [hb]
 frame:=fun _ _ _ st hk=>⟨st.1.at fun o e=>hk I (by simp) o e,st.2.keep fun o e=>hk d (by simp) o e⟩
 item:=fun i s Q E hi st hQ=>nextR st.1 st.2 hi fun h' hit' hs'=>hQ _ h' s.toks (by simp [hi]) ⟨hit',st.2.keep fun o e=>hs'.extBut d o hne e⟩ fun b o hb e=>hs'.extBut b o (fun h=>hb (by simp [h])) e
 done:=fun s Q E st hQ=>endR hh st.1 st.2 (Nat.le_refl _) fun h' he'=>hQ h' s.toks fun b o hb e=>he' b o (fun h=>hb (by simp [h])) e
 self:=fun _ _ _ _ st hQ=>wpAny_pyIter_keyiter st.1 hQ
theorem ya6 (lo:(d == sysModules)=false):KdlSrc prog w "dict" d d es.size (fun i v=>es[i]?.map (·.key)=some v) (fun h=>DAt h d es ep) where
 type:=fun _ hm=>hm.ty
 there:=fun _ hm=>⟨hm.lt,hm.lt⟩
 keep:=fun _ _ hm hk=>hm.keep fun o e=>hk d (.inl rfl) o e
 notList:=by decide
 notTuple:=by decide
 hint:=fun _ _ _ _ hm hq=>kdl_hint_dict hm.ty hq
 iter:=fun _ _ hh hm=>⟨_,_,(fun _ _ hq=>iterR lo hm hq),ya5 hh _ d (Nat.ne_of_lt hm.lt) es ep,⟨⟨_,Heap.get?_push_size _ rfl,rfl,rfl⟩,hm.keep fun o e=>Heap.get?_push_of_some _ e⟩⟩
theorem collectR {R:List Value->Shared->Prop}(lo:(d == sysModules)=false) (hh:A.handled=none) (x:DAt s.heap d es ep) (hn:es.size<=sizeLine)
  (h:∀(h':Heap) (tk:Nat),s.heap.objs.size<=h'.objs.size->(∀b o,s.heap.get? b=some o->h'.get? b=some o)->R (es.toList.map (·.key)) { s with heap:=h',toks:=tk }):wpAny (model prog w) A (collect (.ref d)) R E s:=by
 have K:=ya6 (prog:=prog) (w:=w) (es:=es) (ep:=ep) lo
 have hS₁:(s.heap.push { cls:=.type "list",data:=.seq ([]:List Value).toArray }).get? s.heap.objs.size=some { cls:=.type "list",data:=.seq #[] }:=Heap.get?_push_size _ rfl
 have zfb:∀(h':Heap) (tk:Nat) (acc:Array Value) (c:Nat),(∀b o,s.heap.get? b=some o->h'.get? b=some o)->h'.get? s.heap.objs.size=some { cls:=.type "list",dict:=none,data:=.seq acc c,slots:=#[] }->ItemsOf (fun i v=>es[i]?.map (·.key)=some v) acc es.size->R acc.toList { s with heap:=h',toks:=tk }:=fun h' tk acc c k g a=>by
  have e:acc.toList=es.toList.map (·.key):=by
   apply List.ext_getElem?
   intro j
   rw [List.getElem?_map,Array.getElem?_toList,Array.getElem?_toList]
   rcases Nat.lt_or_ge j acc.size with hj|hj
   ·rw [Array.getElem?_eq_getElem hj]
    exact (a.2 j _ (Array.getElem?_eq_getElem hj)).symm
   ·rw [Array.getElem?_eq_none hj,Array.getElem?_eq_none (by rw [←a.1];exact hj)];rfl
  rw [e]
  exact h h' tk (Nat.le_of_lt (Heap.lt_size g)) k
 unfold collect
 refine wpAny_bind (wpAny_runValue (codeAny_builtin entry_proto_collect' ?_))
 rw [Around.under_plainId PySem.F.plain_proto_collect _]
 refine wpAny_bind (m:=newList []) (wpAny_newObj_type (wpAny_pure ⟨plainId_quiet PySem.F.plain_list_iadd _,codeAny_builtin entry_list_iadd' ?_⟩))
 rw [Around.under_plainId PySem.F.plain_list_iadd _]
 have key:=kdl_extend (A:=A) (s:={ s with heap:=s.heap.push { cls:=.type "list",data:=.seq ([]:List Value).toArray } }) (R:=fun (q:Result) (s':Shared)=>∃(h':Heap) (tk:Nat) (acc:Array Value) (c:Nat),q=.ok (.ret (.ref s.heap.objs.size))/\s' = { s with heap:=h',toks:=tk }/\(∀b o,s.heap.get? b=some o->h'.get? b=some o)/\h'.get? s.heap.objs.size=some { cls:=.type "list",dict:=none,data:=.seq acc c,slots:=#[] }/\ItemsOf (fun i v=>es[i]?.map (·.key)=some v) acc es.size)
  K hh (K.keep _ _ x fun b _ o e=>Heap.get?_push_of_some _ e) s.heap.objs.size (Nat.ne_of_gt x.lt) (Nat.ne_of_gt x.lt) (.ref s.heap.objs.size) 0 hS₁
  (fun h' tk acc c hk hS' hacc=>⟨h',tk,acc,c,rfl,rfl,fun b o e=>hk b o (Nat.ne_of_lt (Heap.lt_size e)) (Heap.get?_push_of_some _ e),hS',hacc⟩) hn
 refine wpAny_mono key (fun fin s' z=>?_) fun e s' z=>let ⟨_,_,_,_,e',_⟩:=z;(by cases e')
 cases fin with
 | done f =>
  obtain ⟨h',tk,acc,c,e,rfl,k,g,a⟩:=z
  cases e
  show wpAny _ A (load s.heap.objs.size >>= _) _ _ _
  exact wpAny_bind (wpAny_load g (wpAny_pure (zfb h' tk acc c k g a)))
 | again c₁ =>
  refine ⟨z.1,codeAny_mono z.2 fun q s₂ y=>?_⟩
  obtain ⟨h',tk,acc,c,rfl,rfl,k,g,a⟩:=y
  show wpAny _ A (load s.heap.objs.size >>= _) _ _ _
  exact wpAny_bind (wpAny_load g (wpAny_pure (zfb h' tk acc c k g a)))
end
end SP
namespace L3
open PySem PySem.Spec PyProof.Rows L2
theorem ya7 {H:Hp}{kvs:List (List Key × V)}{xs:List (List Key × Addr × Value)}(r:KT H kvs xs):∀{i:Nat}{p:List Key × V},kvs[i]? = some p->∃q,xs[i]? = some q/\p.1=q.1/\H q.2.1=some (.tup (p.1.map kV)):=by
 induction r with
 | nil=>intro i p h;simp at h
 | cons hq _ ih =>
  intro i p h
  cases i with
  | zero=>simp at h;subst h;exact ⟨_,rfl,hq.1,hq.2.1⟩
  | succ j=>obtain ⟨q,h1,h2⟩:=ih (i:=j) (by simpa using h);exact ⟨q,by simpa using h1,h2⟩
theorem zl3 {P:Program}{w:World}{H:Hp}{h:Heap}{a:Addr}{kvs:List (List Key × V)}(ok:HOk P w H h) (e:Rd H a (.dT kvs)):kvs.length<=sizeLine/\(a == sysModules)=false/\(kvs.map (·.1)).Nodup /\
  ∃(es:Array DictEntry) (ep:Nat),SP.DAt h a es ep/\es.size=kvs.length/\∀(i:Nat) (p:List Key × V),kvs[i]? = some p->∃b,(es[i]?.map (·.key))=some (Value.ref b)/\H b=some (.tup (p.1.map kV)):=by
 obtain ⟨z,hs,xs,r,o,es,ep,h1,h2,h3,h4,_,h6⟩:=zf2 ok e
 have hk:kvs.map (·.1)=xs.map (·.1):=by
  have all:∀{l:List (List Key × V)} {m:List (List Key × Addr × Value)},KT H l m->l.map (·.1)=m.map (·.1):=by
   intro l m q
   induction q with
   | nil=>rfl
   | cons hq _ ih=>rw [List.map_cons,List.map_cons,hq.1,ih]
  exact all r
 refine ⟨z,hs,by rw [hk];exact h6,es,ep,⟨o,h1,h2,h3⟩,by rw [size_of_entries h4,Paired.length r],fun i p hp=>?_⟩
 obtain ⟨q,q1,_,q3⟩:=ya7 r hp
 exact ⟨q.2.1,by rw [entry_at h4,q1];rfl,q3⟩
noncomputable def zl4 (o:Obj) (a:Addr) (kvs:List (List Key × V)):It:=⟨fun i H=>H a=some (.frz o (.dT kvs))/\i<kvs.length,fun i H x H'=>H' = H/\∃p b,kvs[i]? = some p/\x=.ref b/\H b=some (.tup (p.1.map kV)),fun i H=>H a=some (.frz o (.dT kvs))/\kvs.length<=i⟩
theorem zqt {X:Cx}{pins:List (Addr × Obj)}{σ:St}{H:Hp}{s:Shared}{a:Addr}{o:Obj}{kvs:List (List Key × V)}{es:Array DictEntry}{ep:Nat}(hd:o.data=.dict es ep) (I:Inv X pins σ H s) (h:H a=some (.frz o (.dT kvs))) :
  SP.DAt s.heap a es ep/\es.size=kvs.length/\∀(i:Nat) (p:List Key × V),kvs[i]? = some p->∃b,(es[i]?.map (·.key))=some (Value.ref b)/\H b=some (.tup (p.1.map kV)):=by
 obtain ⟨_,_,_,es',ep',⟨o',g1,g2,g3⟩,q2,q3⟩:=zl3 I.hok (.inr ⟨o,h⟩)
 have g0:s.heap.get? a=some o:=(show s.heap.get? a=some o/\_ from I.hok a _ h).1
 rw [g0] at g1;cases g1
 rw [hd] at g3;cases g3
 exact ⟨⟨o,g0,g2,hd⟩,q2,q3⟩
theorem ya8 {P:Program}{w:World}{K:PySem.W.Frag}{tg:Expr}(a it:Addr) (o:Obj) (es:Array DictEntry) (ep:Nat) (hd:o.data=.dict es ep) (kvs:List (List Key × V)):Turn P w K tg (zl4 o a kvs) [it] it (fun i h=>h.IsKeyIter it a i es.size ep) where
 mem:=by simp
 obj:=fun i h st b hb=>by
  have e:b=it:=by simpa using hb
  subst e
  obtain ⟨o,e,c,d⟩:=st
  exact ⟨o,e,fun v z=>by rw [d] at z;cases z⟩
 keep:=fun i h h' st k=>st.at fun o e=>k it (by simp) o e
 item:=by
  intro X hP hw hK hc i pins s σ H E I hf st hg
  subst hP hw hK
  obtain ⟨hH,hi⟩:=hg
  obtain ⟨da,hl,hk⟩:=zqt hd I hH
  obtain ⟨p,hp⟩:∃p,kvs[i]? = some p:=⟨_,List.getElem?_eq_getElem hi⟩
  obtain ⟨b,hb,hHb⟩:=hk i p hp
  have hi':i<es.size:=by omega
  have ek:es[i].key=.ref b:=by rw [Array.getElem?_eq_getElem hi'] at hb;exact Option.some.inj hb
  obtain ⟨f0,f1,f2,f3,f4,f5⟩:=hf it (by simp)
  refine SP.nextR st da hi' fun h' st' sb=>?_
  rw [ek]
  have I1:Inv X pins σ H { s with heap:=h' }:=I.turned (t':=s.toks) (fun b o hb e=>(sb.2 b hb).trans e) f0 f1 f3 f4 f5
  obtain ⟨o',e,c,d⟩:=id st'
  exact ⟨.ref b,rfl,zij (s:={ s with heap:=h' }) e c d (by decide) ⟨.ref b,H,I1,rfl,⟨rfl,p,b,hp,rfl,hHb⟩,st',fun b hb=>(hf b hb).1⟩⟩
 done:=by
  intro X hP hw hK hc i pins s σ H E I hf st hg
  subst hP hw hK
  obtain ⟨hH,hi⟩:=hg
  obtain ⟨da,hl,hk⟩:=zqt hd I hH
  obtain ⟨f0,f1,f2,f3,f4,f5⟩:=hf it (by simp)
  exact SP.endR (I.ok.hd hc) st da (by omega) fun h' eb=>⟨rfl,I.turned (t':=s.toks) (fun b o hb e=>eb b o hb e) f0 f1 f3 f4 f5⟩
 self:=fun A i s Q E st h=>wpAny_pyIter_keyiter st h
section
variable {X:Cx}{tg:Expr}
theorem ya9 {l:Expr}{tl:TE}(hl:PE X l tl):PI X tg l (fun σ H R=>tl σ H fun x H1=>∃a kvs,x=.ref a/\H1 a=some (.dT kvs)/\∀o,R (zl4 o a kvs) (upd H1 a (.frz o (.dT kvs)))):=by
 intro pins s σ H R I h
 refine thn (hl pins s σ H _ I h) fun v s1 ⟨x,H1,I1,r1,q1⟩=>?_
 obtain ⟨a,kvs,e,hH,q⟩:=q1
 subst e
 cases r1
 obtain ⟨z,hs,_,es,ep,⟨o,ho,hx,hd⟩,hsz,hk⟩:=zl3 I1.hok (.inl hH)
 refine SP.iterR hs ⟨o,ho,hx,hd⟩ ?_
 have old:=(show ObjOk X.prog X.w H1 s1.heap a (.dT kvs) from I1.hok a _ hH)
 obtain ⟨z1,z2,xs,rel,od,es',ep',g1,g2,g3,g4,g5⟩:=old
 have I2:Inv X pins σ (upd H1 a (.frz o (.dT kvs))) s1:=I1.write (x:=a) (e:=a) (h':=s1.heap) (t':=s1.toks) (by rw [hH];exact True.intro) (.inl rfl) (fun b u _ e=>e) ⟨o,ho⟩ ⟨ho,z1,z2,xs,KT.keeps rel fun c ys ec=>by rw [zas (zcw ec hH (fun z=>nomatch z))];exact ec,od,es',ep',g1,g2,g3,g4,g5⟩
 refine ⟨s1.heap.objs.size,[s1.heap.objs.size],_,_,_,rfl,I2.kept (t':=s1.toks) fun b o e=>Heap.get?_push_of_some _ e,ya8 a _ o es ep hd kvs,⟨_,Heap.get?_push_size _ rfl,rfl,rfl⟩,fun b hb=>?_,q o⟩
 have e:b=s1.heap.objs.size:=by simpa using hb
 subst e
 exact I1.fpOk (Nat.le_refl _) (I2.hok.fresh (Nat.le_refl _))
end
noncomputable def tD (k:List Key):D:=.tup (k.map kD)
theorem zqu {ρ:List Addr}{H:Hp}:∀ks:List Key,RDs ρ H (ks.map kD) (ks.map kV)
 | []=>.nil
 | k :: ks=>.cons (zz2 k) (zqu ks)
noncomputable def zhz (m:EM):IM:=fun l S=>(m l S).bind fun p=>match p.1 with
 | .ref n=>match p.2[n]? with
  | some (.tdct kvs)=>some (itX (kvs.map fun q=>tD q.1),kvs.length+1,p.2.set n (.ftdct kvs))
  | _=>none
 | _=>none
theorem yba {K:PySem.W.Frag}{ρ:List Addr}{H:Hp}{a:Addr}{o:Obj}{kvs:List (List Key × D)}{vs:List V}(r:RDs ρ H (kvs.map (·.2)) vs) (h:H a=some (.frz o (.dT ((kvs.map (·.1)).zip vs)))):zhk K ρ H (itX (kvs.map fun q=>tD q.1)) (zl4 o a ((kvs.map (·.1)).zip vs)):=by
 intro i ρ' S' H' e s
 have hf:=e.frz _ _ _ h
 have hl:=zjm r
 refine ⟨fun h=>?_,fun x h=>?_⟩
 ·have h:(kvs.map fun q=>tD q.1)[i]? = none:=Option.some.inj h
  have:=List.getElem?_eq_none_iff.mp h
  rw [List.length_map] at this
  exact ⟨hf,by omega⟩
 ·have h:(kvs.map fun q=>tD q.1)[i]? = some x:=Option.some.inj h
  have hi:=(List.getElem?_eq_some_iff.mp h).1
  rw [List.length_map] at hi
  refine ⟨⟨hf,by omega⟩,fun y H'' ⟨e1,p,b,hp,e2,hb⟩=>⟨e1,?_⟩⟩
  subst e2
  rw [List.getElem?_map,List.getElem?_eq_getElem hi] at h
  cases h
  have:p.1=kvs[i].1:=by
   obtain ⟨h1,h2⟩:=List.getElem?_eq_some_iff.mp hp
   rw [←h2]
   simp
  show RD ρ' H' (tD kvs[i].1) _
  rw [←this]
  exact .tup hb (zqu _)
section
variable {X:Cx}{tgt iter:Expr}{m:EM}
theorem ybb (hi:PE3 X iter m):PI3 X tgt iter (zhz m):=PI.imp (ya9 hi) fun σ H R hx1_=>by
 obtain ⟨ρ,l,S,it,k,S',sim,ro,hm,p⟩:=hx1_
 obtain ⟨⟨x,S1⟩,q1,hm⟩:=bnd hm
 dsimp only at hm
 split at hm
 ·rename_i n
  split at hm
  ·rename_i kvs hx
   cases hm
   refine ⟨ρ,l,S,.ref n,_,sim,ro,q1,fun ρ1 H1 x' e1 s1 r1=>?_⟩
   cases r1 with
   | @ref _ a hn =>
    obtain ⟨vs,hH,r⟩:=s1.at' _ a _ hn hx
    refine ⟨a,_,rfl,hH,fun o=>?_⟩
    have ex:=zf4 (o:=.frz o (.dT ((kvs.map (·.1)).zip vs))) hn hH (zd6 _)
    exact p ρ1 _ _ (e1.trans ex) (s1.setG hn hx rfl hH (zd6 _) ⟨o,vs,zb7,r.mono ex⟩) (yba (r.mono ex) zb7)
  ·cases hm
 ·cases hm
end
noncomputable def kPr:List Key->Option SP.Pr
 | [.inl a,.inl b]=>some (a,b)
 | _=>none
noncomputable def kP (p:SP.Pr):List Key:=[.inl p.1,.inl p.2]
noncomputable def zgo:List (List Key)->Option (List SP.Pr)
 | []=>some []
 | d :: ds=>(kPr d).bind fun p=>(zgo ds).bind fun ps=>some (p :: ps)
theorem ybc {d:List Key}{p:SP.Pr}(h:kPr d=some p):d=kP p:=by
 unfold kPr at h
 split at h
 ·cases h;rfl
 ·cases h
theorem zl5:∀{ds:List (List Key)}{ps:List SP.Pr},zgo ds=some ps->ds=ps.map kP
 | [],ps,h=>by cases h;rfl
 | d :: ds,ps,h=>by
  obtain ⟨p,h1,h⟩:=bnd h
  obtain ⟨qs,h2,h⟩:=bnd h
  cases h
  rw [List.map_cons,ybc h1,zl5 h2]
noncomputable def zqv (K:PySem.W.Frag):List V->Hp->VK->Prop:=fun xs H Q=>∃(a:Addr) (kvs:List (List Key × V)) (ps:List SP.Pr),xs=[.ref a]/\Rd H a (.dT kvs)/\kvs.map (·.1)=ps.map kP/\ps.length<64/\∀l ws,H l=none->VP H ws (SP.sortP ps)->Q (.ref l) (upd H l (.lst ws))
theorem zqw {H:Hp}:∀{ps:List SP.Pr}{us:List Value},us.length=ps.length->(∀(i:Nat) (p:SP.Pr),ps[i]? = some p->∃b,us[i]? = some (Value.ref b)/\H b=some (.tup [.int p.1,.int p.2]))->SP.TR (RH H) us ps
 | [],[],_,_=>.nil
 | [],_ :: _,e,_=>by simp at e
 | _ :: _,[],e,_=>by simp at e
 | p :: ps,u :: us,e,f=>by
  obtain ⟨b,h1,h2⟩:=f 0 p rfl
  cases (show u=.ref b by simpa using h1)
  exact .cons ⟨b,rfl,h2⟩ (zqw (by simpa using e) fun i q hq=>by simpa using f (i+1) q (by simpa using hq))
section
variable {X:Cx}
theorem ybd (hcalm:X.calm=true):CallR X (.builtin "sorted") (zqv X.K):=by
 intro pins s σ H xs us Q I r h
 obtain ⟨a,kvs,ps,rfl,hH,ek,h64,q⟩:=h
 obtain ⟨u,rfl,ru⟩:=zed r
 cases ru
 obtain ⟨z,hs,nd,es,ep,da,hsz,hk⟩:=zl3 I.hok hH
 have hl:kvs.length=ps.length:=by have:=congrArg List.length ek;simpa using this
 have nd':ps.Nodup:=by
  rw [ek] at nd
  exact (List.pairwise_map.mp nd).imp fun h e=>h (by rw [e])
 refine SP.sorted_pairs (R0:=RH H) (fun v p x=>zqq I.hok x) (fun E R hR=>SP.collectR hs (I.ok.hd hcalm) da (by omega) fun h' tk sz keep=>hR h' tk _ sz keep (zqw (by simp [hsz,hl]) fun i p hp=>?_)) nd' h64 fun h' tk D e out keep sz hD t=>?_
 ·have hi:i<ps.length:=(List.getElem?_eq_some_iff.mp hp).1
  obtain ⟨kv,hkv⟩:∃kv,kvs[i]? = some kv:=⟨_,List.getElem?_eq_getElem (by omega)⟩
  obtain ⟨b,hb,hHb⟩:=hk i kv hkv
  refine ⟨b,?_,?_⟩
  ·rw [List.getElem?_map,Array.getElem?_toList];exact hb
  ·have e1:(kvs.map (·.1))[i]? = some kv.1:=by rw [List.getElem?_map,hkv];rfl
   rw [ek,List.getElem?_map,hp] at e1
   have e1:kP p=kv.1:=Option.some.inj e1
   rw [←e1] at hHb
   exact hHb
 ·obtain ⟨ws,w1,w2⟩:=zqr t
  have hl:ws.length<=sizeLine:=by rw [w2.length,(SP.sortP_perm ps).length_eq,sizeLine_eq];omega
  exact ⟨.ref D,_,I.laid (t':=tk) keep sz (show ObjOk X.prog X.w _ _ _ (.lst ws) from ⟨hl,out,e,w1,hD⟩),rfl,q D ws (I.hok.fresh sz) w2⟩
end
noncomputable def zh0:FM
 | [.ref n],S=>match S[n]? with
  | some (.tdct kvs)=>(zgo (kvs.map (·.1))).bind fun ps=>if ps.length<64 then some (.ref S.length,S++[.lst ((SP.sortP ps).map pD)]) else none
  | some (.ftdct kvs)=>(zgo (kvs.map (·.1))).bind fun ps=>if ps.length<64 then some (.ref S.length,S++[.lst ((SP.sortP ps).map pD)]) else none
  | _=>none
 | _,_=>none
theorem zqx {ρ:List Addr}{H:Hp}{kvs:List (List Key × D)}{vs:List V}(r:RDs ρ H (kvs.map (·.2)) vs):((kvs.map (·.1)).zip vs).map (·.1)=kvs.map (·.1):=by
 rw [List.map_fst_zip]
 have:=r.length
 rw [List.length_map] at this ⊢
 omega
theorem ybe {K:PySem.W.Frag}:Fn3 K zh0 (zqv K):=by
 intro ρ S H xs vs v S' Q sim r h p
 unfold zh0 at h
 split at h
 ·rename_i n
  obtain ⟨w,rfl,rw'⟩:=r.one
  cases rw' with
  | @ref _ a hn =>
   split at h
   ·rename_i kvs e
    obtain ⟨ps,h2,h⟩:=bnd h
    obtain ⟨hz,e2⟩:=zbl h
    cases e2
    obtain ⟨us,hH,rr⟩:=sim.at' _ a _ hn e
    exact ⟨a,_,ps,rfl,.inl hH,by rw [zqx rr];exact zl5 h2,hz,fun l ws hl hw=>zhf sim (zl2 hw) p l hl⟩
   ·rename_i kvs e
    obtain ⟨ps,h2,h⟩:=bnd h
    obtain ⟨hz,e2⟩:=zbl h
    cases e2
    obtain ⟨o,us,hH,rr⟩:=sim.at' _ a _ hn e
    exact ⟨a,_,ps,rfl,.inr ⟨o,hH⟩,by rw [zqx rr];exact zl5 h2,hz,fun l ws hl hw=>zhf sim (zl2 hw) p l hl⟩
   ·cases h
 ·cases h
section
variable {X:Cx}{a:Expr}{es:List Expr}{mA:AM}{pos p:Pos}
theorem ybf (hcalm:X.calm=true) (hg:Gl X "sorted") (hm:X.mg "sorted" = none) (ha:PA3 X (a :: es) mA) (he:starEach (a :: es) X.env=(false,eval a X.env) :: starEach es X.env:=by rfl) (hpl:(backTo pos (starEach es X.env)).any (·.1)=false:=by rfl):PE3 X (.Call (.Name "sorted" p) (a :: es) [] pos) (zaf zh0 mA) :=
 zet (ybd hcalm) ybe hg hm zqb ha (by decide) (by decide) he hpl
end
end L3
namespace L3
open PySem PySem.Spec PyProof.Rows L2
theorem ybg {α:Type}{c:Prop} [Decidable c] {x:Option α}{y:α}(h:(if c then x else none)=some y):c/\x=some y:=by
 by_cases e:c
 ·rw [if_pos e] at h;exact ⟨e,h⟩
 ·rw [if_neg e] at h;cases h
noncomputable def tL (m:EM):TM:=fun l S=>(m l S).bind fun p=>match p.1 with
 | .ref n=>(lstOf p.2 n).bind fun xs=>some (!xs.isEmpty,p.2)
 | _=>none
section
variable {X:Cx}{a:Expr}
theorem ybh {m:EM}(h:PE3 X a m) (he:∀whole,isTrue a X.env whole=(do let v ←whole;standAt a.pos;holding [v] (truthy v)):=by intro _;rfl):PT3 X a (tL m) :=
 PT.imp (zwn h he) fun σ H Q hx1_=>by
  obtain ⟨ρ,l,S,b,S',sim,ro,hm,p⟩:=hx1_
  obtain ⟨⟨x,S1⟩,h1,hm⟩:=bnd hm
  dsimp only at hm
  split at hm
  ·rename_i n
   obtain ⟨xs,h2,hm⟩:=bnd hm
   cases hm
   refine ⟨ρ,l,S,.ref n,_,sim,ro,h1,fun ρ1 H1 v' e1 s1 r1=>?_⟩
   obtain ⟨c,us,hc,sq,rv⟩:=s1.lstOf h2
   cases r1 with
   | ref hn =>
    rw [hc] at hn;cases hn
    have eb:(!xs.isEmpty) = !us.isEmpty:=by cases rv <;> rfl
    exact ⟨!xs.isEmpty,.inl ⟨us,sq,eb⟩,p ρ1 H1 e1 s1⟩
  ·cases hm
end
noncomputable def zh1:FM
 | [.tup [.int i,.int j]],S=>some (.int (if j<i then j else i),S)
 | _,_=>none
noncomputable def zh2:FM
 | [.tup [.int i,.int j]],S=>some (.int (if j > i then j else i),S)
 | _,_=>none
section
variable {prog:Program}{w:World}{A:Around}{E:Value->Shared->Prop}{s:Shared}{c:Addr}{i j:Int}{t u:Tok}
theorem zqy {Q:Value->Shared->Prop}(hT:s.heap.IsTuple c (intItems #[(i,t),(j,u)])) (h:Q (.ref s.heap.objs.size) { s with heap:=s.heap.push { cls:=.type "tuple_iterator",data:=.fields #[.ref c,.int 0 0] } }):wpAny (model prog w) A (pyIter (.ref c)) Q E s:=wpAny_pyIter_tuple hT h
theorem zqz {o:Obj}{h':Heap}(hk:∀b q,b ∉ [s.heap.objs.size]->(s.heap.push o).get? b=some q->h'.get? b=some q) (b:Addr) (q:Obj) (e:s.heap.get? b=some q):h'.get? b=some q :=
 hk b q (fun hm=>absurd (Heap.lt_size e) (by rw [List.mem_singleton.mp hm];exact Nat.lt_irrefl _)) (Heap.get?_push_of_some _ e)
theorem zq0 {o:Obj}(hc:c<s.heap.objs.size):∀b∈[s.heap.objs.size,c],b<(s.heap.push o).objs.size:=fun b hb=>by
 rw [Heap.size_push]
 rcases List.mem_cons.mp hb with e|hb
 ·rw [e];exact Nat.lt_succ_self _
 ·rw [List.mem_singleton.mp hb];exact Nat.lt_succ_of_lt hc
theorem ybi {Q:Value->Shared->Prop}(hh:A.handled=none) (hT:s.heap.IsTuple c (intItems #[(i,t),(j,u)])) (h:∀h' tk,(∀b o,s.heap.get? b=some o->h'.get? b=some o)->Q (if j<i then .int j u else .int i t) { s with heap:=h',toks:=tk }) :
  wpAny (model prog w) A (call (.builtin "min") [.ref c]) Q E s:=by
 have hlt:c<s.heap.objs.size:=by obtain ⟨_,e,_⟩:=hT;exact Heap.lt_size e
 refine call_min_walk (zqy hT ⟨_,[_,c],[_],_,_,_,_,rfl,Walks.tuple (A:=A.in1) hh _ c (Nat.ne_of_lt hlt) (intItems #[(i,t),(j,u)]),⟨⟨_,Heap.get?_push_size _ rfl,rfl,rfl⟩,hT.push _⟩,zq0 hlt,by simp [intItems],CmpOf.ints_lt (numAt #[(i,t),(j,u)]) (fun _ _=>intItems_at),fun v h' tk hP hk=>?_⟩)
 have hz2:(intItems #[(i,t),(j,u)]).size-1=1:=by simp [intItems]
 rw [hz2] at hP
 have e:v=if j<i then Value.int j u else Value.int i t:=by
  by_cases z:j<i
  ·have e:argBest (fun a b=>decide (numAt #[(i,t),(j,u)] a<numAt #[(i,t),(j,u)] b)) 1=1:=by simp [argBest,numAt,z]
   rw [e] at hP;simpa [intItems,z] using hP.symm
  ·have e:argBest (fun a b=>decide (numAt #[(i,t),(j,u)] a<numAt #[(i,t),(j,u)] b)) 1=0:=by simp [argBest,numAt,z]
   rw [e] at hP;simpa [intItems,z] using hP.symm
 rw [e]
 exact h h' tk (zqz hk)
theorem ybj {Q:Value->Shared->Prop}(hh:A.handled=none) (hT:s.heap.IsTuple c (intItems #[(i,t),(j,u)])) (h:∀h' tk,(∀b o,s.heap.get? b=some o->h'.get? b=some o)->Q (if j > i then .int j u else .int i t) { s with heap:=h',toks:=tk }) :
  wpAny (model prog w) A (call (.builtin "max") [.ref c]) Q E s:=by
 have hlt:c<s.heap.objs.size:=by obtain ⟨_,e,_⟩:=hT;exact Heap.lt_size e
 refine call_max_walk (zqy hT ⟨_,[_,c],[_],_,_,_,_,rfl,Walks.tuple (A:=A.in1) hh _ c (Nat.ne_of_lt hlt) (intItems #[(i,t),(j,u)]),⟨⟨_,Heap.get?_push_size _ rfl,rfl,rfl⟩,hT.push _⟩,zq0 hlt,by simp [intItems],CmpOf.ints_gt (numAt #[(i,t),(j,u)]) (fun _ _=>intItems_at),fun v h' tk hP hk=>?_⟩)
 have hz2:(intItems #[(i,t),(j,u)]).size-1=1:=by simp [intItems]
 rw [hz2] at hP
 have e:v=if j > i then Value.int j u else Value.int i t:=by
  by_cases z:j > i
  ·have e:argBest (fun a b=>decide (numAt #[(i,t),(j,u)] a > numAt #[(i,t),(j,u)] b)) 1=1:=by simp [argBest,numAt,z]
   rw [e] at hP;simpa [intItems,z] using hP.symm
  ·have e:argBest (fun a b=>decide (numAt #[(i,t),(j,u)] a > numAt #[(i,t),(j,u)] b)) 1=0:=by simp [argBest,numAt,z]
   rw [e] at hP;simpa [intItems,z] using hP.symm
 rw [e]
 exact h h' tk (zqz hk)
end
noncomputable def zq1 (K:PySem.W.Frag):List V->Hp->VK->Prop:=fun xs H Q=>∃p i j,xs=[.ref p]/\SqT K H p [.int i,.int j]/\Q (.int (if j<i then j else i)) H
noncomputable def zq2 (K:PySem.W.Frag):List V->Hp->VK->Prop:=fun xs H Q=>∃p i j,xs=[.ref p]/\SqT K H p [.int i,.int j]/\Q (.int (if j > i then j else i)) H
section
variable {X:Cx}
theorem zq3 {pins:List (Addr × Obj)}{σ:St}{H:Hp}{s:Shared}{p:Addr}{i j:Int}(I:Inv X pins σ H s) (h:SqT X.K H p [.int i,.int j]):∃t u,s.heap.IsTuple p (intItems #[(i,t),(j,u)]):=by
 obtain ⟨its,rv,hp,_⟩:=I.tuple h
 cases rv with
 | cons a1 a2 =>
  cases a2 with
  | cons a3 a4 =>
   cases a4
   obtain ⟨t1,rfl⟩:=a1
   obtain ⟨t2,rfl⟩:=a3
   exact ⟨t1,t2,by obtain ⟨o,h1,h2,n,h3⟩:=hp;exact ⟨o,h1,h2,n,by simpa [intItems] using h3⟩⟩
theorem ybk (hc:X.calm=true):CallR X (.builtin "min") (zq1 X.K):=by
 intro pins s σ H xs us Q I r h
 obtain ⟨p,i,j,rfl,sq,q⟩:=h
 obtain ⟨u,rfl,ru⟩:=zed r
 cases ru
 obtain ⟨t,u,hT⟩:=zq3 I sq
 refine ybi (I.ok.hd hc) hT fun h' tk k=>⟨_,H,I.kept k,?_,q⟩
 by_cases hj:j<i
 ·rw [if_pos hj,if_pos hj];exact ⟨_,rfl⟩
 ·rw [if_neg hj,if_neg hj];exact ⟨_,rfl⟩
theorem ybl (hc:X.calm=true):CallR X (.builtin "max") (zq2 X.K):=by
 intro pins s σ H xs us Q I r h
 obtain ⟨p,i,j,rfl,sq,q⟩:=h
 obtain ⟨u,rfl,ru⟩:=zed r
 cases ru
 obtain ⟨t,u,hT⟩:=zq3 I sq
 refine ybj (I.ok.hd hc) hT fun h' tk k=>⟨_,H,I.kept k,?_,q⟩
 by_cases hj:j > i
 ·rw [if_pos hj,if_pos hj];exact ⟨_,rfl⟩
 ·rw [if_neg hj,if_neg hj];exact ⟨_,rfl⟩
end
theorem ybm {K:PySem.W.Frag}:Fn3 K zh1 (zq1 K):=by
 intro ρ S H xs vs v S' Q sim r h p
 unfold zh1 at h
 split at h
 ·cases h
  obtain ⟨w,rfl,rw'⟩:=r.one
  cases rw' with
  | @tup _ b us hb rs =>
   obtain ⟨x,y,rfl,q1,q2⟩:=rs.two
   cases q1;cases q2
   exact ⟨b,_,_,rfl,.inl (.inl hb),p ρ H _ (Ext.refl ..) sim (.int _)⟩
 ·cases h
theorem ybn {K:PySem.W.Frag}:Fn3 K zh2 (zq2 K):=by
 intro ρ S H xs vs v S' Q sim r h p
 unfold zh2 at h
 split at h
 ·cases h
  obtain ⟨w,rfl,rw'⟩:=r.one
  cases rw' with
  | @tup _ b us hb rs =>
   obtain ⟨x,y,rfl,q1,q2⟩:=rs.two
   cases q1;cases q2
   exact ⟨b,_,_,rfl,.inl (.inl hb),p ρ H _ (Ext.refl ..) sim (.int _)⟩
 ·cases h
section
variable {X:Cx}{a:Expr}{es:List Expr}{mA:AM}{pos p:Pos}
theorem ybo (hc:X.calm=true) (hg:Gl X "min") (hm:X.mg "min" = none) (ha:PA3 X (a :: es) mA) (he:starEach (a :: es) X.env=(false,eval a X.env) :: starEach es X.env:=by rfl) (hpl:(backTo pos (starEach es X.env)).any (·.1)=false:=by rfl):PE3 X (.Call (.Name "min" p) (a :: es) [] pos) (zaf zh1 mA) :=
 zet (ybk hc) ybm hg hm zyx ha (by decide) (by decide) he hpl
theorem ybp (hc:X.calm=true) (hg:Gl X "max") (hm:X.mg "max" = none) (ha:PA3 X (a :: es) mA) (he:starEach (a :: es) X.env=(false,eval a X.env) :: starEach es X.env:=by rfl) (hpl:(backTo pos (starEach es X.env)).any (·.1)=false:=by rfl):PE3 X (.Call (.Name "max" p) (a :: es) [] pos) (zaf zh2 mA) :=
 zet (ybl hc) ybn hg hm zyy ha (by decide) (by decide) he hpl
end
section
variable {prog:Program}{w:World}{K:Type} [DecidableEq K] {knd:HeapKind prog w K}{A:Around}{E:Value->Shared->Prop}{s:Shared}{d a:Addr}{k:K}{xs:List (K × Addr × Value)}{z:Value}
theorem sdH {Q:Value->Shared->Prop}(hu:knd.room A) (hkey:knd.is s.heap k a) (hm:s.heap.DictOfH knd d xs) (hsz:xs.length<=sizeLine)
  (there:∀p,atKey xs k=some p->Q p.2 { s with toks:=s.toks+knd.draws k }) (new:atKey xs k=none->∀h',h'.DictOfH knd d (storedH xs k a z)->Heap.SameBut d s.heap h'->Q z { s with heap:=h',toks:=s.toks+knd.draws k }) :
  wpAny (model prog w) A (dictSetDefault d (.ref a) z) Q E s:=by
 obtain ⟨o,es,ep,ho,hc,hd,he,his,hn⟩:=hm
 unfold dictSetDefault
 try with_reducible refine wpAny_holding ?_
 refine wpAny_bind (knd.pyHash hu hkey (wpAny_bind (wpAny_dictFind_heap (s:={ s with toks:=s.toks+knd.draws k }) hu hkey ho hd he his hn (fun hno=>?_) fun j p hj=>?_)))
 ·have e0:=atKey_none_of_get hno
  have hnot:k ∉ xs.map (·.1):=not_mem_keys_of_get hno
  refine wpAny_bind (wpAny_rule (wpAny_bind (wpAny_updateDictKeys (hz:=by have e:=size_of_entries he;omega) (s:={ s with toks:=s.toks+knd.draws k }) ho hd (wpAny_pure (new e0 _ ⟨_,_,ep+1,Heap.get?_update_self _ ho (Obj.isFreed_of_dict (Obj.data_mapDictKeys hd _)),hc.mapDictKeys _,Obj.data_mapDictKeys hd _,?_,?_,?_⟩ (Heap.SameBut.update ..))))))
  ·rw [storedH_new e0];simp [he,entryOfKey]
  ·rw [storedH_new e0]
   intro x hx
   rcases List.mem_append.mp hx with hx|hx
   ·exact knd.keeps (his x hx) ho hd (Heap.SameBut.update ..)
   ·cases (show x=(k,a,z) by simpa using hx)
    exact knd.keeps hkey ho hd (Heap.SameBut.update ..)
  ·rw [storedH_new e0,List.map_append,List.nodup_append]
   refine ⟨hn,by simp,fun x hx y hy=>?_⟩
   cases (show y=k by simpa using hy)
   exact fun e=>hnot (e ▸ hx)
 ·refine wpAny_bind (wpAny_dictEntries (s:={ s with toks:=s.toks+knd.draws k }) ho hd ?_)
  rw [entry_at he j,hj]
  exact wpAny_bind (wpAny_rule (wpAny_pure (there p (atKey_of_get hn hj))))
theorem ybq (hd:(d == sysModules)=false):MeetsIn prog w (Builtin.«dict.setdefault» ⟨[.ref d,.ref a,z],[]⟩) (fun A R s=>knd.room A.in1/\∃k xs,knd.is s.heap k a/\s.heap.DictOfH knd d xs/\xs.length<=sizeLine /\
   (∀p,atKey xs k=some p->R (.ok (.ret p.2)) { s with toks:=s.toks+knd.draws k })/\(atKey xs k=none->∀h',h'.DictOfH knd d (storedH xs k a z)->Heap.SameBut d s.heap h'->R (.ok (.ret z)) { s with heap:=h',toks:=s.toks+knd.draws k })) :=
 .of_wp fun A R s hx2_=>by
  obtain ⟨hu,k,xs,hkey,hm,hz,h1,h2⟩:=hx2_
  unfold Builtin.«dict.setdefault» Builtin.Dict.keyAndDefault
  refine wpAny_bind (wpAny_bind (wpAny_notOrdered_dict hm.typeIs (show wpAny _ _ (pure (d,Value.ref a,some z)) _ _ s from wpAny_pure ?_)))
  show wpAny _ _ (if (d == sysModules)=true then _ else (dictSetDefault d (.ref a) z >>= _)) _ _ s
  rw [hd,if_neg Bool.false_ne_true]
  exact wpAny_bind (sdH hu hkey hm hz (fun p hp=>wpAny_pure ⟨p.2,rfl,h1 p hp⟩) fun hn h' hm' hs'=>wpAny_pure ⟨z,rfl,h2 hn h' hm' hs'⟩)
end
noncomputable def ybr (td ty tx:TE):TE:=fun σ H Q=>td σ H fun x H1=>∃a,x=.ref a/\IsD H1 a/\ty σ H1 fun y H2=>tx σ H2 fun z H3=>∃kvs k b,H3 a=some (.dT kvs)/\y=.ref b/\H3 b=some (.tup (k.map kV))/\kvs.length<sizeLine /\
 (∀v,zbv kvs k=some v->Q v H3)/\(zbv kvs k=none->Q z (upd H3 a (.dT (zbs kvs k z))))
section
variable {X:Cx}{o e f:Expr}{td ty tx:TE}{apos cpos:Pos}
theorem ybs (hu:X.A.units+1<cLine) (ho:PE X o td) (he:PE X e ty) (hf:PE X f tx) (m:M2 X o "setdefault" apos e f cpos):PE X (.Call (.Attribute o "setdefault" apos) [e,f] [] cpos) (ybr td ty tx):=by
 intro pins s σ H Q I h
 refine wpAny_Call_method m.base m.few m.line PySem.F.plainAttrs_dict PySem.F.slot_dict_setdefault PySem.F.type_dict_setdefault (thn (ho pins s σ H _ I h) fun u s1 ⟨x,H1,I1,rx,a,ex,d,q1⟩=>?_)
 subst ex
 obtain rfl:u=Value.ref a:=rx
 obtain ⟨t1,t2,_⟩:=zo3 I1 d
 refine ⟨t1,t2,?_⟩
 rw [m.trees]
 refine Calls.callWith_builtin rfl (Calls.evalArgs_plain (Calls.spliced_cons (thn (he pins s1 σ H1 _ I1 q1) fun iv s2 ⟨y,H2,I2,ry,q2⟩=>Calls.spliced_cons (thn (hf pins s2 σ H2 _ I2 q2) fun fv s3 ⟨z,H3,I3,rz,kvs,k,b,ea,ey,eb,hl,g1,g2⟩=>Calls.spliced_nil ?_))))
 subst ey
 cases (show iv=Value.ref b from ry)
 obtain ⟨zz,hd,xs,rel,dd⟩:=zko I3.hok ea
 have hz:xs.length<=sizeLine:=by rw [←Paired.length rel];exact zz
 have hp:(zbs kvs k z).length<=sizeLine:=by have:=zio kvs k z;omega
 refine call_meetsIn PySem.F.slot_dict_setdefault dd.typeIs PySem.F.entry_dict_setdefault (PySem.F.args_dict_setdefault_3 _ _ _) (ybq (knd:=tupleKind (zca X.prog X.w)) hd) ⟨tupleKind_room_in1 hu,k,xs,zfa I3.hok eb,dd,hz,fun p hp=>?_,fun hn h' dd' hs=>?_⟩
 ·have r:=rel.val k
  rw [hp] at r
  cases hv:zbv kvs k with
  | none=>rw [hv] at r;exact r.elim
  | some v=>rw [hv] at r;exact ⟨v,H3,I3.tok _,r,g1 v hv⟩
 ·have r:=rel.val k
  rw [hn] at r
  cases hv:zbv kvs k with
  | some v=>rw [hv] at r;exact r.elim
  | none =>
   obtain ⟨q,es,ep,hq,h2,h3,h4,_,h5⟩:=dd'
   refine ⟨z,_,ziq (ob:=.dT (zbs kvs k z)) I3 (by rw [ea];exact True.intro) hs ⟨q,hq⟩ ⟨hp,hd,_,(rel.put k eb rz).keeps fun c ys ec=>?_,q,es,ep,hq,h2,h3,h4,h5⟩,rz,g2 hv⟩
   rw [zas (zcw ec ea (fun z=>nomatch z))]
   exact ec
end
noncomputable def zfr (o e f:EM):EM:=fun l S=>(o l S).bind fun p=>(isDc p.2 p.1).bind fun _=>(e l p.2).bind fun q=>(f l q.2).bind fun t=>match p.1 with
 | .ref n=>match t.2[n]? with
  | some (.tdct kvs)=>(zcp q.1).bind fun k=>if kvs.length<sizeLine then (match zaq kvs k with
   | some v=>some (v,t.2)
   | none=>some (t.1,t.2.set n (.tdct (zb5 kvs k t.1)))) else none
  | _=>none
 | _=>none
section
variable {X:Cx}{o e f:Expr}{mo me mf:EM}{apos cpos:Pos}{k:Nat}
theorem ybt (hr:Room k X.A) (ho:PE3 X o mo) (he:PE3 X e me) (hf:PE3 X f mf) (m:M2 X o "setdefault" apos e f cpos:=by exact ⟨rfl,rfl,rfl,rfl⟩):PE3 X (.Call (.Attribute o "setdefault" apos) [e,f] [] cpos) (zfr mo me mf):=PE.imp (ybs (zel hr) ho he hf m) fun σ H Q hx3_=>by
 obtain ⟨ρ,l,S,v,S',sim,ro,hq,p⟩:=hx3_
 obtain ⟨⟨x,S1⟩,h1,hq⟩:=bnd hq
 obtain ⟨_,h2,hq⟩:=bnd hq
 obtain ⟨⟨y,S2⟩,h3,hq⟩:=bnd hq
 obtain ⟨⟨z,S3⟩,h5,hq⟩:=bnd hq
 cases x with
 | ref n =>
  dsimp only at hq
  cases hx:S3[n]? with
  | none=>rw [hx] at hq;cases hq
  | some ob =>
  rw [hx] at hq
  cases ob with
  | tdct kvs =>
   dsimp only at hq
   obtain ⟨kk,hk,hq⟩:=bnd hq
   obtain ⟨hz,hq⟩:=ybg hq
   refine ⟨ρ,l,S,.ref n,S1,sim,ro,h1,fun ρ1 H1 x' e1 s1 r1=>?_⟩
   obtain ⟨a,rfl,da⟩:=s1.isDc r1 h2
   refine ⟨a,rfl,da,ρ1,l,S1,y,S2,s1,ro.mono e1,h3,fun ρ2 H2 y' e2 s2 r2=>⟨ρ2,l,S2,z,S3,s2,(ro.mono e1).mono e2,h5,fun ρ3 H3 z' e3 s3 r3=>?_⟩⟩
   have r1':=(r1.mono e2).mono e3
   cases r1' with
   | @ref _ _ hn =>
    obtain ⟨vs,hH,r⟩:=s3.at' _ a _ hn hx
    obtain ⟨b,rfl,hb⟩:=zhw hk (r2.mono e3)
    obtain ⟨g1,g2⟩:=zjk (k:=kk) r
    refine ⟨_,kk,b,hH,rfl,hb,by rw [zjm r];exact hz,fun v' hv=>?_,fun hv=>?_⟩
    ·cases hg:zaq kvs kk with
     | none=>rw [g1 hg] at hv;cases hv
     | some d0 =>
      rw [hg] at hq
      obtain ⟨v0,hv0,rd⟩:=g2 d0 hg
      cases hq
      rw [hv] at hv0;cases hv0
      exact p ρ3 H3 _ (e1.trans (e2.trans e3)) s3 rd
    ·cases hg:zaq kvs kk with
     | some d0 =>
      obtain ⟨v0,hv0,_⟩:=g2 d0 hg
      rw [hv] at hv0;cases hv0
     | none =>
      rw [hg] at hq
      cases hq
      obtain ⟨ws,hw1,hw2⟩:=zlt (k:=kk) r3 r
      have ex:=zf4 (o:=.dT (zbs ((kvs.map (·.1)).zip vs) kk z')) hn hH (zd6 _)
      exact p ρ3 _ _ ((e1.trans (e2.trans e3)).trans ex) (s3.setG hn hx rfl hH (zd6 _) ⟨ws,by rw [zb7,hw1],hw2.mono ex⟩) (r3.mono ex)
  | _=>cases hq
 | _=>cases hq
end
end L3
namespace L3
open PySem PySem.Spec PyProof.Rows L2
section
variable {h:Heap}{p:PyData}
end
section
variable {X:Cx}{k:Nat}
variable {a b:Expr}{ma mb:EM}{pos:Pos}
end
section
variable {X:Cx}{k:Nat}
variable {o e:Expr}{mo me:EM}{apos cpos:Pos}
end
section
variable {X:Cx}{o:Expr}{mo:EM}{apos cpos:Pos}
end
section
variable {X:Cx}{pos:Pos}{ke ve:Expr}
end
section
variable {X:Cx}{pos:Pos}{ke ve:Expr}{mk mv:EM}{k:Nat}
end
section
variable {X:Cx}
end
section
variable {X:Cx}{a:Expr}{es:List Expr}{mA:AM}{pos p:Pos}
end
end L3
namespace L3
open PySem PySem.Spec PyProof.Rows L2
section
variable {elt t1 i1 t2 i2:Expr}{ifs1 ifs2:List Expr}{scope:Scope}{pos:Pos}{it acc:Value}{env:Env}
noncomputable abbrev two (elt t1 i1 t2 i2:Expr) (ifs1 ifs2:List Expr) (scope:Scope) (pos:Pos):Expr:=.ListComp elt [⟨t1,i1,ifs1,0⟩,⟨t2,i2,ifs2,0⟩] scope pos
theorem ybu:compTurn (two elt t1 i1 t2 i2 ifs1 ifs2 scope pos) 0 it acc env=(do
  standAt i1.pos
  match ←pyNext it with
  | none=>pure (.done .next)
  | some v =>
   letOwnedTupleGo t1 it v
   assign t1 env v
   let mut ok:=true
   for c in ifs1 do
    if ok then ok ←isTrue c env (eval c env)
   if ok then
    let x ←eval i2 env
    standAt i2.pos
    let x ←foldedSetIterable i2 env x
    let _ ←runOwn (.compStart (two elt t1 i1 t2 i2 ifs1 ifs2 scope pos) 1 (←holding [x] (pyIter x)) acc env) env
   again (.compLoop (two elt t1 i1 t2 i2 ifs1 ifs2 scope pos) 0 it acc env)):=by rfl
theorem ybv:compTurn (two elt t1 i1 t2 i2 ifs1 ifs2 scope pos) 1 it acc env=(do
  standAt i2.pos
  match ←pyNext it with
  | none=>pure (.done .next)
  | some v =>
   letOwnedTupleGo t2 it v
   assign t2 env v
   let mut ok:=true
   for c in ifs2 do
    if ok then ok ←isTrue c env (eval c env)
   if ok then
    (do let _ ←call (.builtin "list.append") [acc,←eval elt env])
   again (.compLoop (two elt t1 i1 t2 i2 ifs1 ifs2 scope pos) 1 it acc env)):=by rfl
variable {prog:Program}{w:World}{A:Around}{R:Result->Shared->Prop}{s:Shared}
theorem ybw (h0:codeAny (model prog w) A (.compLoop (two elt t1 i1 t2 i2 ifs1 ifs2 scope pos) 1 it acc env) R s)
  (h:wpAny (model prog w) A (pyIter it) (fun it' s'=>codeAny (model prog w) A (.compLoop (two elt t1 i1 t2 i2 ifs1 ifs2 scope pos) 1 it' acc env) R s') (notedBy (model prog w) A env fun x s'=>R (.error x) s') s) :
  codeAny (model prog w) A (.compStart (two elt t1 i1 t2 i2 ifs1 ifs2 scope pos) 1 it acc env) R s:=by
 refine codeAny_of_tree ?_
 show wpAny _ _ ((compStart (two elt t1 i1 t2 i2 ifs1 ifs2 scope pos) 1 it acc env).onRaise (fun x=>do noteFrame x env;standAt theWindowsPlace)) _ _ s
 refine wpAny_notedAt ?_
 unfold compStart
 show wpAny _ _ (ask >>= _) _ _ s
 refine wpAny_bind (wpAny_askSetting (wpAny_ite ?_))
 split
 ·first
   | exact wpAny_bind (wpAny_pure (wpAny_pure (And.intro rfl h0)))
   | exact wpAny_pure (And.intro rfl h0)
 ·first
   | exact wpAny_bind (wpAny_rule (wpAny_bind (wpAny_standAt (wpAny_bind (wpAny_mono h (fun it' s' h'=>wpAny_pure (And.intro rfl h')) fun _ _ x=>x)))))
   | (refine wpAny_bind (wpAny_rule ?_);show wpAny _ _ (standAt i2.pos >>= _) _ _ s;exact wpAny_bind (wpAny_standAt (wpAny_bind (wpAny_mono h (fun it' s' h'=>wpAny_pure (And.intro rfl h')) fun _ _ x=>x))))
theorem ybx (I:Nat->Shared->Prop)
  (turn:∀n s,I n s->wpAny (model prog w) A (pyNext it) (fun r s₁=>match r with
   | none=>R (.ok .next) s₁
   | some v=>wpAny (model prog w) A (letOwnedTupleGo t2 it v) (fun _ s₁'=>wpAny (model prog w) A (assign t2 env v) (fun _ s₂ =>
     wpAny (model prog w) A (forIn ifs2 true fun c r=>if r=true then do let ok ←isTrue c env (eval c env);pure (ForInStep.yield ok) else pure (ForInStep.yield r)) (fun ok s₃ =>
      if ok=true then wpAny (model prog w) A (eval elt env) (fun x s₄ =>
       wpAny (model prog w) A (call (.builtin "list.append") [acc,x]) (fun _ s₅=>∃m,m<n/\I m s₅) (fun _ _=>False) s₄) (fun _ _=>False) s₃
      else ∃m,m<n/\I m s₃) (fun _ _=>False) s₂) (fun _ _=>False) s₁') (fun _ _=>False) s₁) (fun _ _=>False) s)
  (n:Nat) (h:I n s):codeAny (model prog w) A (.compLoop (two elt t1 i1 t2 i2 ifs1 ifs2 scope pos) 1 it acc env) R s:=by
 refine codeAny_loop rfl I (fun n s hI=>?_) n h
 show wpAny _ A ((compTurn (two elt t1 i1 t2 i2 ifs1 ifs2 scope pos) 1 it acc env).onRaise (fun x=>do noteFrame x env;theTreesLotGoes x)) _ _ s
 refine wpAny_noted ?_
 rw [ybv]
 refine wpAny_bind (wpAny_standAt (wpAny_bind (wpAny_mono (turn n s hI) (fun r s₁ h₁=>?_) fun _ _ h'=>h'.elim)))
 cases r with
 | none=>exact wpAny_pure h₁
 | some v =>
  refine wpAny_bind (wpAny_mono h₁ (fun _ s₁' h₁=>?_) fun _ _ h'=>h'.elim)
  refine wpAny_bind (wpAny_mono h₁ (fun _ s₂ h₂=>wpAny_bind (wpAny_mono h₂ (fun ok s₃ h₃=>?_) fun _ _ h'=>h'.elim)) fun _ _ h'=>h'.elim)
  cases ok with
  | false=>exact wpAny_pure ⟨rfl,h₃⟩
  | true =>
   exact wpAny_bind (wpAny_bind (wpAny_mono h₃ (fun x s₄ h₄=>wpAny_bind (wpAny_mono h₄ (fun _ s₅ h₅=>wpAny_pure (wpAny_pure ⟨rfl,h₅⟩)) fun _ _ h'=>h'.elim)) fun _ _ h'=>h'.elim))
theorem yby (hs:∀x,foldedSetIterable i2 env x=pure x) (I:Nat->Shared->Prop)
  (turn:∀n s,I n s->wpAny (model prog w) A (pyNext it) (fun r s₁=>match r with
   | none=>R (.ok .next) s₁
   | some v=>wpAny (model prog w) A (letOwnedTupleGo t1 it v) (fun _ s₁'=>wpAny (model prog w) A (assign t1 env v) (fun _ s₂ =>
     wpAny (model prog w) A (forIn ifs1 true fun c r=>if r=true then do let ok ←isTrue c env (eval c env);pure (ForInStep.yield ok) else pure (ForInStep.yield r)) (fun ok s₃ =>
      if ok=true then wpAny (model prog w) A (eval i2 env) (fun x s₄=>wpAny (model prog w) A (pyIter x) (fun it2 s₅ =>
       codeAny (model prog w) A (.compStart (two elt t1 i1 t2 i2 ifs1 ifs2 scope pos) 1 it2 acc env) (fun r s₆=>r=.ok .next/\∃m,m<n/\I m s₆) s₅) (fun _ _=>False) s₄) (fun _ _=>False) s₃
      else ∃m,m<n/\I m s₃) (fun _ _=>False) s₂) (fun _ _=>False) s₁') (fun _ _=>False) s₁) (fun _ _=>False) s)
  (n:Nat) (h:I n s):codeAny (model prog w) A (.compLoop (two elt t1 i1 t2 i2 ifs1 ifs2 scope pos) 0 it acc env) R s:=by
 refine codeAny_loop rfl I (fun n s hI=>?_) n h
 show wpAny _ A ((compTurn (two elt t1 i1 t2 i2 ifs1 ifs2 scope pos) 0 it acc env).onRaise (fun x=>do noteFrame x env;theTreesLotGoes x)) _ _ s
 refine wpAny_noted ?_
 rw [ybu]
 refine wpAny_bind (wpAny_standAt (wpAny_bind (wpAny_mono (turn n s hI) (fun r s₁ h₁=>?_) fun _ _ h'=>h'.elim)))
 cases r with
 | none=>exact wpAny_pure h₁
 | some v =>
  refine wpAny_bind (wpAny_mono h₁ (fun _ s₁' h₁=>?_) fun _ _ h'=>h'.elim)
  refine wpAny_bind (wpAny_mono h₁ (fun _ s₂ h₂=>wpAny_bind (wpAny_mono h₂ (fun ok s₃ h₃=>?_) fun _ _ h'=>h'.elim)) fun _ _ h'=>h'.elim)
  cases ok with
  | false=>exact wpAny_pure ⟨rfl,h₃⟩
  | true =>
   refine wpAny_bind (wpAny_mono h₃ (fun x s₄ h₄=>?_) fun _ _ h'=>h'.elim)
   refine wpAny_bind (wpAny_standAt ?_)
   rw [hs x]
   refine wpAny_bind (wpAny_pure (wpAny_bind (wpAny_holding (wpAny_mono h₄ (fun it2 s₅ h₅=>?_) fun _ _ h'=>h'.elim))))
   refine wpAny_bind (wpAny_runOwn (codeAny_mono h₅ fun r s₆ h₆=>?_))
   obtain ⟨rfl,h₆⟩:=h₆
   exact wpAny_pure ⟨rfl,h₆⟩
end
noncomputable def zl6 (K:PySem.W.Frag) (wi:TI) (src:St->St) (g:TG) (tts:TT) (wi2:TI) (g2:TG) (tts2:TT) (t:TE):TE:=fun σ H Q=>wi σ H fun J H1=>∀D,H1 D=none->K.lookup D=none->∃W:Nat->Nat->St->Hp->Prop,
 (∃m,W 0 m (src σ) (upd H1 D (.lst [])))/\∀i m σ' H',W i m σ' H' ->
  (J.stop i H'/\Q (.ref D) H')∨(J.go i H'/\∃N:St->Hp->Prop,(∀σ' H',N σ' H'->∃m',m' < m/\W (i+1) m' σ' H') /\
   ∀x H'',J.yld i H' x H''->g x σ' H'' fun σ2 H2=>tts σ2 H2 fun b H3=>if b=true then wi2 σ2 H3 (fun J2 H4=>∃W2:Nat->Nat->St->Hp->Prop,(∃m,W2 0 m σ2 H4)/\∀j m σ3 H5,W2 j m σ3 H5 ->
    (J2.stop j H5/\N σ3 H5)∨(J2.go j H5/\∃N2:St->Hp->Prop,(∀σ' H',N2 σ' H'->∃m',m' < m/\W2 (j+1) m' σ' H') /\
     ∀y H6,J2.yld j H5 y H6->g2 y σ3 H6 fun σ4 H7=>tts2 σ4 H7 fun b H8=>if b=true then t σ4 H8 (fun v H9=>∃ys,H9 D=some (.lst ys)/\ys.length<sizeLine/\N2 σ4 (upd H9 D (.lst (ys++[v])))) else N2 σ4 H8)) else N σ2 H3)
theorem ybz {X:Cx}{N':List Str}{elt iter tgt iter2 tgt2:Expr}{ifs ifs2:List Expr}{scope:Scope}{pos pos':Pos}{use:Option (Value->Sem Unit)}{R:Value->Shared->Prop}{pins:List (Addr × Obj)}{s:Shared}{σ:St}{H:Hp}{Q:VK}{wi:TI}{src:St->St}{g g2:TG}{tts tts2:TT}{wi2:TI}{t:TE}(hcalm:X.calm=true) (sc:CompSc X N' scope src)
  (hi:PI X tgt iter wi) (hg:∀C s H fp pins,PG (cxC X N' scope C s H fp pins) tgt g) (ht:∀C s H fp pins,PTs (cxC X N' scope C s H fp pins) ifs tts) (he:∀C s H fp pins,PE (cxC X N' scope C s H fp pins) elt t)
  (hi2:∀C s H fp pins,PI (cxC X N' scope C s H fp pins) tgt2 iter2 wi2) (hg2:∀C s H fp pins,PG (cxC X N' scope C s H fp pins) tgt2 g2) (ht2:∀C s H fp pins,PTs (cxC X N' scope C s H fp pins) ifs2 tts2)
  (hs:∀x,foldedSetIterable iter X.env x=pure x) (hs2:∀C s H fp pins x,foldedSetIterable iter2 (cxC X N' scope C s H fp pins).env x=pure x) (I:Inv X pins σ H s) (h:zl6 X.K wi src g tts wi2 g2 tts2 t σ H Q)
  (fin:∀D H5 s6 C mC,Inv X pins σ H5 s6->zcb X pins H5 C->s6.heap.Ns C mC->Q (.ref D) H5->compPost (model X.prog X.w) X.A X.xe use R (.ref D) C (.ok .next) s6) :
  wpAny (model X.prog X.w) X.A (comprehension (two elt tgt iter tgt2 iter2 ifs ifs2 scope pos) scope X.env pos' (newList []) false (eval iter X.env) use) R X.xe s:=by
 have hasC:∀x∈scope.names,x.2=.free->∃c,X.env.cells.lookup x.1=some c:=fun x hx hf=>I.ok.has x.1 (sc.free x hx hf)
 refine wpAny_comprehension_free (use:=use) (env:=X.env) rfl hs (zi1 scope X.env hasC) sc.kind sc.names ?_
 show wpAny (model X.prog X.w) X.A (eval iter X.env) _ _ s
 refine wpAny_mono (hi pins s σ H _ I h) (fun v s1 h1=>wpAny_mono h1 (fun itv s2 h2=>?_) fun _ _ z=>z) fun _ _ z=>z
 obtain ⟨it,fp,tn,J,H2,rfl,I2,T,st2,f2,q⟩:=h2
 refine wpAny_newObj_type ?_ (by show 0<=sizeLine;exact Nat.zero_le _)
 have hD:H2 s2.heap.objs.size=none:=I2.hok.fresh (Nat.le_refl _)
 have I3:Inv X pins σ (upd H2 s2.heap.objs.size (.lst [])) { s2 with heap:=s2.heap.push { cls:=.type "list",data:=.seq ([]:List Value).toArray } }:=I2.lnew (t':=s2.toks) .nil (Nat.zero_le _)
 obtain ⟨W,⟨m0,w0⟩,turn⟩:=q s2.heap.objs.size hD (by
  cases e:X.K.lookup s2.heap.objs.size with
  | none=>rfl
  | some o=>exact absurd (Heap.lt_size (I2.kIn _ o e)) (Nat.lt_irrefl _))
 refine wpAny_newFunctionEnv sc.nocell (by intro y hy;simp at hy) (fun h' hns hsb=>?_) sc.kind
 have fpIn:∀b∈fp,∃o,s2.heap.get? b=some o/\∀v,o.data≠.cell v:=T.obj 0 s2.heap st2
 have fpD:∀b∈fp,b≠s2.heap.objs.size:=fun b hb=>let ⟨o,e,_⟩:=fpIn b hb;Nat.ne_of_lt (Heap.lt_size e)
 have f3:∀b∈fp,zcb X pins (upd H2 s2.heap.objs.size (.lst [])) b:=fun b hb=>⟨by rw [zas (fpD b hb)];exact (f2 b hb).1,(f2 b hb).2⟩
 have st3:tn 0 (s2.heap.push { cls:=.type "list",data:=.seq ([]:List Value).toArray }):=T.keep _ _ _ st2 fun b hb o e=>Heap.get?_push_of_some _ e
 clear q hD h st2 f2 fpD
 generalize upd H2 s2.heap.objs.size (.lst [])=H3 at *
 generalize hDe:s2.heap.objs.size=D at *
 have fpIn3:∀b∈fp,∃o,(s2.heap.push { cls:=.type "list",data:=.seq ([]:List Value).toArray }).get? b=some o/\∀v,o.data≠.cell v:=T.obj 0 _ st3
 clear fpIn
 generalize s2.heap.push { cls:=.type "list",data:=.seq ([]:List Value).toArray }=h3 at *
 have old:∀b o,h3.get? b=some o->h'.get? b=some o:=fun b o e=>hsb.extBut b o (Nat.ne_of_lt (Heap.lt_size e)) (Heap.get?_push_of_some _ e)
 have stkNo:∀b,b≠X.env.locals->b ∉ X.fs->b ∉ frs X.stack:=fun b h1 h2 hb=>by
  rcases List.mem_cons.mp (I3.stkSub b hb) with z|z
  ·exact h1 z
  ·exact h2 z
 have sub:=zfk X.env scope.names [] (fun x c z=>by simp at z)
 have cNe:∀b o,h3.get? b=some o->b≠h3.objs.size:=fun b o e=>Nat.ne_of_lt (Heap.lt_size e)
 have I4:Inv (cxC X N' scope h3.objs.size { s2 with heap:=h3 } H3 fp pins) [] (src σ) H3 { s2 with heap:=h',toks:=s2.toks+([]:List (Str × Value)).length }:=by
  refine ⟨⟨I3.ok.mod,sc.kind,I3.ok.glob,I3.ok.blt,Nat.le_refl _,fun x y c h1 h2=>I3.ok.inj x y c (sub x c h1) (sub y c h2),fun x hx=>?_,fun x c z=>absurd (show false=true from z) Bool.false_ne_true,I3.ok.hd,I3.ok.frames,.inl rfl,fun b hb=>⟨?_,fun x c z=>(f3 b hb).2.2.2.2.1 x c (sub x c z)⟩,fun b o e=>I3.bs b o e,Nat.le_trans I3.ok.bsz I3.sz,fun b o e hb=>?_,fun b hb=>stkNo b (f3 b hb).2.1 (f3 b hb).2.2.1,I3.stack,I3.stkFree⟩,
   rfl,I3.bare,Un.kept old,⟨_,hns,fun i x v h1 h2 h3'=>?_⟩,fun x c z=>?_,I3.hok.fresh (Nat.le_refl _),fun x c z=>I3.freeC x c (sub x c z),fun p hp=>?_,I3.hok.kept old,sc.len σ⟩
  ·have hm:=sc.rel x hx
   exact zdo X.env scope.names [] x (.inl hm) (hasC _ hm rfl)
  ·obtain ⟨o,e,_⟩:=fpIn3 b hb
   exact cNe b o e
  ·rcases (f3 b hb).2.2.2.1 with z|z
   ·exact I3.ok.noex b o e z
   ·have:=Heap.lt_size (I3.ok.bs b o e).1
    exact absurd (Nat.lt_of_lt_of_le this z) (Nat.lt_irrefl _)
  ·obtain ⟨j,e1,e2,e3⟩:=sc.src σ i v x h2 h1
   obtain ⟨m,hn,hl⟩:=I3.loc
   have hmem:=PySem.mem_of_lookup e3
   have hk:=sc.free (x,.free) hmem rfl
   have vis:Vis X.env.scope x:=by
    rcases hk with k|k
    ·exact .inr (.inl k)
    ·exact .inr (.inr k)
   obtain ⟨u,r,lk⟩:=hl j x v e1 e2 vis
   refine ⟨u,r,.inr ⟨?_,?_⟩⟩
   ·exact zhj (scope:=scope) e3
   ·rcases lk with ⟨k,_⟩|⟨_,c,hc,hcell⟩
    ·rcases hk with k' | k' <;> (rw [k] at k';cases k')
    ·obtain ⟨c',hc'⟩:=zdo X.env scope.names [] x (.inl hmem) ⟨c,hc⟩
     have:=sub x c' hc'
     rw [hc] at this;cases this
     obtain ⟨o,ho,hd⟩:=hcell
     exact ⟨c,hc',o,old _ _ ho,hd⟩
  ·obtain ⟨v,o,ho,hd⟩:=I3.cell x c (sub x c z)
   exact ⟨v,o,old _ _ ho,hd⟩
  ·have hp':p∈X.pn++pins:=by simpa [cxC] using hp
   obtain ⟨e,n,ne,nf,d⟩:=I3.pin p hp'
   exact ⟨old _ _ e,n,cNe _ _ e,stkNo _ ne nf,d⟩
 have st4:tn 0 h':=T.keep _ _ _ st3 fun b hb o e=>old b o e
 have fr4:∀b∈fp,H3 b=none:=fun b hb=>(f3 b hb).1
 have stat:∀{H':Hp},(∀b∈fp,H' b=none)->∀b∈fp,zcb (cxC X N' scope h3.objs.size { s2 with heap:=h3 } H3 fp pins) [] H' b:=fun hn b hb=>by
  obtain ⟨g0,g1,g2,g3,g4,g5⟩:=f3 b hb
  obtain ⟨o,e,_⟩:=fpIn3 b hb
  exact ⟨hn b hb,cNe b o e,stkNo b g1 g2,.inl hb,fun x c z=>g4 x c (sub x c z),fun p hp=>g5 p (by simpa [cxC] using hp)⟩
 have loop:codeAny (model X.prog X.w) X.A (.compLoop (two elt tgt iter tgt2 iter2 ifs ifs2 scope pos) 0 (.ref it) (.ref D) (compEnvC scope (zbn X.env scope.names []) h3.objs.size X.env))
   (compPost (model X.prog X.w) X.A X.xe use R (.ref D) h3.objs.size) { s2 with heap:=h',toks:=s2.toks+([]:List (Str × Value)).length }:=by
  refine yby (fun x=>hs2 h3.objs.size { s2 with heap:=h3 } H3 fp pins x) (fun n s'=>∃i σ' H',Inv (cxC X N' scope h3.objs.size { s2 with heap:=h3 } H3 fp pins) [] σ' H' s'/\tn i s'.heap/\(∀b∈fp,H' b=none)/\W i n σ' H') ?_ m0 ⟨0,src σ,H3,I4,st4,fr4,w0⟩
  rintro n s5 ⟨i,σ5,H5,I5,st5,fr5,w5⟩
  rcases turn i n σ5 H5 w5 with ⟨stop,qn⟩|⟨go,N,hN,step⟩
  ·refine wpAny_mono (T.done (cxC X N' scope h3.objs.size { s2 with heap:=h3 } H3 fp pins) rfl rfl rfl hcalm i [] s5 σ5 H5 (fun _ _=>False) I5 (stat fr5) st5 stop) (fun r s6 hr=>?_) fun _ _ z=>z
   obtain ⟨hr,I6⟩:=hr
   subst hr
   obtain ⟨mC,hnC,_⟩:=I6.loc
   have IX:Inv X pins σ H5 s6:=I3.call' (s':=s6) (ch:=fp) I6.os I6.base I6.hok I6.bare fun b hb=>⟨(f3 b hb).2.2.2.1,(f3 b hb).2.1,(f3 b hb).2.2.2.2.1,(f3 b hb).2.2.2.2.2⟩
   exact fin D H5 s6 h3.objs.size mC IX (I3.fpOk (Nat.le_refl _) I6.free) hnC qn
  ·refine wpAny_mono (T.item (cxC X N' scope h3.objs.size { s2 with heap:=h3 } H3 fp pins) rfl rfl rfl hcalm i [] s5 σ5 H5 (fun _ _=>False) I5 (stat fr5) st5 go) (fun r s6 hr=>?_) fun _ _ z=>z
   obtain ⟨u,hr,h6⟩:=hr
   subst hr
   refine wpAny_mono h6 (fun _ s7 h7=>?_) fun _ _ z=>z
   obtain ⟨x,H7,I7,r7,y7,st7,fr7⟩:=h7
   have I7':=I7.pinned (stat fr7) (T.obj _ _ st7)
   refine wpAny_mono (hg _ _ _ _ _ _ s7 σ5 H7 x u _ I7' r7 (step x H7 y7)) (fun _ s8 h8=>?_) fun _ _ z=>z
   obtain ⟨σ8,H8,I8,q8⟩:=h8
   have again:∀{σ9:St} {H9:Hp} {s9:Shared},Inv (cxC X N' scope h3.objs.size { s2 with heap:=h3 } H3 fp pins) ([]++zcx fp s7.heap) σ9 H9 s9->N σ9 H9->∃m,m<n/\∃i σ' H',Inv (cxC X N' scope h3.objs.size { s2 with heap:=h3 } H3 fp pins) [] σ' H' s9/\tn i s9.heap/\(∀b∈fp,H' b=none)/\W i m σ' H':=fun {σ9 H9 s9} I9 n9=>by
    obtain ⟨m',hm,w9⟩:=hN σ9 H9 n9
    refine ⟨m',hm,i+1,σ9,H9,I9.unpinned,T.keep _ _ _ st7 fun b hb o e=>(I9.pin (b,o) (List.mem_append_right _ (List.mem_append_right _ (zc4 hb e)))).1,fun b hb=>?_,w9⟩
    obtain ⟨o,e,d⟩:=T.obj _ _ st7 b hb
    exact (I9.pin (b,o) (List.mem_append_right _ (List.mem_append_right _ (zc4 hb e)))).2.1
   refine wpAny_mono (ht _ _ _ _ _ _ s8 σ8 H8 _ I8 q8) (fun ok s9 h9=>?_) fun _ _ z=>z
   obtain ⟨H9,I9,q9⟩:=h9
   cases ok with
   | false=>exact again I9 q9
   | true =>
    refine wpAny_mono (hi2 _ _ _ _ _ _ s9 σ8 H9 _ I9 q9) (fun v s10 h10=>wpAny_mono h10 (fun itv s11 h11=>?_) fun _ _ z=>z) fun _ _ z=>z
    obtain ⟨it2,fp2,tn2,J2,H11,rfl,I11,T2,st11,f11,W2,⟨m2,w2⟩,turn2⟩:=h11
    have stat2:∀{H':Hp},(∀b∈fp2,H' b=none)->∀b∈fp2,zcb (cxC X N' scope h3.objs.size { s2 with heap:=h3 } H3 fp pins) ([]++zcx fp s7.heap) H' b:=fun hn b hb=>⟨hn b hb,(f11 b hb).2⟩
    have inner:codeAny (model X.prog X.w) X.A (.compLoop (two elt tgt iter tgt2 iter2 ifs ifs2 scope pos) 1 (.ref it2) (.ref D) (compEnvC scope (zbn X.env scope.names []) h3.objs.size X.env))
      (fun r s6=>r=.ok .next/\∃m,m<n/\∃i σ' H',Inv (cxC X N' scope h3.objs.size { s2 with heap:=h3 } H3 fp pins) [] σ' H' s6/\tn i s6.heap/\(∀b∈fp,H' b=none)/\W i m σ' H') s11:=by
     refine ybx (fun k s'=>∃j σ' H',Inv (cxC X N' scope h3.objs.size { s2 with heap:=h3 } H3 fp pins) ([]++zcx fp s7.heap) σ' H' s'/\tn2 j s'.heap/\(∀b∈fp2,H' b=none)/\W2 j k σ' H') ?_ m2 ⟨0,σ8,H11,I11,st11,fun b hb=>(f11 b hb).1,w2⟩
     rintro k s12 ⟨j,σ12,H12,I12,st12,fr12,w12⟩
     rcases turn2 j k σ12 H12 w12 with ⟨stop2,qn2⟩|⟨go2,N2,hN2,zmy⟩
     ·refine wpAny_mono (T2.done (cxC X N' scope h3.objs.size { s2 with heap:=h3 } H3 fp pins) rfl rfl rfl hcalm j _ s12 σ12 H12 (fun _ _=>False) I12 (stat2 fr12) st12 stop2) (fun r s13 hr=>?_) fun _ _ z=>z
      obtain ⟨hr,I13⟩:=hr
      subst hr
      exact ⟨rfl,again I13 qn2⟩
     ·refine wpAny_mono (T2.item (cxC X N' scope h3.objs.size { s2 with heap:=h3 } H3 fp pins) rfl rfl rfl hcalm j _ s12 σ12 H12 (fun _ _=>False) I12 (stat2 fr12) st12 go2) (fun r s13 hr=>?_) fun _ _ z=>z
      obtain ⟨u2,hr,h13⟩:=hr
      subst hr
      refine wpAny_mono h13 (fun _ s14 h14=>?_) fun _ _ z=>z
      obtain ⟨x2,H14,I14,r14,y14,st14,fr14⟩:=h14
      have I14':=I14.pinned (stat2 fr14) (T2.obj _ _ st14)
      refine wpAny_mono (hg2 _ _ _ _ _ _ s14 σ12 H14 x2 u2 _ I14' r14 (zmy x2 H14 y14)) (fun _ s15 h15=>?_) fun _ _ z=>z
      obtain ⟨σ15,H15,I15,q15⟩:=h15
      have again2:∀{H16:Hp} {s16:Shared},Inv (cxC X N' scope h3.objs.size { s2 with heap:=h3 } H3 fp pins) (([]++zcx fp s7.heap)++zcx fp2 s14.heap) σ15 H16 s16->N2 σ15 H16->∃m,m<k/\∃j σ' H',Inv (cxC X N' scope h3.objs.size { s2 with heap:=h3 } H3 fp pins) ([]++zcx fp s7.heap) σ' H' s16/\tn2 j s16.heap/\(∀b∈fp2,H' b=none)/\W2 j m σ' H':=fun {H16 s16} I16 n16=>by
       obtain ⟨m',hm,w16⟩:=hN2 σ15 H16 n16
       refine ⟨m',hm,j+1,σ15,H16,I16.unpinned,T2.keep _ _ _ st14 fun b hb o e=>(I16.pin (b,o) (List.mem_append_right _ (List.mem_append_right _ (zc4 hb e)))).1,fun b hb=>?_,w16⟩
       obtain ⟨o,e,d⟩:=T2.obj _ _ st14 b hb
       exact (I16.pin (b,o) (List.mem_append_right _ (List.mem_append_right _ (zc4 hb e)))).2.1
      refine wpAny_mono (ht2 _ _ _ _ _ _ s15 σ15 H15 _ I15 q15) (fun ok s16 h16=>?_) fun _ _ z=>z
      obtain ⟨H16,I16,q16⟩:=h16
      cases ok with
      | false=>exact again2 I16 q16
      | true =>
       refine wpAny_mono (he _ _ _ _ _ _ s16 σ15 H16 _ I16 q16) (fun y s17 h17=>?_) fun _ _ z=>z
       obtain ⟨vy,H17,I17,r17,ys,hys,hz,nx⟩:=h17
       refine wpAny_mono (zim (X:=cxC X N' scope h3.objs.size { s2 with heap:=h3 } H3 fp pins) _ s17 σ15 H17 (.ref D) [vy] (.ref D) [y] (fun _ H'=>N2 σ15 H') I17 rfl (.cons r17 .nil) ⟨D,ys,vy,rfl,rfl,hys,hz,nx⟩) (fun _ s18 h18=>?_) fun _ _ z=>z
       obtain ⟨_,H18,I18,_,n18⟩:=h18
       exact again2 I18 n18
    exact ybw inner (T2.self _ 0 _ _ _ st11 inner)
 exact codeAny_compStart_list loop (T.self _ 0 _ _ _ st4 loop)
end L3
namespace L3
open PySem PySem.Spec PyProof.Rows L2
theorem yb0 {X:Cx}{N':List Str}{elt iter tgt iter2 tgt2:Expr}{ifs ifs2:List Expr}{scope:Scope}{pos:Pos}{wi wi2:TI}{src:St->St}{g g2:TG}{tts tts2:TT}{t:TE}(hcalm:X.calm=true) (sc:CompSc X N' scope src)
  (hi:PI X tgt iter wi) (hg:∀C s H fp pins,PG (cxC X N' scope C s H fp pins) tgt g) (ht:∀C s H fp pins,PTs (cxC X N' scope C s H fp pins) ifs tts) (he:∀C s H fp pins,PE (cxC X N' scope C s H fp pins) elt t)
  (hi2:∀C s H fp pins,PI (cxC X N' scope C s H fp pins) tgt2 iter2 wi2) (hg2:∀C s H fp pins,PG (cxC X N' scope C s H fp pins) tgt2 g2) (ht2:∀C s H fp pins,PTs (cxC X N' scope C s H fp pins) ifs2 tts2)
  (hs:∀x,foldedSetIterable iter X.env x=pure x) (hs2:∀C s H fp pins x,foldedSetIterable iter2 (cxC X N' scope C s H fp pins).env x=pure x) :
  PE X (.ListComp elt [⟨tgt,iter,ifs,0⟩,⟨tgt2,iter2,ifs2,0⟩] scope pos) (zl6 X.K wi src g tts wi2 g2 tts2 t):=by
 intro pins s σ H Q I h
 rw [eval_ListComp]
 refine ybz (use:=none) hcalm sc hi hg ht he hi2 hg2 ht2 hs hs2 I h fun D H5 s6 C mC IX fp hn q=>⟨mC,hn,fun h'' sb=>⟨.ref D,H5,?_,rfl,q⟩⟩
 exact IX.turned (t':=s6.toks) (fun b o hb e=>sb.extBut b o hb e) fp.1 fp.2.1 fp.2.2.2.1 fp.2.2.2.2.1 fp.2.2.2.2.2
noncomputable abbrev RM:=Lo->Sto->Option ((Int × Nat) × Sto)
inductive tr (K:PySem.W.Frag) (r:RM) (σ:St) (H:Hp) (R:It->Hp->Prop):Prop
 | mk (ρ:_) (l:_) (S:_) (lo:_) (n:_) (S':_) (_:Sim K ρ S H) (_:RO ρ H l σ) (_:r l S=some ((lo,n),S')) (_:∀ρ' H',Ext ρ H ρ' H'->Sim K ρ' S' H'->R (Itr lo n) H')
noncomputable def PR3 (X:Cx) (tgt iter:Expr) (r:RM):Prop:=PI X tgt iter (tr X.K r)
section
variable {X:Cx}{tgt:Expr}{mA:AM}{p0 pos':Pos}{a a2:Expr}
theorem yb1 (hgl:Gl X "range") (hmg:X.mg "range" = none) (ha:PA3 X [a,a2] mA) (hst:starEach [a,a2] X.env=[(false,eval a X.env),(false,eval a2 X.env)]:=by rfl) (hst2:starEach [a2] X.env=[(false,eval a2 X.env)]:=by rfl):PR3 X tgt (.Call (.Name "range" p0) [a,a2] [] pos') (zf7 mA) :=
 PI.imp (zv2 hgl hmg ha hst hst2) fun σ H R hx2_=>by
  obtain ⟨ρ,l,S,lo,n,S',sim,ro,q1,p⟩:=hx2_
  obtain ⟨⟨xs,S2⟩,q2,q1⟩:=bnd q1
  dsimp only at q1
  split at q1
  ·rename_i i0 j
   obtain ⟨hz,e⟩:=zbl q1
   cases e
   refine ⟨ρ,l,S,[.int lo,.int j],_,sim,ro,q2,fun ρ1 H1 vs e1 s1 r1=>?_⟩
   obtain ⟨v,u,rfl,rv,ru⟩:=r1.two
   cases rv;cases ru
   exact ⟨lo,j,rfl,hz,p ρ1 H1 e1 s1⟩
  ·cases q1
end
noncomputable def zcu (xs:List D) (g:GM) (t:TM) (e:EM):Nat->Nat->Lo->Sto->Option (List D × Lo × Sto)
 | 0,_,_,_=>none
 | k+1,i,l,S=>match xs[i]? with
  | none=>some ([],l,S)
  | some x=>(g x l S).bind fun p=>(t p.1 p.2).bind fun q=>if q.1=true then (e p.1 q.2).bind fun r=>(zcu xs g t e k (i+1) p.1 r.2).bind fun z=>some (r.1 :: z.1,z.2) else zcu xs g t e k (i+1) p.1 q.2
noncomputable def zc2 (it:ItM) (g:GM) (t:TM) (r:RM) (g2:GM) (t2:TM) (e:EM):Nat->Nat->Lo->Sto->Option (List D × Sto)
 | 0,_,_,_=>none
 | k+1,i,l,S=>(it i S).bind fun o=>match o with
  | none=>some ([],S)
  | some x=>(g x l S).bind fun p=>(t p.1 p.2).bind fun q=>if q.1=true then (r p.1 q.2).bind fun y=>(zcu (zav y.1.1 y.1.2) g2 t2 e (y.1.2+1) 0 p.1 y.2).bind fun u=>(zc2 it g t r g2 t2 e k (i+1) u.2.1 u.2.2).bind fun z=>some (u.1++z.1,z.2) else zc2 it g t r g2 t2 e k (i+1) p.1 q.2
noncomputable def zjp (im:IM) (ixs:List (Option Nat)) (g:GM) (t:TM) (r:RM) (g2:GM) (t2:TM) (e:EM):EM:=fun l S=>(im l S).bind fun p=>(zc2 p.1 g t r g2 t2 e p.2.1 0 (za3 ixs l) p.2.2).bind fun z=>if z.1.length<=sizeLine then some (.ref z.2.length,z.2++[.lst z.1]) else none
inductive CI2 (K:PySem.W.Frag) (it:ItM) (g:GM) (t:TM) (r:RM) (g2:GM) (t2:TM) (e:EM) (S2:Sto) (all:List D) (ρ1:List Addr) (H1:Hp) (Da:Addr) (i m:Nat) (σ':St) (H':Hp):Prop
 | mk (ρ':List Addr) (l':Lo) (S':Sto) (ds:List D) (vs:List V) (rest:List D) (_:Ext ρ1 H1 ρ' H') (_:Sim K ρ' S' H') (_:RO ρ' H' l' σ') (_:H' Da=some (.lst vs)) (_:(∀n:Nat,ρ'[n]?≠some Da)) (_:RDs ρ' H' ds vs) (_:zc2 it g t r g2 t2 e m i l' S' = some (rest,S2)) (_:ds++rest=all)
inductive CI2i (K:PySem.W.Frag) (lo:Int) (n:Nat) (g2:GM) (t2:TM) (e:EM) (l6:Lo) (S6:Sto) (rest' all:List D) (ρ1:List Addr) (H1:Hp) (Da:Addr) (i m:Nat) (σ':St) (H':Hp):Prop
 | mk (ρ':List Addr) (l':Lo) (S':Sto) (ds:List D) (vs:List V) (rest2:List D) (_:Ext ρ1 H1 ρ' H') (_:Sim K ρ' S' H') (_:RO ρ' H' l' σ') (_:H' Da=some (.lst vs)) (_:(∀n:Nat,ρ'[n]?≠some Da)) (_:RDs ρ' H' ds vs) (_:zcu (zav lo n) g2 t2 e m i l' S' = some (rest2,l6,S6)) (_:ds++rest2++rest' = all)
theorem yb2 {K:PySem.W.Frag}{im:IM}{ixs:List (Option Nat)}{g g2:GM}{t t2:TM}{r:RM}{e:EM}(σ:St) (H:Hp) (Q:VK) (q:te K (zjp im ixs g t r g2 t2 e) σ H Q):zl6 K (ti K im) (za3 ixs) (tg K g) (tt K t) (tr K r) (tg K g2) (tt K t2) (te K e) σ H Q:=by
 obtain ⟨ρ,l,S,v,S',sim,ro,hm,p⟩:=q
 obtain ⟨⟨it,k,S1⟩,q1,hm⟩:=bnd hm
 obtain ⟨⟨all,S2⟩,q2,hm⟩:=bnd hm
 obtain ⟨hz,he⟩:=zbl hm
 cases he
 refine ⟨ρ,l,S,it,k,S1,sim,ro,q1,fun ρ1 H1 J e1 s1 io D hD hK=>?_⟩
 dsimp only at q2 hz p
 refine ⟨fun i m σ' H'=>CI2 K it g t r g2 t2 e S2 all ρ1 H1 D i m σ' H',⟨k,?_⟩,?_⟩
 ·exact ⟨ρ1,za3 ixs l,S1,[],[],all,zcq hD,s1.laid hD,(zk0 ixs (ro.mono e1)).mono (zcq hD),zb7,s1.notin hD hK,.nil,q2,rfl⟩
 ·rintro i m σ' H' ⟨ρ',l',S',ds,vs,rest,e2,s2,ro2,hD2,hn2,rd2,hc,hall⟩
  cases m with
  | zero=>cases hc
  | succ m =>
   unfold zc2 at hc
   obtain ⟨o,ho,hc⟩:=bnd hc
   obtain ⟨iStop,iGo⟩:=io i ρ' S' H' e2 s2
   cases o with
   | none =>
    cases hc
    rw [List.append_nil] at hall
    subst hall
    refine .inl ⟨iStop ho,p (ρ'++[D]) H' (.ref D) (e1.trans (e2.adopt hD)) (s2.adopt hD2 hn2 rd2) (.ref ?_)⟩
    rw [←s2.len];exact zdy ρ' D
   | some x =>
    obtain ⟨⟨l3,S3⟩,q3,hc⟩:=bnd hc
    obtain ⟨⟨b,S4⟩,q4,hc⟩:=bnd hc
    obtain ⟨hgo,hy⟩:=iGo x ho
    refine .inr ⟨hgo,_,fun σ' H' h=>h,fun y H'' hyl=>?_⟩
    obtain ⟨rfl,ry⟩:=hy y H'' hyl
    refine ⟨ρ',l',S',x,l3,S3,s2,ro2,ry,q3,fun ρ3 H3 σ3 e3 s3 ro3=>⟨ρ3,l3,S3,b,S4,s3,ro3,q4,fun ρ4 H4 e4 s4=>?_⟩⟩
    obtain ⟨hD3,hn3⟩:=e3.out D _ hD2 hn2
    obtain ⟨hD4,hn4⟩:=e4.out D _ hD3 hn3
    cases b with
    | false=>exact zee ⟨m,Nat.lt_succ_self m,ρ4,l3,S4,ds,vs,rest,e2.trans (e3.trans e4),s4,ro3.mono e4,hD4,hn4,rd2.mono (e3.trans e4),hc,hall⟩
    | true =>
     have hc:((r l3 S4).bind fun y=>(zcu (zav y.1.1 y.1.2) g2 t2 e (y.1.2+1) 0 l3 y.2).bind fun u=>(zc2 it g t r g2 t2 e m (i+1) u.2.1 u.2.2).bind fun z=>some (u.1++z.1,z.2))=some (rest,S2):=hc
     obtain ⟨⟨⟨lo,n⟩,S5⟩,q5,hc⟩:=bnd hc
     obtain ⟨⟨r1,l6,S6⟩,q6,hc⟩:=bnd hc
     obtain ⟨⟨rest',S7⟩,q7,hc⟩:=bnd hc
     cases hc
     dsimp only at q6 q7
     refine zef ⟨ρ4,l3,S4,lo,n,S5,s4,ro3.mono e4,q5,fun ρ5 H5 e5 s5=>?_⟩
     obtain ⟨hD5,hn5⟩:=e5.out D _ hD4 hn4
     refine ⟨fun j m2 σ' H'=>CI2i K lo n g2 t2 e l6 S6 rest' all ρ1 H1 D j m2 σ' H',⟨n+1,?_⟩,?_⟩
     ·exact ⟨ρ5,l3,S5,ds,vs,r1,e2.trans (e3.trans (e4.trans e5)),s5,(ro3.mono e4).mono e5,hD5,hn5,rd2.mono (e3.trans (e4.trans e5)),q6,by rw [←hall,List.append_assoc]⟩
     ·rintro j m2 σ6 H6 ⟨ρ6,l7,S8,ds6,vs6,rest6,e6,s6,ro6,hD6,hn6,rd6,hc6,hall6⟩
      cases m2 with
      | zero=>cases hc6
      | succ m2 =>
       unfold zcu at hc6
       cases hx:(zav lo n)[j]? with
       | none =>
        rw [hx] at hc6
        cases hc6
        have hj:n<=j:=by
         have:=List.getElem?_eq_none_iff.mp hx
         simpa [zav] using this
        rw [List.append_nil] at hall6
        exact .inl ⟨hj,m,Nat.lt_succ_self m,ρ6,l6,S6,ds6,vs6,rest',e6,s6,ro6,hD6,hn6,rd6,q7,hall6⟩
       | some y =>
        rw [hx] at hc6
        obtain ⟨hj,hy⟩:j<n/\y=.int (lo+j):=by
         have hl:=(List.getElem?_eq_some_iff.mp hx).1
         simp only [zav,List.length_map,List.length_range] at hl
         unfold zav at hx
         rw [List.getElem?_map,List.getElem?_range hl] at hx
         cases hx
         exact ⟨hl,rfl⟩
        subst hy
        obtain ⟨⟨l9,S9⟩,q9,hc6⟩:=bnd hc6
        obtain ⟨⟨b9,S10⟩,q10,hc6⟩:=bnd hc6
        refine .inr ⟨hj,_,fun σ' H' h=>h,fun z H'' ⟨hz1,hz2⟩=>?_⟩
        subst hz1
        rw [hz2]
        refine ⟨ρ6,l7,S8,_,l9,S9,s6,ro6,.int _,q9,fun ρ7 H7 σ7 e7 s7 ro7=>⟨ρ7,l9,S9,b9,S10,s7,ro7,q10,fun ρ8 H8 e8 s8=>?_⟩⟩
        obtain ⟨hD7,hn7⟩:=e7.out D _ hD6 hn6
        obtain ⟨hD8,hn8⟩:=e8.out D _ hD7 hn7
        cases b9 with
        | false=>exact zee ⟨m2,Nat.lt_succ_self m2,ρ8,l9,S10,ds6,vs6,rest6,e6.trans (e7.trans e8),s8,ro7.mono e8,hD8,hn8,rd6.mono (e7.trans e8),hc6,hall6⟩
        | true =>
         have hc6:((e l9 S10).bind fun r=>(zcu (zav lo n) g2 t2 e m2 (j+1) l9 r.2).bind fun z=>some (r.1 :: z.1,z.2))=some (rest6,l6,S6):=hc6
         obtain ⟨⟨y5,S11⟩,q11,hc6⟩:=bnd hc6
         obtain ⟨⟨rest7,l12,S12⟩,q12,hc6⟩:=bnd hc6
         cases hc6
         refine zef ⟨ρ8,l9,S10,y5,S11,s8,ro7.mono e8,q11,fun ρ9 H9 v9 e9 s9 r9=>?_⟩
         obtain ⟨hD9,hn9⟩:=e9.out D _ hD8 hn8
         have e69:=e6.trans (e7.trans (e8.trans e9))
         have rd9:=rd6.mono (e7.trans (e8.trans e9))
         have hlen:vs6.length<sizeLine:=by
          have h1:=rd9.length
          have h2:=congrArg List.length hall6
          rw [List.length_append,List.length_append,List.length_cons] at h2
          omega
         refine ⟨vs6,hD9,hlen,m2,Nat.lt_succ_self m2,ρ9,l9,S11,ds6++[y5],vs6++[v9],rest7,e69.beside hD hD9,s9.beside hD9 hn9,?_,zb7,hn9,((rd9.append (.cons r9 .nil)).mono0 (zf3 hD9)),q12,by rw [←hall6];simp⟩
         have r0:=(ro7.mono e8).mono e9
         exact ⟨r0.len,fun i d h=>let ⟨w,h1,h2⟩:=r0.get i d h;⟨w,h1,h2.mono0 (zf3 hD9)⟩⟩
theorem yb3 {X:Cx}{N':List Str}{elt iter tgt iter2 tgt2:Expr}{ifs ifs2:List Expr}{scope:Scope}{pos:Pos}{im:IM}{ixs:List (Option Nat)}{g g2:GM}{t t2:TM}{r:RM}{e:EM}(hcalm:X.calm=true) (sc:CompSc X N' scope (za3 ixs))
  (hi:PI3 X tgt iter im) (hg:∀C s H fp pins,PG3 (cxC X N' scope C s H fp pins) tgt g) (ht:∀C s H fp pins,PTs (cxC X N' scope C s H fp pins) ifs (tt X.K t))
  (hi2:∀C s H fp pins,PR3 (cxC X N' scope C s H fp pins) tgt2 iter2 r) (hg2:∀C s H fp pins,PG3 (cxC X N' scope C s H fp pins) tgt2 g2) (ht2:∀C s H fp pins,PTs (cxC X N' scope C s H fp pins) ifs2 (tt X.K t2))
  (he:∀C s H fp pins,PE3 (cxC X N' scope C s H fp pins) elt e)
  (hs:∀x,foldedSetIterable iter X.env x=pure x:=by intro _;rfl) (hs2:∀C s H fp pins x,foldedSetIterable iter2 (cxC X N' scope C s H fp pins).env x=pure x:=by intro _ _ _ _ _ _;rfl) :
  PE3 X (.ListComp elt [⟨tgt,iter,ifs,0⟩,⟨tgt2,iter2,ifs2,0⟩] scope pos) (zjp im ixs g t r g2 t2 e) :=
 PE.imp (yb0 (g:=tg X.K g) (g2:=tg X.K g2) (tts:=tt X.K t) (tts2:=tt X.K t2) (t:=te X.K e) hcalm sc hi hg ht he (wi2:=tr X.K r) hi2 hg2 ht2 hs hs2) yb2
end L3
namespace L3
open PySem
theorem zbb {α:Type}{x:α}{p:α->Prop}:(∃d,(some (some x):Option (Option α))=some (some d)/\p d)=p x:=by
 apply propext;constructor
 ·rintro ⟨d,h,q⟩;cases h;exact q
 ·exact fun q=>⟨x,rfl,q⟩
theorem zh3 {α:Type}{x:α}{p:α->Prop}:(∃d,(some x:Option α)=some d/\p d)=p x:=by
 apply propext;constructor
 ·rintro ⟨d,h,q⟩;cases h;exact q
 ·exact fun q=>⟨x,rfl,q⟩
theorem zjq {b:Bool}{p:Bool->Prop}:(∃k,D.bl b=D.bl k/\p k)=p b:=by
 apply propext;constructor
 ·rintro ⟨d,h,q⟩;cases h;exact q
 ·exact fun q=>⟨b,rfl,q⟩
theorem zh4 {b:Int}{p:Int->Prop}:(∃k,([D.int b]:List D)=[D.int k]/\p k)=p b:=by
 apply propext;constructor
 ·rintro ⟨d,h,q⟩;cases h;exact q
 ·exact fun q=>⟨b,rfl,q⟩
theorem zl7 {α:Type}{x y:α}:L2.atI [x,y] 0=some x:=rfl
theorem zl8 {α:Type}{x y:α}:L2.atI [x,y] 1=some y:=rfl
theorem zl9 {α:Type}{x y z:α}:L2.atI [x,y,z] 0=some x:=rfl
theorem zma {α:Type}{x y z:α}:L2.atI [x,y,z] 1=some y:=rfl
theorem zmb {α:Type}{x y z:α}:L2.atI [x,y,z] 2=some z:=rfl
theorem zdu {S:Sto}{xs:List D}:lstOf (S++[.lst xs]) S.length=some xs:=by unfold lstOf;rw [zdy]
theorem yb4 {α:Type}(l:List α) (x y:α):(l++[x]).set l.length y=l++[y]:=by
 induction l with
 | nil=>rfl
 | cons z r ih=>show z :: (r++[x]).set r.length y=_;rw [ih];rfl
theorem zq4 {α:Type}(xs:List α) (i:Int) (h0:0<=i) (h1:i<xs.length):∃x,L2.atI xs i=some x/\x∈xs:=by
 have hl:i.toNat<xs.length:=by omega
 refine ⟨xs[i.toNat],?_,List.getElem_mem hl⟩
 unfold L2.atI L2.ixN
 rw [if_pos h0,if_pos h1]
 simp [hl]
theorem atI_get {α:Type}{xs:List α}{i:Nat}{x:α}(h:xs[i]? = some x):L2.atI xs (i:Int)=some x:=by
 have hl:=(List.getElem?_eq_some_iff.mp h).1
 unfold L2.atI L2.ixN
 rw [if_pos (by omega),if_pos (by omega)]
 simpa using h
section
variable {S:Sto}{Q:D->Sto->Prop}{l:Lo}{QG:Lo->Sto->Prop}
theorem zgp {i j:Int}:Wo (zdr (.int i) (.int j) S) Q=(((-(2 ^ 64)<i/\i<2 ^ 64)∨(-(2 ^ 64)<j/\j<2 ^ 64))/\Q (.int (i*j)) S):=ze0
theorem zh5 {xs:List D}{i:Int}:Wo (zaj (.tup xs) (.int i) S) Q = ∃v,L2.atI xs i=some v/\Q v S:=by
 have e:zaj (.tup xs) (.int i) S=dIx (.tup xs) (.int i) S:=by
  unfold zaj
  cases h:dIx (.tup xs) (.int i) S with
  | some v=>rfl
  | none=>rfl
 rw [e,zi3]
theorem zmc {k:Nat}{i:Int}:Wo (zaj (.ref k) (.int i) S) Q = ∃xs,lstOf S k=some xs/\∃v,L2.atI xs i=some v/\Q v S:=by
 have e:zaj (.ref k) (.int i) S=dIx (.ref k) (.int i) S:=by
  unfold zaj
  cases h:dIx (.ref k) (.int i) S with
  | some v=>rfl
  | none=>rfl
 rw [e,zi4]
theorem zmd {k:Nat}:Wo (zcm [.ref k] S) Q = ∃xs,lstOf S k=some xs/\Q (.int xs.length) S:=zi6
theorem zme {xs:List D}:Wo (zcm [.tup xs] S) Q=Q (.int xs.length) S:=zi5
theorem zmf {i j:Int}:Wo (dNe (.int i) (.int j) S) Q=Q (.bl (!decide (i=j))) S:=zbu
theorem zq5 {n:Nat}:Wo (ze1 [.ref n] S) Q = ∃xs,lstOf S n=some xs/\xs.all zhr=true/\Q (.bl (xs.any isT)) S:=by
 show Wo ((lstOf S n).bind fun xs=>if xs.all zhr=true then some (.bl (xs.any isT),S) else none) Q=_
 rw [zez];simp only [ze0]
theorem zmg {U:String}{b:List D}:Wo (zeu U (.tup b) S) Q=Q (.bl (isI "tuple" U)) S:=zbu
theorem zmh {U:String}:isI U U=true:=by unfold isI;simp
theorem zmi {n m:Nat}{xs:List D}(h1:S[n]? = some (.lst xs)) (h2:S[m]? = some (.lst [])):Wo (zfl (.ref n) (.ref m) S) Q=Q (.bl (!xs.isEmpty)) S:=by
 show Wo (match S[n]?,S[m]? with|some (.lst xs),some (.lst [])=>some (.bl (!xs.isEmpty),S)|_,_=>none) Q=_
 rw [h1,h2];exact zbu
end
noncomputable def Gr (S0 S:Sto):Prop:=∃ex,S=S0++ex
theorem Gr.refl (S:Sto):Gr S S:=⟨[],by rw [List.append_nil]⟩
theorem Gr.trans {A B C:Sto}(h:Gr A B) (g:Gr B C):Gr A C:=by obtain ⟨x,rfl⟩:=h;obtain ⟨y,rfl⟩:=g;exact ⟨x++y,by rw [List.append_assoc]⟩
theorem Gr.push {A B:Sto}(h:Gr A B) (o:Ob):Gr A (B++[o]):=h.trans ⟨[o],rfl⟩
theorem Gr.get {A B:Sto}{n:Nat}{o:Ob}(h:Gr A B) (e:A[n]? = some o):B[n]? = some o:=by
 obtain ⟨x,rfl⟩:=h
 rw [List.getElem?_append_left (List.getElem?_eq_some_iff.mp e).1];exact e
theorem Gr.lst {A B:Sto}{n:Nat}{xs:List D}(h:Gr A B) (e:lstOf A n=some xs):lstOf B n=some xs:=by
 unfold lstOf at e ⊢
 cases q:A[n]? with
 | none=>rw [q] at e;cases e
 | some o=>rw [h.get q];rw [q] at e;exact e
section
variable {it:ItM}{im:IM}{ixs:List (Option Nat)}{g:GM}{t:TM}{e:EM}{l:Lo}{S S1:Sto}{Q:D->Sto->Prop}{k:Nat}
theorem zjr (xs:List D) (R:Nat->List D->Lo->Sto->Prop) (hit:∀i acc l S,R i acc l S->it i S=some xs[i]?)
  (step:∀(i:Nat) x acc l S,xs[i]? = some x->R i acc l S->Wg (g x l S) fun l1 S1=>Wt t l1 S1 fun b S2=>if b=true then We e l1 S2 fun v S3=>R (i+1) (acc++[v]) l1 S3 else R (i+1) acc l1 S2) :
  ∀(n i:Nat) (acc:List D) (l:Lo) (S:Sto),n+i=xs.length->R i acc l S->∃rest S' l',zbq it g t e (n+1) i l S=some (rest,S')/\R xs.length (acc++rest) l' S'
 | 0,i,acc,l,S,hn,h=>by
  have hi:i=xs.length:=by omega
  have e0:=hit i acc l S h
  rw [List.getElem?_eq_none_iff.mpr (by omega)] at e0
  refine ⟨[],S,l,?_,by rw [List.append_nil,←hi];exact h⟩
  unfold zbq;rw [e0];rfl
 | n+1,i,acc,l,S,hn,h=>by
  have hi:i<xs.length:=by omega
  have e0:=hit i acc l S h
  rw [List.getElem?_eq_getElem hi] at e0
  obtain ⟨l1,S1,e1,b,S2,e2,q⟩:=step i _ acc l S (List.getElem?_eq_getElem hi) h
  cases b with
  | true =>
   obtain ⟨v,S3,e3,q⟩:=q
   obtain ⟨rest,S',l',e4,q⟩:=zjr xs R hit step n (i+1) (acc++[v]) l1 S3 (by omega) q
   refine ⟨v :: rest,S',l',?_,by rw [List.append_assoc] at q;exact q⟩
   unfold zbq;rw [e0];show (g _ l S).bind _=_;rw [e1];show (t l1 S1).bind _=_;rw [e2]
   show (e l1 S2).bind _=_;rw [e3];show (zbq it g t e (n+1) (i+1) l1 S3).bind _=_;rw [e4];rfl
  | false =>
   obtain ⟨rest,S',l',e4,q⟩:=zjr xs R hit step n (i+1) acc l1 S2 (by omega) q
   refine ⟨rest,S',l',?_,q⟩
   unfold zbq;rw [e0];show (g _ l S).bind _=_;rw [e1];show (t l1 S1).bind _=_;rw [e2]
   exact e4
theorem zq6 (xs:List D) (R:Nat->List D->Lo->Sto->Prop) (him:im l S=some (it,xs.length+1,S1)) (h0:R 0 [] (za3 ixs l) S1) (hit:∀i acc l S,R i acc l S->it i S=some xs[i]?)
  (step:∀(i:Nat) x acc l S,xs[i]? = some x->R i acc l S->Wg (g x l S) fun l1 S1=>Wt t l1 S1 fun b S2=>if b=true then We e l1 S2 fun v S3=>R (i+1) (acc++[v]) l1 S3 else R (i+1) acc l1 S2)
  (fin:∀acc l' S',R xs.length acc l' S'->acc.length<=sizeLine/\Q (.ref S'.length) (S'++[.lst acc])):We (zbo im ixs g t e) l S Q:=by
 obtain ⟨rest,S',l',h1,h2⟩:=zjr (it:=it) (g:=g) (t:=t) (e:=e) xs R hit step xs.length 0 [] (za3 ixs l) S1 rfl h0
 obtain ⟨hz,q⟩:=fin rest l' S' h2
 refine ⟨_,_,?_,q⟩
 unfold zbo;rw [him];show (zbq it g t e (xs.length+1) 0 (za3 ixs l) S1).bind _=_;rw [h1];show (if _ then _ else _)=_;rw [if_pos hz]
theorem zgq (xs:List D) (F:D->D) (P:Sto->Prop) (L:Lo->Prop) (him:im l S=some (it,xs.length+1,S1)) (h0:P S1) (l0:L (za3 ixs l)) (hit:∀i S,P S->it i S=some xs[i]?) (hz:xs.length<=sizeLine)
  (step:∀x l S,x∈xs->L l->P S->Wg (g x l S) fun l1 S2=>P S2/\L l1/\We e l1 S2 fun v S3=>v=F x/\P S3)
  (fin:∀S',P S'->Q (.ref S'.length) (S'++[.lst (xs.map F)])):We (zbo im ixs g zay e) l S Q:=by
 refine zq6 xs (fun i acc l S=>acc=(xs.take i).map F/\L l/\P S) him ⟨rfl,l0,h0⟩ (fun i acc l S h=>hit i S h.2.2) ?_ ?_
 ·rintro i x acc l S hx ⟨rfl,hl,hp⟩
  obtain ⟨l1,S2,e1,p1,q1,v,S3,e2,rfl,p3⟩:=step x l S (List.mem_of_getElem? hx) hl hp
  refine ⟨l1,S2,e1,?_⟩
  dsimp only
  rw [zps,if_pos rfl]
  refine ⟨_,S3,e2,?_,q1,p3⟩
  rw [List.take_add_one,hx];simp
 ·rintro acc l' S' ⟨rfl,hl,hp⟩
  rw [List.take_length]
  exact ⟨by rw [List.length_map];exact hz,fin S' hp⟩
theorem zmj (xs:List D) (F:D->Option D) (P:Sto->Prop) (L:Lo->Prop) (him:im l S=some (it,xs.length+1,S1)) (h0:P S1) (l0:L (za3 ixs l)) (hit:∀i S,P S->it i S=some xs[i]?) (hz:xs.length<=sizeLine)
  (step:∀x l S,x∈xs->L l->P S->Wg (g x l S) fun l1 S2=>L l1/\Wt t l1 S2 fun b S3=>P S3/\(b=false->F x=none)/\(b=true->We e l1 S3 fun v S4=>F x=some v/\P S4))
  (fin:∀S',P S'->Q (.ref S'.length) (S'++[.lst (xs.filterMap F)])):We (zbo im ixs g t e) l S Q:=by
 refine zq6 xs (fun i acc l S=>acc=(xs.take i).filterMap F/\L l/\P S) him ⟨rfl,l0,h0⟩ (fun i acc l S h=>hit i S h.2.2) ?_ ?_
 ·rintro i x acc l S hx ⟨rfl,hl,hp⟩
  obtain ⟨l1,S2,e1,q1,b,S3,e2,p3,hf,ht⟩:=step x l S (List.mem_of_getElem? hx) hl hp
  refine ⟨l1,S2,e1,b,S3,e2,?_⟩
  have et:xs.take (i+1)=xs.take i++[x]:=by rw [List.take_add_one,hx];rfl
  cases b with
  | true =>
   obtain ⟨v,S4,e4,hv,p4⟩:=ht rfl
   dsimp only
   rw [if_pos rfl]
   refine ⟨v,S4,e4,?_,q1,p4⟩
   rw [et,List.filterMap_append];simp [hv]
  | false =>
   dsimp only
   rw [if_neg Bool.false_ne_true]
   refine ⟨?_,q1,p3⟩
   rw [et,List.filterMap_append];simp [hf rfl]
 ·rintro acc l' S' ⟨rfl,hl,hp⟩
  rw [List.take_length]
  exact ⟨Nat.le_trans (List.length_filterMap_le _ _) hz,fin S' hp⟩
end
theorem yb5 {as:AM}{l:Lo}{S S1:Sto}{j:Int}(h:as l S=some ([.int j],S1)) (hz:-(2 ^ 62)<=j/\j<2 ^ 62):zbg as l S=some ((0,j.toNat),S1):=by
 unfold zbg;rw [h];simp only [Option.bind_some];rw [if_pos hz]
theorem zh6 {as:AM}{l:Lo}{S S1:Sto}{n:Nat}(h:as l S=some ([.int (n:Int)],S1)) (hn:n<1000000000):zco (zbg as) l S=some (itX (zav 0 n),(zav 0 n).length+1,S1):=by
 have:=yb5 h ⟨by omega,by omega⟩
 unfold zco;rw [this];simp only [Option.bind_some,Int.toNat_natCast,zda]
theorem zmk {e:EM}{l:Lo}{S S1:Sto}{n:Nat}{xs:List D}(h:e l S=some (.ref n,S1)) (hn:lstOf S1 n=some xs):zcn e l S=some (itL n,xs.length+1,S1):=by
 unfold zcn;rw [h];show (lstOf S1 n).bind _=_;rw [hn];rfl
theorem zml {n i:Nat}{S:Sto}{xs:List D}(hn:lstOf S n=some xs):itL n i S=some xs[i]?:=by unfold itL;rw [hn];rfl
section
variable {g:GM}{b:SM}
theorem zmm (P:Nat->Lo->Sto->Prop) (O:D->Sto->Prop):∀(xs:List D) (k:Nat) (l:Lo) (S:Sto),P k l S ->
  (∀(i:Nat) x l S,xs[i]? = some x->P (k+i) l S->Wg (g x l S) fun l1 S1=>Ws b l1 S1 fun f l2 S2=>((f=.nx∨f=.ct)/\P (k+i+1) l2 S2)∨∃d,f=.rt d/\O d S2) ->
  Wr (zcs g b xs l S) fun f l' S'=>(f=.nx/\P (k+xs.length) l' S')∨∃d,f=.rt d/\O d S'
 | [],k,l,S,h0,_=>⟨_,_,_,rfl,.inl ⟨rfl,h0⟩⟩
 | x :: xs,k,l,S,h0,hs=>by
  obtain ⟨l1,S1,e1,f,l2,S2,e2,q⟩:=hs 0 x l S rfl h0
  rcases q with ⟨hf,h1⟩|⟨d,rfl,hd⟩
  ·have ih:=zmm P O xs (k+1) l2 S2 h1 fun i y l S hy hp=>by
    have:=hs (i+1) y l S (by simpa using hy) (by rw [show k+(i+1)=k+1+i by omega];exact hp)
    rw [show k+(i+1)+1=k+1+i+1 by omega] at this
    exact this
   obtain ⟨f',l',S',e3,q1⟩:=ih
   refine ⟨f',l',S',?_,by rw [List.length_cons,show k+(xs.length+1)=k+1+xs.length by omega];exact q1⟩
   unfold zcs
   rw [e1];show (b l1 S1).bind _=_;rw [e2]
   rcases hf with rfl|rfl <;> exact e3
  ·refine ⟨_,l2,S2,?_,.inr ⟨d,rfl,hd⟩⟩
   unfold zcs
   rw [e1];show (b l1 S1).bind _=_;rw [e2];rfl
theorem zh7 (P:Nat->Lo->Sto->Prop) (O:D->Sto->Prop) {as:AM}{l:Lo}{S S1:Sto}{n:Nat}{QS:Fl->Lo->Sto->Prop}(h:as l S=some ([.int (n:Int)],S1)) (hn:n<1000000000) (h0:P 0 l S1)
  (step:∀(i:Nat) l S,i<n->P i l S->Wg (g (.int i) l S) fun l1 S1=>Ws b l1 S1 fun f l2 S2=>((f=.nx∨f=.ct)/\P (i+1) l2 S2)∨∃d,f=.rt d/\O d S2)
  (fin:∀l' S',P n l' S'->QS .nx l' S') (out:∀d l' S',O d S'->QS (.rt d) l' S'):Ws (zd1 (zbg as) g b) l S QS:=by
 rw [zpt]
 refine ⟨_,_,h,(n:Int),rfl,⟨by omega,by omega⟩,?_⟩
 rw [Int.toNat_natCast]
 refine (zmm P O (zav 0 n) 0 l S1 h0 ?_).mono ?_
 ·intro i x l S hx hp
  obtain ⟨hi,rfl⟩:=zi9 hx
  rw [Nat.zero_add] at hp
  have:=step i l S hi hp
  rw [Int.zero_add,Nat.zero_add]
  exact this
 ·rintro f l' S' (⟨rfl,hp⟩|⟨d,rfl,hd⟩)
  ·rw [zda,Nat.zero_add] at hp;exact fin l' S' hp
  ·exact out d l' S' hd
end
end L3
namespace L3
open PySem
section
variable {S:Sto}{Q:D->Sto->Prop}{l:Lo}
theorem zmn {i j:Int}:Wo (zci (.int i) (.int j) S) Q=Q (.int (i+j)) S:=zbu
theorem zmo {xs ys:List D}:Wo (zci (.tup xs) (.tup ys) S) Q=(xs.length+ys.length<=sizeLine/\Q (.tup (xs++ys)) S):=ze0
end
section
variable {it:ItM}{im:IM}{g:GM}{b:SM}
theorem yb6 {e:EM}(xs:List D) (P:Nat->Lo->Sto->Prop) (O:D->Sto->Prop) {l:Lo}{S S1:Sto}{QS:Fl->Lo->Sto->Prop}(he:e l S=some (.tup xs,S1)) (h0:P 0 l S1)
  (step:∀(i:Nat) x l S,xs[i]? = some x->P i l S->Wg (g x l S) fun l1 S1=>Ws b l1 S1 fun f l2 S2=>((f=.nx∨f=.ct)/\P (i+1) l2 S2)∨∃d,f=.rt d/\O d S2)
  (fin:∀l' S',P xs.length l' S'->QS .nx l' S') (out:∀d l' S',O d S'->QS (.rt d) l' S'):Ws (zc0 e g b) l S QS:=by
 rw [zlh]
 refine ⟨_,_,he,?_⟩
 refine (zmm P O xs 0 l S1 h0 ?_).mono ?_
 ·intro i x l S hx hp
  rw [Nat.zero_add] at hp ⊢
  exact step i x l S hx hp
 ·rintro f l' S' (⟨rfl,hp⟩|⟨d,rfl,hd⟩)
  ·rw [Nat.zero_add] at hp;exact fin l' S' hp
  ·exact out d l' S' hd
theorem zq7 {n:Nat}(xs:List D) (P:Nat->Lo->Sto->Prop) (O:D->Sto->Prop) (hit:∀i l S,P i l S->lstOf S n=some xs)
  (step:∀(i:Nat) x l S,xs[i]? = some x->P i l S->Wg (g x l S) fun l1 S1=>Ws b l1 S1 fun f l2 S2=>((f=.nx∨f=.ct)/\P (i+1) l2 S2)∨∃d,f=.rt d/\O d S2) :
  ∀(k i:Nat) (l:Lo) (S:Sto),k+i=xs.length->P i l S->Wr (zc7 g b n (k+1) i l S) fun f l' S'=>(f=.nx/\P xs.length l' S')∨∃d,f=.rt d/\O d S'
 | 0,i,l,S,hn,h=>by
  have hi:i=xs.length:=by omega
  refine ⟨.nx,l,S,?_,.inl ⟨rfl,by rw [←hi];exact h⟩⟩
  unfold zc7;rw [hit i l S h];simp only [Option.bind_some];rw [List.getElem?_eq_none_iff.mpr (by omega)]
 | k+1,i,l,S,hn,h=>by
  have hi:i<xs.length:=by omega
  obtain ⟨l1,S1,e1,f,l2,S2,e2,q⟩:=step i _ l S (List.getElem?_eq_getElem hi) h
  rcases q with ⟨hf,h1⟩|⟨d,rfl,hd⟩
  ·obtain ⟨f',l',S',e3,q1⟩:=zq7 xs P O hit step k (i+1) l2 S2 (by omega) h1
   refine ⟨f',l',S',?_,q1⟩
   unfold zc7;rw [hit i l S h];simp only [Option.bind_some];rw [List.getElem?_eq_getElem hi];show (g _ l S).bind _=_;rw [e1];show (b l1 S1).bind _=_;rw [e2]
   rcases hf with rfl|rfl <;> exact e3
  ·refine ⟨_,l2,S2,?_,.inr ⟨d,rfl,hd⟩⟩
   unfold zc7;rw [hit i l S h];simp only [Option.bind_some];rw [List.getElem?_eq_getElem hi];show (g _ l S).bind _=_;rw [e1];show (b l1 S1).bind _=_;rw [e2];rfl
theorem zh8 {e:EM}{n:Nat}(xs:List D) (P:Nat->Lo->Sto->Prop) (O:D->Sto->Prop) {l:Lo}{S S1:Sto}{QS:Fl->Lo->Sto->Prop}(he:e l S=some (.ref n,S1)) (h0:P 0 l S1) (hit:∀i l S,P i l S->lstOf S n=some xs)
  (step:∀(i:Nat) x l S,xs[i]? = some x->P i l S->Wg (g x l S) fun l1 S1=>Ws b l1 S1 fun f l2 S2=>((f=.nx∨f=.ct)/\P (i+1) l2 S2)∨∃d,f=.rt d/\O d S2)
  (fin:∀l' S',P xs.length l' S'->QS .nx l' S') (out:∀d l' S',O d S'->QS (.rt d) l' S'):Ws (zc0 e g b) l S QS:=by
 rw [zlh]
 refine ⟨_,_,he,?_⟩
 simp only
 rw [hit 0 l S1 h0];simp only [Option.bind_some]
 refine (zq7 xs P O hit step xs.length 0 l S1 rfl h0).mono ?_
 rintro f l' S' (⟨rfl,hp⟩|⟨d,rfl,hd⟩)
 ·exact fin l' S' hp
 ·exact out d l' S' hd
end
end L3
namespace L3
open PySem
theorem zmp (B:Nat):∀ts:List Str,(∀t∈ts,t.length<=B)->(ts.map (·.length)).sum<=B*ts.length
 | [],_=>Nat.zero_le _
 | t :: ts,h=>by
  have h1:=h t List.mem_cons_self
  have h2:=zmp B ts fun x hx=>h x (List.mem_cons_of_mem _ hx)
  simp only [List.map_cons,List.sum_cons,List.length_cons]
  rw [Nat.mul_add];omega
theorem zq8 (xs:List PyData):PyData.shownAll xs=xs.map PyData.shown:=by
 induction xs with
 | nil=>rfl
 | cons x xs ih=>unfold PyData.shownAll;rw [ih];rfl
theorem yb7 (B:Nat) (xs:List PyData) (h:∀x∈xs,x.shown.length<=B):(PyData.list xs).shown.length<=B*xs.length+2*xs.length+3:=by
 show (listText (PyData.shownAll xs)).length<=_
 rw [zq8]
 have h1:=listText_len_le (xs.map PyData.shown)
 have h2:=zmp B (xs.map PyData.shown) fun t ht=>by
  obtain ⟨p,hp,rfl⟩:=List.mem_map.mp ht
  exact h p hp
 simp only [List.length_map] at h1 h2
 omega
theorem yb8 (B:Nat) (xs:List PyData) (h:∀x∈xs,x.shown.length<=B):(PyData.tuple xs).shown.length<=B*xs.length+2*xs.length+3:=by
 show (tupleText (PyData.shownAll xs)).length<=_
 rw [zq8]
 have h1:=tupleText_len_le (xs.map PyData.shown)
 have h2:=zmp B (xs.map PyData.shown) fun t ht=>by
  obtain ⟨p,hp,rfl⟩:=List.mem_map.mp ht
  exact h p hp
 simp only [List.length_map] at h1 h2
 omega
noncomputable def Sh (S:Sto) (k B:Nat) (d:D):Prop:=∃p:PyData,p.shown.length<=B/\∀S',Gr S S'->zax S' k d=some p
theorem Sh.le {S:Sto}{k B B':Nat}{d:D}(h:Sh S k B d) (hb:B<=B'):Sh S k B' d:=let ⟨p,h1,h2⟩:=h;⟨p,Nat.le_trans h1 hb,h2⟩
theorem zmq {S:Sto}{k B:Nat}:∀(xs:List D),(∀x∈xs,Sh S k B x)->∃ps:List PyData,ps.length=xs.length/\(∀p∈ps,p.shown.length<=B)/\∀S',Gr S S'->zb9 S' k xs=some ps
 | [],_=>⟨[],rfl,(fun p hp=>by cases hp),fun ex _=>by unfold zb9;rfl⟩
 | x :: xs,h=>by
  obtain ⟨p,h1,h2⟩:=h x List.mem_cons_self
  obtain ⟨ps,h3,h4,h5⟩:=zmq xs fun y hy=>h y (List.mem_cons_of_mem _ hy)
  refine ⟨p :: ps,by simp [h3],fun q hq=>?_,fun ex g=>?_⟩
  ·rcases List.mem_cons.mp hq with rfl|hq
   ·exact h1
   ·exact h4 q hq
  ·unfold zb9;rw [h2 ex g,h5 ex g];rfl
theorem yb9 {S:Sto}{k B n:Nat}{xs:List D}(h:∀x∈xs,Sh S k B x) (hn:xs.length<=n):Sh S (k+1) (B*n+2*n+3) (.tup xs):=by
 obtain ⟨ps,h1,h2,h3⟩:=zmq xs h
 refine ⟨.tuple ps,?_,fun ex g=>?_⟩
 ·have:=yb8 B ps h2
  rw [h1] at this
  have h4:B*xs.length<=B*n:=Nat.mul_le_mul_left _ hn
  omega
 ·unfold zax;rw [h3 ex g];rfl
theorem yca {S:Sto}{k B n j:Nat}{xs:List D}(hj:lstOf S j=some xs) (h:∀x∈xs,Sh S k B x) (hn:xs.length<=n):Sh S (k+1) (B*n+2*n+3) (.ref j):=by
 obtain ⟨ps,h1,h2,h3⟩:=zmq xs h
 refine ⟨.list ps,?_,fun ex g=>?_⟩
 ·have:=yb7 B ps h2
  rw [h1] at this
  have h4:B*xs.length<=B*n:=Nat.mul_le_mul_left _ hn
  omega
 ·unfold zax;rw [g.lst hj];show (zb9 ex k xs).bind _=_;rw [h3 ex g];rfl
theorem zq9 {n:Nat}(h:n<1000000):((n:Nat):Int).natAbs.log2<1920:=by
 by_cases hz:n=0
 ·subst hz;decide
 ·have h1:((n:Nat):Int).natAbs=n:=by omega
  rw [h1]
  have h2:n.log2<20:=(Nat.log2_lt hz).mpr (Nat.lt_of_lt_of_le h (by decide))
  omega
theorem zra {S:Sto}{k n:Nat}(h:n<1000000):Sh S (k+1) 10 (.int n):=by
 refine ⟨.int n,?_,fun ex _=>by unfold zax;rw [if_pos (zq9 h)]⟩
 show (PySem.Str.ofString (toString (n:Int))).length<=10
 exact PySem.W.KT.len_num (by omega) (by omega)
theorem zjs {S:Sto}{x:D}{p:PyData}{Q:D->Sto->Prop}(h:zax S 140 x=some p) (hz:p.shown.length<=sizeLine):Wo (zei [x] S) Q=Q (.str p.shown) S:=by
 rw [zy3,h]
 apply propext
 constructor
 ·rintro ⟨pd,e,_,q⟩;cases e;exact q
 ·intro q;exact ⟨p,rfl,hz,q⟩
end L3
namespace L3
open PySem
section
variable {l:Lo}{S:Sto}{Q:D->Sto->Prop}{QG:Lo->Sto->Prop}{a b c:EM}
theorem zrb {x:Str}:We (zlv x) l S Q=Q (.ref S.length) (S++[.fnc x]):=by
 apply propext
 exact ⟨fun hx1_=>by obtain ⟨v,S',h,q⟩:=hx1_;cases h;exact q,fun q=>⟨_,_,rfl,q⟩⟩
theorem zrc:We zjl l S Q=Q (.ref S.length) (S++[.tdct []]):=by
 apply propext
 exact ⟨fun hx2_=>by obtain ⟨v,S',h,q⟩:=hx2_;cases h;exact q,fun q=>⟨_,_,rfl,q⟩⟩
theorem zrd {tab:List (Str × FM)}{as:AM}:We (zjn tab a as) l S Q=We a l S fun v S1=>∃x,zgl S1 v=some x/\∃m,tab.lookup x=some m/\Wa as l S1 fun ys S2=>Wo (m ys S2) Q:=by
 apply propext
 constructor
 ·rintro ⟨v,S',h,q⟩
  obtain ⟨⟨x,S1⟩,h1,h⟩:=bnd h
  obtain ⟨n,h2,h⟩:=bnd h
  obtain ⟨m,h3,h⟩:=bnd h
  obtain ⟨⟨ys,S2⟩,h4,h⟩:=bnd h
  exact ⟨x,S1,h1,n,h2,m,h3,ys,S2,h4,v,S',h,q⟩
 ·rintro ⟨x,S1,h1,n,h2,m,h3,ys,S2,h4,v,S',h,q⟩
  refine ⟨v,S',?_,q⟩
  unfold zjn;rw [h1];show (zgl S1 x).bind _=_;rw [h2];show (tab.lookup n).bind _=_;rw [h3];show (as l S1).bind _=_;rw [h4];exact h
theorem zfs {neg:Bool}{x y:D}:Wo (zct neg y x S) Q = ∃o,dRd S x y=some o/\Q (.bl (if neg then !o.isSome else o.isSome)) S:=by
 unfold zct
 rw [zez];simp only [zbu]
theorem ycb {neg:Bool}{ds:List D}{n:Nat}{ks:List (List Int)}{k:List Int}(h:S[n]? = some (.tset ks)) (hk:zdt ds=some k):Wo (zfo neg (.tup ds) (.ref n) S) Q=Q (.bl (if neg then !decide (k∈ks) else decide (k∈ks))) S:=by
 have:zfo neg (.tup ds) (.ref n) S=some (.bl (if neg then !decide (k∈ks) else decide (k∈ks)),S):=by
  unfold zfo;dsimp only;rw [h];dsimp only;rw [hk];rfl
 rw [this];exact zbu
theorem ycc {ds:List D}{n:Nat}{ks:List (List Int)}{k:List Int}(h:S[n]? = some (.tset ks)) (hk:zdt ds=some k) (hz:ks.length<1000) (hn:k ∉ ks):Wo (zfn (.ref n) [.tup ds] S) Q=Q .non (S.set n (.tset (ks++[k]))):=by
 have:zfn (.ref n) [.tup ds] S=some (.non,S.set n (.tset (ks++[k]))):=by
  unfold zfn;dsimp only;rw [h];dsimp only;rw [hk];show (if _ then _ else _)=_;rw [if_pos hz,if_neg hn]
 rw [this];exact zbu
theorem ycd {n:Nat}{ks:List (List Int)}(h:S[n]? = some (.tset ks)):zgi S (.ref n)=some ():=by unfold zgi;dsimp only;rw [h]
theorem yce {f:D->List D->Sto->Option (D × Sto)}{r:AM}:We (zjj f a r) l S Q=We a l S fun x S1=>zgi S1 x=some ()/\Wa r l S1 fun ys S2=>Wo (f x ys S2) Q:=by
 apply propext
 constructor
 ·rintro ⟨v,S',h,q⟩
  obtain ⟨⟨x,S1⟩,h1,h⟩:=bnd h
  obtain ⟨_,h2,h⟩:=bnd h
  obtain ⟨⟨y,S2⟩,h3,h⟩:=bnd h
  exact ⟨x,S1,h1,h2,y,S2,h3,v,S',h,q⟩
 ·rintro ⟨x,S1,h1,h2,y,S2,h3,v,S',h,q⟩
  refine ⟨_,_,?_,q⟩
  unfold zjj;rw [h1];show (zgi S1 x).bind _=_;rw [h2];show (r l S1).bind _=_;rw [h3];exact h
theorem ycf {i:Nat}{ds:List D}{k:List Int}(h:l[i]? = some (some (.tup ds))) (hk:zdt ds=some k):We (zhu (zaa i)) l S Q=Q (.ref S.length) (S++[.tset [k]]):=by
 have:zhu (zaa i) l S=some (.ref S.length,S++[.tset [k]]):=by
  unfold zhu zaa
  rw [h]
  show (zdt ds).bind _=_
  rw [hk]
  show (match (S++[Ob.tset []])[S.length]? with|some (.tset [])=>_|_=>none)=_
  rw [zdy]
  show some (_,(S++[Ob.tset []]).set S.length (.tset [k]))=_
  rw [yb4]
 apply propext
 constructor
 ·rintro ⟨v,S',e,q⟩;rw [this] at e;cases e;exact q
 ·exact fun q=>⟨_,_,this,q⟩
theorem zmr {o i:EM}{v:D}:Wg (zgk o i v l S) QG=We o l S fun x S1=>We i l S1 fun y S2=>∃S',zfp x y v S2=some S'/\QG l S':=by
 apply propext
 constructor
 ·rintro ⟨l',S',h,q⟩
  obtain ⟨⟨x,S1⟩,h1,h⟩:=bnd h
  obtain ⟨⟨y,S2⟩,h2,h⟩:=bnd h
  obtain ⟨S3,h3,h⟩:=bnd h
  cases h
  exact ⟨x,S1,h1,y,S2,h2,_,h3,q⟩
 ·rintro ⟨x,S1,h1,y,S2,h2,S3,h3,q⟩
  refine ⟨l,S3,?_,q⟩
  unfold zgk;rw [h1];show (i l S1).bind _=_;rw [h2];show (zfp x y v S2).bind _=_;rw [h3];rfl
theorem zre {n:Nat}{kvs:List (List L2.Key × D)}{y v:D}{k:List L2.Key}(h:S[n]? = some (.tdct kvs)) (hk:zcp y=some k) (hz:kvs.length<sizeLine):zfp (.ref n) y v S=some (S.set n (.tdct (zb5 kvs k v))):=by
 unfold zfp;dsimp only;rw [h];dsimp only;rw [hk];show (if _ then _ else _)=_;rw [if_pos hz]
theorem zjt {n:Nat}{kvs:List (List L2.Key × D)}{y:D}{k:List L2.Key}(h:S[n]? = some (.tdct kvs)) (hk:zcp y=some k):dRd S (.ref n) y=some (zaq kvs k):=by
 unfold dRd;dsimp only;rw [h];dsimp only;rw [hk];rfl
theorem zms {n:Nat}{kvs:List (List L2.Key × D)}(h:S[n]? = some (.tdct kvs)):isDc S (.ref n)=some ():=by unfold isDc;dsimp only;rw [h]
end
theorem zrf {c:TM}{b:SM}(I:Nat->Lo->Sto->Prop) (O:D->Sto->Prop) (Q:Lo->Sto->Prop)
  (step:∀m l S,I m l S->Wt c l S fun k S1=>if k=true then Ws b l S1 fun f l2 S2=>((f=.nx∨f=.ct)/\∃m',m' < m/\I m' l2 S2)∨∃d,f=.rt d/\O d S2 else Q l S1) :
  ∀(fuel m:Nat),m<fuel->∀l S,I m l S->Wr (whl c b fuel l S) fun f l' S'=>(f=.nx/\Q l' S')∨∃d,f=.rt d/\O d S'
 | 0,m,h,_,_,_=>absurd h (Nat.not_lt_zero _)
 | fuel+1,m,h,l,S,hi=>by
  obtain ⟨k,S1,e1,h1⟩:=step m l S hi
  cases k with
  | false=>exact ⟨.nx,l,S1,by unfold whl;rw [e1];rfl,.inl ⟨rfl,h1⟩⟩
  | true =>
   have h1:Ws b l S1 fun f l2 S2=>((f=.nx∨f=.ct)/\∃m',m' < m/\I m' l2 S2)∨∃d,f=.rt d/\O d S2:=h1
   obtain ⟨f,l2,S2,e2,q⟩:=h1
   rcases q with ⟨hf,m',hm,hi2⟩|⟨d,rfl,hd⟩
   ·obtain ⟨f',l',S',e3,q⟩:=zrf I O Q step fuel m' (by omega) l2 S2 hi2
    refine ⟨f',l',S',?_,q⟩
    unfold whl;rw [e1];show (b l S1).bind _=_;rw [e2]
    rcases hf with rfl|rfl <;> exact e3
   ·refine ⟨_,l2,S2,?_,.inr ⟨d,rfl,hd⟩⟩
    unfold whl;rw [e1];show (b l S1).bind _=_;rw [e2];rfl
theorem zmt {c:TM}{b:SM}(I:Nat->Lo->Sto->Prop) (O:D->Sto->Prop) (Q:Lo->Sto->Prop) {l:Lo}{S:Sto}{QS:Fl->Lo->Sto->Prop}(m:Nat) (hm:m<1000000) (h0:I m l S)
  (step:∀m l S,I m l S->Wt c l S fun k S1=>if k=true then Ws b l S1 fun f l2 S2=>((f=.nx∨f=.ct)/\∃m',m' < m/\I m' l2 S2)∨∃d,f=.rt d/\O d S2 else Q l S1)
  (fin:∀l' S',Q l' S'->QS .nx l' S') (out:∀d l' S',O d S'->QS (.rt d) l' S'):Ws (whl c b zej) l S QS:=by
 refine Wr.mono (zrf I O Q step zej m hm l S h0) ?_
 rintro f l' S' (⟨rfl,h⟩|⟨d,rfl,h⟩)
 ·exact fin l' S' h
 ·exact out d l' S' h
theorem zaw {m n:SM}{l l':Lo}{S S':Sto}{QS:Fl->Lo->Sto->Prop}(h1:Ws m l S fun f l1 S1=>f=.nx/\l1=l'/\S1=S') (h2:Ws n l' S' QS):Ws (zai m n) l S QS:=by
 rw [zhn]
 obtain ⟨f,l1,S1,e,rfl,rfl,rfl⟩:=h1
 exact ⟨_,_,_,e,h2⟩
theorem zh9 {m n:SM}{l:Lo}{S:Sto}{QS:Fl->Lo->Sto->Prop}(R:Lo->Sto->Prop) (O:D->Sto->Prop) (h1:Ws m l S fun f l1 S1=>(f=.nx/\R l1 S1)∨∃d,f=.rt d/\O d S1) (h2:∀l1 S1,R l1 S1->Ws n l1 S1 QS) (h3:∀d l1 S1,O d S1->QS (.rt d) l1 S1):Ws (zai m n) l S QS:=by
 rw [zhn]
 obtain ⟨f,l1,S1,e,q⟩:=h1
 rcases q with ⟨rfl,r⟩|⟨d,rfl,o⟩
 ·exact ⟨_,_,_,e,h2 l1 S1 r⟩
 ·exact ⟨_,_,_,e,h3 d l1 S1 o⟩
theorem Gr.len {A B:Sto}(h:Gr A B):A.length<=B.length:=by obtain ⟨x,rfl⟩:=h;rw [List.length_append];omega
theorem Gr.set {A B:Sto}{r:Nat}(h:Gr A B) (hr:A.length<=r) (o:Ob):Gr A (B.set r o):=by
 obtain ⟨x,rfl⟩:=h
 exact ⟨x.set (r-A.length) o,by rw [List.set_append_right _ _ hr]⟩
theorem zcg {S:Sto}{n:Nat}{xs:List D}(h:S[n]? = some (.lst xs)):lstOf S n=some xs:=by unfold lstOf;rw [h]
theorem zbz {S:Sto}{o:Ob}:(S++[o])[S.length]? = some o:=zdy S o
theorem zb3 {S:Sto}{n:Nat}{o o':Ob}(h:S[n]? = some o):(S++[o'])[n]? = some o:=by
 rw [List.getElem?_append_left (List.getElem?_eq_some_iff.mp h).1];exact h
theorem zcj {S:Sto}{n:Nat}{o o':Ob}(h:S[n]? = some o):(S.set n o')[n]? = some o':=List.getElem?_set_self (List.getElem?_eq_some_iff.mp h).1
theorem zbc {S:Sto}{n m:Nat}{o o':Ob}(h:S[m]? = some o) (hn:n≠m):(S.set n o')[m]? = some o:=by rw [List.getElem?_set_ne hn];exact h
theorem zem {S:Sto}{n:Nat}{xs:List D}{x:D}{Q:D->Sto->Prop}(h:S[n]? = some (.lst xs)) (hz:xs.length<sizeLine):Wo (zce (.ref n) [x] S) Q=Q .non (S.set n (.lst (xs++[x]))):=by
 rw [zi8,h]
 apply propext
 constructor
 ·rintro ⟨ys,e,_,q⟩;cases e;exact q
 ·exact fun q=>⟨xs,rfl,hz,q⟩
theorem zdv {S:Sto}{n:Nat}{xs:List D}(h:S[n]? = some (.lst xs)):zev (.ref n) S=some xs:=zcg h
end L3
section
namespace G
open PySem PySem.Spec PyProof.Rows L2 L3
noncomputable abbrev bd:List Stmt:=PySem.Challenge.pw_opencells_k07_rooms_that_part.main.body
noncomputable def zrg:SM:=zai (zam (zaf zbw (zae)) (zag 3)) (zai (zc0 (zaa 2) (zag 4) (zai (sIf (tE (eOp dIs (zaa 1) (eC .non))) (za9 (zaf za2 (zac (zaa 3) (zac (eC .non) (zae))))) (zbj)) (zai (zch (zb0 zce (zaa 3) (zac (eOp zaj (eOp zaj (eOp zaj (eOp zaj (zaa 0) (eC (.int 1))) (zaa 1)) (zaa 4)) (eC (.int 1))) zae))) (zam (eOp zaj (eOp zaj (eOp zaj (eOp zaj (zaa 0) (eC (.int 1))) (zaa 1)) (zaa 4)) (eC (.int 0))) (zag 1))))) (za9 (zaf za2 (zac (zaa 3) (zac (zaa 1) (zae))))))
noncomputable def zft:FM:=zbt 5 zrg
noncomputable def zrh:SM:=zai (sIf (zdi (zeq (tE (eUn (zeu "tuple") (zaa 3)))) (tE (eOp zgf (zaa 3) (zaf za2 (zae))))) (za9 (eC (.bl false))) (zbj)) (zai (zam (eOp zaj (zaf zft (zac (zaa 0) (zac (zaa 1) (zac (zaa 3) (zae))))) (eC (.int 0))) (zag 4)) (zai (zam (eOp zaj (zaf zft (zac (zaa 0) (zac (zaa 2) (zac (zaa 3) (zae))))) (eC (.int 0))) (zag 5)) (zai (sIf (zdi (tE (eOp dNe (zaf zcm (zac (zaa 4) (zae))) (zaf zcm (zac (zaa 3) (zae))))) (zdi (tE (eOp dNe (zaf zcm (zac (zaa 5) (zae))) (zaf zcm (zac (zaa 3) (zae))))) (tE (eOp (dIn false) (eC .non) (zaf za2 (zac (eOp zaj (zaa 4) (eUn zgg (eC (.int 1)))) (zac (eOp zaj (zaa 5) (eUn zgg (eC (.int 1)))) (zae)))))))) (za9 (eC (.bl false))) (zbj)) (za9 (eOp dNe (eOp zaj (zaa 4) (eUn zgg (eC (.int 1)))) (eOp zaj (zaa 5) (eUn zgg (eC (.int 1)))))))))
noncomputable def zfu:FM:=zbt 6 zrh
noncomputable def zri:SM:=za9 (zer (eOp zcy (zaa 0) (eC .non)) (zer (eOp zcy (zaa 1) (eC .non)) (eOp dNe (zaa 0) (zaa 1))))
noncomputable def zfv:FM:=zbt 2 zri
noncomputable def zrj:SM:=za9 (zaf zfv (zac (eOp zaj (zaa 0) (eC (.int 1))) (zac (eOp zaj (zaa 1) (eC (.int 1))) (zae))))
noncomputable def zdc:FM:=zbt 2 zrj
noncomputable def zrk:SM:=zai (zam (zaf zbw (zac (zaa 2) (zae))) (zag 4)) (zai (zam (zaf zbw (zac (zaf za2 (zae)) (zae))) (zag 5)) (zai (zam (zhu (zaa 2)) (zag 6)) (zai (zam (eC (.int 0)) (zag 7)) (zai (whl (tE (eOp dLt (zaa 7) (zaf zcm (zac (zaa 4) (zae))))) (zai (zam (eOp zaj (zaa 4) (zaa 7)) (zc6 2 (zb4 (zag 8) (zb4 (zag 9) (zc5))))) (zai (zam (eOp zaj (zaa 5) (zaa 7)) (zag 10)) (zai (zam (eOp zks (zaa 7) (eC (.int 1))) (zag 7)) (zd1 (zbg (zac (eOp zaj (zaa 0) (eC (.int 0))) (zae))) (zag 11) (zai (zam (eOp zaj (eOp zaj (eOp zaj (zaa 0) (eC (.int 1))) (zaa 8)) (zaa 11)) (zag 12)) (zai (zam (eOp zaj (eOp zaj (eOp zaj (zaa 1) (eC (.int 1))) (zaa 9)) (zaa 11)) (zag 13)) (zai (sIf (tE (zjn [("say_unlike",zdc)] (zaa 3) (zac (zaa 12) (zac (zaa 13) (zae))))) (za9 (zaf za2 (zac (eOp zci (zaa 10) (zaf za2 (zac (zaa 11) (zae)))) (zac (zaa 4) (zae))))) (zbj)) (zai (zam (zaf za2 (zac (eOp zaj (zaa 12) (eC (.int 0))) (zac (eOp zaj (zaa 13) (eC (.int 0))) (zae)))) (zag 14)) (sIf (zck (tE (eOp (dIn true) (eC .non) (zaa 14))) (tE (eOp (zfo true) (zaa 14) (zaa 6)))) (zai (zch (zjj zfn (zaa 6) (zac (zaa 14) zae))) (zai (zch (zb0 zce (zaa 4) (zac (zaa 14) zae))) (zch (zb0 zce (zaa 5) (zac (eOp zci (zaa 10) (zaf za2 (zac (zaa 11) (zae)))) zae))))) (zbj)))))))))) zej) (za9 (zaf za2 (zac (eC .non) (zac (zaa 4) (zae)))))))))
noncomputable def zgr:FM:=zbt 15 zrk
noncomputable def zrl:SM:=za9 (eOp zaj (zaf zgr (zac (zaa 0) (zac (zaa 0) (zac (zaf za2 (zac (zaa 1) (zac (zaa 2) (zae)))) (zac (zlv "say_unlike") (zae)))))) (eC (.int 0)))
noncomputable def zfw:FM:=zbt 3 zrl
noncomputable def zrm:SM:=zai (sIf (tE (eOp dGt (eOp zaj (zaa 0) (eC (.int 2))) (eC (.int 0)))) (zai (zam (eOp zdk (eOp zaj (zaa 0) (eC (.int 2))) (zaa 1)) (zag 2)) (zai (zam (eOp zhg (eOp zaj (zaa 0) (eC (.int 2))) (zaa 1)) (zf6 (zaa 0) (eC (.int 2)))) (za9 (zaa 2)))) (zbj)) (zai (zam (eOp zaj (zaa 0) (eC (.int 1))) (zag 3)) (zai (zam (eOp zci (zaa 3) (eC (.int 1))) (zf6 (zaa 0) (eC (.int 1)))) (zai (zam (eC (.int 7)) (zag 4)) (zai (sIf (tE (eOp dGt (zaf zcm (zac (eOp zaj (zaa 0) (eC (.int 0))) (zae))) (eC (.int 0)))) (zam (eOp zaj (eOp zaj (zaa 0) (eC (.int 0))) (eOp zdk (zaa 3) (zaf zcm (zac (eOp zaj (zaa 0) (eC (.int 0))) (zae))))) (zag 4)) (zbj)) (zai (sIf (zck (tE (eOp dLt (zaa 3) (zaf zcm (zac (eOp zaj (zaa 0) (eC (.int 0))) (zae))))) (tE (eOp dGe (zaf zfe (zac (zaa 4) (zae))) (eOp zkt (eC (.int 10)) (eC (.int 18)))))) (zai (zam (eOp zhg (zaf zfe (zac (zaa 4) (zae))) (zaa 1)) (zf6 (zaa 0) (eC (.int 2)))) (za9 (eOp zdk (zaf zfe (zac (zaa 4) (zae))) (zaa 1)))) (zbj)) (zai (zam (zaf zbw (zac (eC (.int 2147483647)) (zac (eC (.int 2147483629)) (zac (eC (.int 2147483587)) (zac (eC (.int 2147483579)) (zac (eC (.int 2147483563)) (zac (eC (.int 2147483549)) (zac (eC (.int 2147483543)) (zae))))))))) (zag 5)) (zai (zam (eOp zaj (zaa 5) (eOp zdk (zaa 3) (eC (.int 7)))) (zag 6)) (zai (zam (eOp zdk (eOp zci (eOp zci (eOp zdr (eOp zdk (zaa 4) (zaa 6)) (eC (.int 48271))) (eOp zdr (eC (.int 40009)) (zaa 3))) (eC (.int 21))) (zaa 6)) (zag 7)) (zai (zam (eOp zdk (eOp zci (eOp zci (eOp zdr (eOp zkt (zaa 7) (eC (.int 3))) (eC (.int 69621))) (eOp zdr (zaa 3) (zaa 3))) (eC (.int 5))) (eOp zaj (zaa 5) (eOp zdk (eOp zci (zaa 3) (eC (.int 3))) (eC (.int 7))))) (zag 7)) (za9 (eOp zdk (eOp zhg (zaa 7) (eC (.int 64))) (zaa 1))))))))))))
noncomputable def zbk:FM:=zbt 8 zrm
noncomputable def zrn:SM:=zai (zam (zaf zcm (zac (eOp zaj (zaa 0) (eC (.int 1))) (zae))) (zag 1)) (za9 (zjp (zco (zbg (zac (zaa 1) (zae)))) [none,none,some 1] (zag 0) (zay) (zf7 (zac (eOp zci (zaa 0) (eC (.int 1))) (zac (zaa 2) (zae)))) (zag 1) (zay) (zaf za2 (zac (zaa 0) (zac (zaa 1) (zae))))))
noncomputable def zdd:FM:=zbt 2 zrn
noncomputable def zro:SM:=zai (zam (zaa 0) (zc6 2 (zb4 (zag 1) (zb4 (zag 2) (zc5))))) (zai (zam (zjl) (zag 3)) (zai (zc0 (zaf zdd (zac (zaa 0) (zae))) (zc6 2 (zb4 (zag 4) (zb4 (zag 5) (zc5)))) (zd1 (zbg (zac (zaa 1) (zae))) (zag 6) (zai (zam (zaf za2 (zac (eOp zaj (eOp zaj (eOp zaj (zaa 2) (zaa 4)) (zaa 6)) (eC (.int 0))) (zac (eOp zaj (eOp zaj (eOp zaj (zaa 2) (zaa 5)) (zaa 6)) (eC (.int 0))) (zae)))) (zag 7)) (sIf (tE (eOp (dIn true) (eC .non) (zaa 7))) (zai (zam (zaf za2 (zac (zaf zh1 (zac (zaa 7) (zae))) (zac (zaf zh2 (zac (zaa 7) (zae))) (zae)))) (zag 8)) (zch (zb0 zce (zfr (zaa 3) (zaa 8) (zaf zbw (zae))) (zac (zaf za2 (zac (zaa 4) (zac (zaa 5) (zae)))) zae)))) (zbj))))) (za9 (zaa 3))))
noncomputable def zgs:FM:=zbt 9 zro
noncomputable def zrp:SM:=zai (zam (zaa 0) (zc6 2 (zb4 (zag 1) (zb4 (zag 2) (zc5))))) (za9 (zbo (zcn (zaf zdd (zac (zaa 0) (zae)))) [none,none,some 1,some 2] (zc6 2 (zb4 (zag 0) (zb4 (zag 1) (zc5)))) (tE (zaf ze1 (zac (zbo (zco (zbg (zac (zaa 2) (zae)))) [none,some 3,some 0,some 1] (zag 0) (zay) (zaf zdc (zac (eOp zaj (eOp zaj (zaa 1) (zaa 2)) (zaa 0)) (zac (eOp zaj (eOp zaj (zaa 1) (zaa 3)) (zaa 0)) (zae))))) (zae)))) (zaf za2 (zac (zaa 0) (zac (zaa 1) (zae))))))
noncomputable def zgt:FM:=zbt 3 zrp
noncomputable def zrq:SM:=zai (zam (zaf zgt (zac (zaa 0) (zae))) (zag 1)) (zai (zam (zaf zgs (zac (zaa 0) (zae))) (zag 2)) (zai (zam (zhx (zcn (zaa 1)) [none] (zag 0) (zay) (zaa 0) (eC (.bl true))) (zag 3)) (zai (whl (tL (zaa 1)) (zai (zam (zb0 zfg (zaa 1) zae) (zag 4)) (zc0 (zgj (zaa 2) (zaa 4) (zaf zbw (zae))) (zag 5) (sIf (tE (eOp (zct true) (zaa 5) (zaa 3))) (zai (zam (eC (.bl true)) (zgk (zaa 3) (zaa 5))) (zch (zb0 zce (zaa 1) (zac (zaa 5) zae)))) (zbj)))) zej) (za9 (zaa 3)))))
noncomputable def zgu:FM:=zbt 6 zrq
noncomputable def zrr:SM:=za9 (zaf zh0 (zac (zaf zgu (zac (zaa 0) (zae))) (zae)))
noncomputable def zen:FM:=zbt 1 zrr
noncomputable def zrs:SM:=zai (zam (zaf za2 (zac (eOp zaj (eOp zaj (eOp zaj (eOp zaj (zaa 0) (eC (.int 1))) (zaa 1)) (zaa 3)) (eC (.int 0))) (zac (eOp zaj (eOp zaj (eOp zaj (eOp zaj (zaa 0) (eC (.int 1))) (zaa 2)) (zaa 3)) (eC (.int 0))) (zae)))) (zag 4)) (zai (sIf (tE (eOp (dIn false) (eC .non) (zaa 4))) (za9 (eC .non)) (zbj)) (za9 (zaa 4)))
noncomputable def ze3:FM:=zbt 5 zrs
noncomputable def zrt:SM:=zai (zam (eOp zaj (eOp zaj (eOp zaj (eOp zaj (zaa 0) (eC (.int 1))) (zaa 1)) (zaa 3)) (eC (.int 1))) (zag 4)) (zai (zam (eOp zaj (eOp zaj (eOp zaj (eOp zaj (zaa 0) (eC (.int 1))) (zaa 2)) (zaa 3)) (eC (.int 1))) (zag 5)) (za9 (zer (eOp zcy (zaa 4) (eC .non)) (zer (eOp zcy (zaa 5) (eC .non)) (eOp dNe (zaa 4) (zaa 5))))))
noncomputable def ze4:FM:=zbt 6 zrt
noncomputable def zru:SM:=zai (zam (zaf zcm (zac (eOp zaj (zaa 0) (eC (.int 1))) (zae))) (zag 1)) (zai (zam (zbo (zco (zbg (zac (eOp zdr (zaa 1) (zaa 1)) (zae)))) [none,some 1] (zag 0) (zay) (zaf za2 (zac (eOp zhg (zaa 0) (zaa 1)) (zac (eOp zdk (zaa 0) (zaa 1)) (zae))))) (zag 2)) (zai (zam (zjl) (zag 3)) (zai (zam (zaf zbw (zae)) (zag 4)) (zai (zc0 (zaa 2) (zc6 2 (zb4 (zag 5) (zb4 (zag 6) (zc5)))) (sIf (tE (zaf ze1 (zac (zbo (zco (zbg (zac (eOp zaj (zaa 0) (eC (.int 0))) (zae)))) [none,some 0,some 5,some 6] (zag 0) (zay) (zaf ze4 (zac (zaa 1) (zac (zaa 2) (zac (zaa 3) (zac (zaa 0) (zae))))))) (zae)))) (zch (zb0 zce (zaa 4) (zac (zaf za2 (zac (zaa 5) (zac (zaa 6) (zae)))) zae))) (zbj))) (zai (zam (eC (.int 1)) (zag 7)) (zai (whl (tE (eOp zfl (zaa 4) (zaf zbw (zae)))) (zai (zc0 (zaa 4) (zag 8) (zam (zaa 7) (zgk (zaa 3) (zaa 8)))) (zai (zam (eOp zci (zaa 7) (eC (.int 1))) (zag 7)) (zai (zam (zaf zbw (zae)) (zag 4)) (zc0 (zaa 2) (zc6 2 (zb4 (zag 5) (zb4 (zag 6) (zc5)))) (zai (zam (zbo (zco (zbg (zac (eOp zaj (zaa 0) (eC (.int 0))) (zae)))) [none,some 0,some 5,some 6] (zag 0) (zay) (zaf ze3 (zac (zaa 1) (zac (zaa 2) (zac (zaa 3) (zac (zaa 0) (zae))))))) (zag 9)) (zai (zam (zbo (zcn (zaa 9)) [none,some 3] (zag 0) (zck (tE (eOp zcy (zaa 0) (eC .non))) (tE (eOp (zct false) (zaa 0) (zaa 1)))) (zaa 0)) (zag 10)) (sIf (zck (tE (eOp (zct true) (zaf za2 (zac (zaa 5) (zac (zaa 6) (zae)))) (zaa 3))) (tE (eOp zfl (zaa 10) (zaf zbw (zae))))) (zch (zb0 zce (zaa 4) (zac (zaf za2 (zac (zaa 5) (zac (zaa 6) (zae)))) zae))) (zbj)))))))) zej) (za9 (zaa 3))))))))
noncomputable def zgv:FM:=zbt 11 zru
noncomputable def zrv:SM:=zai (zam (zaf zcm (zac (eOp zaj (zaa 1) (eC (.int 1))) (zae))) (zag 2)) (zai (zam (zaf zgv (zac (zaa 1) (zae))) (zag 3)) (zai (zam (zaf zgn (zac (zbo (zhz (zaa 3)) [none] (zag 0) (tE (eOp dLt (eOp zaj (zaa 0) (eC (.int 0))) (eOp zaj (zaa 0) (eC (.int 1))))) (zaa 0)) (zae))) (zag 4)) (zai (zd1 (zbg (zac (eC (.int 2)) (zae))) (zag 5) (zai (zam (zaf zen (zac (zaa 1) (zae))) (zag 6)) (zai (sIf (zdi (zeq (tE (eUn (zeu "list") (zaa 6)))) (tE (eOp dNe (zaf zei (zac (zaa 6) (zae))) (zaf zei (zac (zaa 4) (zae)))))) (za9 (eC (.bl false))) (zbj)) (zai (zch (zb0 zce (zaa 6) (zac (zaf za2 (zac (eC (.int 0)) (zac (eC (.int 0)) (zae)))) zae))) (zch (zb0 zff (zaa 6) zae)))))) (zai (zd1 (zbg (zac (eC (.int 6)) (zae))) (zag 7) (zai (zam (zaf zbk (zac (zaa 0) (zac (zaa 2) (zae)))) (zag 8)) (zai (zam (zaf zbk (zac (zaa 0) (zac (zaa 2) (zae)))) (zag 9)) (zai (zam (zaf zfw (zac (zaa 1) (zac (zaa 8) (zac (zaa 9) (zae))))) (zag 10)) (zai (sIf (zck (tE (eOp (zct true) (zaf za2 (zac (zaa 8) (zac (zaa 9) (zae)))) (zaa 3))) (tE (eOp zcy (zaa 10) (eC .non)))) (za9 (eC (.bl false))) (zbj)) (sIf (zck (tE (eOp (zct false) (zaf za2 (zac (zaa 8) (zac (zaa 9) (zae)))) (zaa 3))) (zeq (tE (zaf zfu (zac (zaa 1) (zac (zaa 8) (zac (zaa 9) (zac (zaa 10) (zae))))))))) (za9 (eC (.bl false))) (zbj))))))) (za9 (eC (.bl true)))))))
noncomputable def zgw:FM:=zbt 11 zrv
noncomputable def zrw:SM:=zai (zam (zaf zbw (zae)) (zag 4)) (zai (zc0 (zaa 1) (zag 5) (zai (zam (zaf zbk (zac (zaa 0) (zac (eC (.int 8)) (zae)))) (zag 6)) (zai (zam (zaa 5) (zc6 2 (zb4 (zag 7) (zb4 (zag 8) (zc5))))) (zai (sIf (tE (eOp dEq (zaa 6) (eC (.int 0)))) (zam (eC .non) (zag 7)) (zbj)) (zai (sIf (tE (eOp dEq (zaa 6) (eC (.int 1)))) (zam (eC .non) (zag 8)) (zbj)) (zai (sIf (tE (eOp dEq (zaa 6) (eC (.int 2)))) (zam (zaf zbk (zac (zaa 0) (zac (zaa 2) (zae)))) (zag 7)) (zbj)) (zai (sIf (tE (eOp dEq (zaa 6) (eC (.int 3)))) (zam (zaf zbk (zac (zaa 0) (zac (zaa 3) (zae)))) (zag 8)) (zbj)) (zch (zb0 zce (zaa 4) (zac (zaf za2 (zac (zaa 7) (zac (zaa 8) (zae)))) zae)))))))))) (za9 (zaf zdm (zac (zaa 4) (zae)))))
noncomputable def zgx:FM:=zbt 9 zrw
noncomputable def zrx:SM:=zai (zam (eC .non) (zag 4)) (zai (sIf (tE (eOp dGe (zaf zbk (zac (zaa 0) (zac (eC (.int 8)) (zae)))) (zaa 2))) (zam (zaf zbk (zac (zaa 0) (zac (zaa 1) (zae)))) (zag 4)) (zbj)) (zai (zam (eC .non) (zag 5)) (zai (sIf (tE (eOp dGe (zaf zbk (zac (zaa 0) (zac (eC (.int 8)) (zae)))) (zaa 2))) (zam (zaf zbk (zac (zaa 0) (zac (zaa 3) (zae)))) (zag 5)) (zbj)) (za9 (zaf za2 (zac (zaa 4) (zac (zaa 5) (zae))))))))
noncomputable def zfx:FM:=zbt 6 zrx
noncomputable def zry:SM:=zai (zam (zaf zbk (zac (zaa 0) (zac (eC (.int 3)) (zae)))) (zag 2)) (zai (zam (eOp zaj (zaf zbw (zac (eC (.int 0)) (zac (eC (.int 1)) (zac (eC (.int 2)) (zac (eC (.int 5)) (zae)))))) (zaf zbk (zac (zaa 0) (zac (eC (.int 4)) (zae))))) (zag 3)) (zai (zam (eOp zaj (zaf zbw (zac (eC (.int 1)) (zac (eC (.int 2)) (zac (eC (.int 3)) (zac (eC (.int 8)) (zae)))))) (zaf zbk (zac (zaa 0) (zac (eC (.int 4)) (zae))))) (zag 4)) (zai (zam (eOp zci (eC (.int 1)) (zaf zbk (zac (zaa 0) (zac (eC (.int 4)) (zae))))) (zag 5)) (zai (zam (eOp zci (eC (.int 1)) (zaf zbk (zac (zaa 0) (zac (zaa 1) (zae))))) (zag 6)) (zai (zam (zaf zbw (zae)) (zag 7)) (zai (zd1 (zbg (zac (zaa 6) (zae))) (zag 8) (sIf (zck (tE (eOp dGt (zaa 8) (eC (.int 0)))) (zck (tE (eOp dGt (zaa 2) (eC (.int 0)))) (tE (eOp dGt (zaf zbk (zac (zaa 0) (zac (eC (.int 3)) (zae)))) (eC (.int 0)))))) (zch (zb0 zce (zaa 7) (zac (zaf zgx (zac (zaa 0) (zac (eOp zaj (zaa 7) (zaf zbk (zac (zaa 0) (zac (zaa 8) (zae))))) (zac (zaa 6) (zac (zaa 4) (zae)))))) zae))) (zch (zb0 zce (zaa 7) (zac (zaf zdm (zac (zbo (zco (zbg (zac (zaa 5) (zae)))) [none,some 0,some 6,some 3,some 4] (zag 0) (zay) (zaf zfx (zac (zaa 1) (zac (zaa 2) (zac (zaa 3) (zac (zaa 4) (zae))))))) (zae))) zae))))) (za9 (zaf za2 (zac (zaa 5) (zac (zaf zdm (zac (zaa 7) (zae))) (zae)))))))))))
noncomputable def zgy:FM:=zbt 9 zry
noncomputable def zrz:SM:=zai (zam (zaf zbw (zac (zaa 0) (zac (eC (.int 0)) (zac (eC (.int 0)) (zae))))) (zag 1)) (zai (zd1 (zbg (zac (eC (.int 3)) (zae))) (zag 2) (zai (zam (zaf zgy (zac (zaa 1) (zac (eC (.int 10)) (zae)))) (zag 3)) (zai (zam (zaf za2 (zac (eOp zaj (zaa 3) (eC (.int 0))) (zac (zaf zdm (zac (zbo (zcn (eOp zaj (zaa 3) (eC (.int 1)))) [none] (zag 0) (zay) (zaf zdm (zac (zbo (zcn (zaa 0)) [none,none] (zc6 2 (zb4 (zag 0) (zb4 (zag 1) (zc5)))) (zay) (zaf za2 (zac (zaa 0) (zac (eC .non) (zae))))) (zae)))) (zae))) (zae)))) (zag 4)) (zai (zam (zaf zen (zac (zaa 3) (zae))) (zag 5)) (zai (zam (zaf zei (zac (zaa 5) (zae))) (zag 6)) (sIf (zdi (zeq (tE (zaf zgw (zac (zaa 1) (zac (zaa 3) (zae)))))) (zdi (tE (eOp zfl (zaf zen (zac (zaa 4) (zae))) (zaf zbw (zae)))) (tE (eOp dNe (zaf zei (zac (zaa 5) (zae))) (zaa 6))))) (za9 (eC (.bl false))) (zbj))))))) (za9 (eC (.bl true))))
noncomputable def ze5:FM:=zbt 7 zrz
theorem bl0 {C:List PySem.Value->Prop}(h:C []):∀us:List PySem.Value,us.length=0->C us:=by
 intro us hl
 rw [List.eq_nil_of_length_eq_zero hl];exact h
theorem blS {n:Nat}{C:List PySem.Value->Prop}(h:∀a (us:List PySem.Value),us.length=n->C (a :: us)):∀us:List PySem.Value,us.length=n+1->C us:=by
 intro us hl
 cases us with
 | nil=>cases hl
 | cons a us=>exact h a us (Nat.succ.inj hl)
theorem bl1 {C:List PySem.Value->Prop}(h:∀a0,C [a0]):∀us:List PySem.Value,us.length=1->C us:=blS fun a0=>bl0 (C:=fun us=>C (a0 :: us)) (h a0)
theorem bl2 {C:List PySem.Value->Prop}(h:∀a0 a1,C [a0,a1]):∀us:List PySem.Value,us.length=2->C us:=blS fun a0=>blS fun a1=>bl0 (C:=fun us=>C (a0 :: a1 :: us)) (h a0 a1)
theorem bl3 {C:List PySem.Value->Prop}(h:∀a0 a1 a2,C [a0,a1,a2]):∀us:List PySem.Value,us.length=3->C us:=blS fun a0=>blS fun a1=>blS fun a2=>bl0 (C:=fun us=>C (a0 :: a1 :: a2 :: us)) (h a0 a1 a2)
theorem bl4 {C:List PySem.Value->Prop}(h:∀a0 a1 a2 a3,C [a0,a1,a2,a3]):∀us:List PySem.Value,us.length=4->C us:=blS fun a0=>blS fun a1=>blS fun a2=>blS fun a3=>bl0 (C:=fun us=>C (a0 :: a1 :: a2 :: a3 :: us)) (h a0 a1 a2 a3)
section
variable {P:Program}{w:World}{K:PySem.W.Frag}{mg:Str->Option Value}{base:Heap}{CA:Str->Addr}
theorem ycg:FnScope ["_law_machine_here","_law_room","_law_row","_law_answers","_law_ask"] ["_law_machine_here","_law_room","_law_row"] (zat (top bd 19)):=⟨rfl,rfl,rfl,by decide +kernel,rfl,by decide +kernel,by decide +kernel⟩
theorem h_m_law_gone {f:Addr}{fd:FuncData}(F:Fun K "_law_gone" "_law_gone" (top bd 19) f fd) (hm:mg "_law_gone" = some (.ref f)):Has P w K mg base "_law_gone" 1 3 zft:=by
 have sc:=ycg
 refine zcd (k:=0) F hm sc rfl (F.binds (by intro _ _ _ _ _ _ us hl;revert us;exact bl3 fun _ _ _=>rfl)) fun cdv hcd A outer s H E hr=>?_
 exact zal (zar 3 sc.nd (zcl (zah))) (zal (zfj PassesOwn.never rfl (zab 2) (za5 4 sc.nd) (zal (zbx (zx4 (zab 1) (zcc)) (zau (zbf (zbi (zad (zab 3) (zad (zcc) (zah)))))) (zb1)) (zal (zcz (zdn (zab 3) (zao (zao (zao (zao (zab 0) (zak)) (zab 1)) (zab 4)) (zak)))) (zau (zar 1 sc.nd (zao (zao (zao (zao (zab 0) (zak)) (zab 1)) (zab 4)) (zak))))))) (zau (zbf (zbi (zad (zab 3) (zad (zab 1) (zah)))))))
theorem ych:FnScope ["_law_machine_here","_law_one","_law_other","_law_row","_law_first","_law_second"] ["_law_machine_here","_law_one","_law_other","_law_row"] (zat (top bd 20)):=⟨rfl,rfl,rfl,by decide +kernel,rfl,by decide +kernel,by decide +kernel⟩
theorem h_m_law_parts {f:Addr}{fd:FuncData}(F:Fun K "_law_parts" "_law_parts" (top bd 20) f fd) (hm:mg "_law_parts" = some (.ref f)) (z_len:mg "len" = none) (z_isinstance:mg "isinstance" = none) (z_tuple:mg "tuple" = none) (h_m_law_gone:Has P w K mg base "_law_gone" 1 3 zft):Has P w K mg base "_law_parts" 2 4 zfu:=by
 have sc:=ych
 refine zcd (k:=1) F hm sc rfl (F.binds (by intro _ _ _ _ _ _ us hl;revert us;exact bl4 fun _ _ _ _=>rfl)) fun cdv hcd A outer s H E hr=>?_
 exact zal (zbx (zdj (zf5 (ziu (zfc (zpk (U:="tuple") rfl z_isinstance rfl z_tuple zpr (by decide) (zab 3)))) (zit (zzf hr (zab 3) (zbi (zah)))))) (zau (zbf (zdz))) (zb1)) (zal (zar 4 sc.nd (zao (za6 h_m_law_gone hr (by decide) rfl (zad (zab 0) (zad (zab 1) (zad (zab 3) (zah)))) (zan (zan (zan za4)))) (zak))) (zal (zar 5 sc.nd (zao (za6 h_m_law_gone hr (by decide) rfl (zad (zab 0) (zad (zab 2) (zad (zab 3) (zah)))) (zan (zan (zan za4)))) (zak))) (zal (zbx (zdj (zf5 (zi0 (zds rfl z_len (zad (zab 4) (zah))) (zds rfl z_len (zad (zab 3) (zah)))) (zf5 (zi0 (zds rfl z_len (zad (zab 5) (zah))) (zds rfl z_len (zad (zab 3) (zah)))) (zit (zp1 (zcc) (zbi (zad (zao (zab 4) (zjf (zak))) (zad (zao (zab 5) (zjf (zak))) (zah))))))))) (zau (zbf (zdz))) (zb1)) (zau (zbf (zkw (zao (zab 4) (zjf (zak))) (zao (zab 5) (zjf (zak)))))))))
theorem yci:FnScope ["one","other"] ["one","other"] (zat (top bd 3)):=⟨rfl,rfl,rfl,by decide +kernel,rfl,by decide +kernel,by decide +kernel⟩
theorem h_m_answers_unlike {f:Addr}{fd:FuncData}(F:Fun K "answers_unlike" "answers_unlike" (top bd 3) f fd) (hm:mg "answers_unlike" = some (.ref f)):Has P w K mg base "answers_unlike" 1 2 zfv:=by
 have sc:=yci
 refine zcd (k:=0) F hm sc rfl (F.binds (by intro _ _ _ _ _ _ us hl;revert us;exact bl2 fun _ _=>rfl)) fun cdv hcd A outer s H E hr=>?_
 exact zau (zbf (ziv (ziy (zab 0) (zcc)) (ziv (ziy (zab 1) (zcc)) (zo9 (zkw (zab 0) (zab 1))))))
theorem ycj:FnScope ["cell","beside"] ["cell","beside"] (zat (top bd 4)):=⟨rfl,rfl,rfl,by decide +kernel,rfl,by decide +kernel,by decide +kernel⟩
theorem h_m_say_unlike {f:Addr}{fd:FuncData}(F:Fun K "say_unlike" "say_unlike" (top bd 4) f fd) (hm:mg "say_unlike" = some (.ref f)) (h_m_answers_unlike:Has P w K mg base "answers_unlike" 1 2 zfv):Has P w K mg base "say_unlike" 2 2 zdc:=by
 have sc:=ycj
 refine zcd (k:=1) F hm sc rfl (F.binds (by intro _ _ _ _ _ _ us hl;revert us;exact bl2 fun _ _=>rfl)) fun cdv hcd A outer s H E hr=>?_
 exact zau (zbf (za6 h_m_answers_unlike hr (by decide) rfl (zad (zao (zab 0) (zak)) (zad (zao (zab 1) (zak)) (zah))) (zan (zan za4))))
theorem yck:FnScope ["machine","other","begin","fails","pairs","rows","seen","at","one","two","row","ask","cell","beside","behind"] ["machine","other","begin","fails"] (zat (top bd 1)):=⟨rfl,rfl,rfl,by decide +kernel,rfl,by decide +kernel,by decide +kernel⟩
theorem h_m_walk_both {f:Addr}{fd:FuncData}(F:Fun K "walk_both" "walk_both" (top bd 1) f fd) (hm:mg "walk_both" = some (.ref f)) (z_len:mg "len" = none) (z_range:mg "range" = none) (h_m_say_unlike:Has P w K mg base "say_unlike" 2 2 zdc) (fn_say_unlike:Fnc K mg "say_unlike"):Has P w K mg base "walk_both" 3 4 zgr:=by
 have sc:=yck
 refine zcd (k:=2) F hm sc rfl (F.binds (by intro _ _ _ _ _ _ us hl;revert us;exact bl4 fun _ _ _ _=>rfl)) fun cdv hcd A outer s H E hr=>?_
 exact zal (zar 4 sc.nd (zcl (zad (zab 2) (zah)))) (zal (zar 5 sc.nd (zcl (zad (zbi (zah)) (zah)))) (zal (zar 6 sc.nd (yag hr hcd (zab 2))) (zal (zar 7 sc.nd (zak)) (zal (zlj zej PassesOwn.never (zku (zab 7) (zds rfl z_len (zad (zab 4) (zah)))) (zal (zfi (zao (zab 4) (zab 7)) (zeh rfl (zcf (za5 8 sc.nd) (zcf (za5 9 sc.nd) (zeg))))) (zal (zar 10 sc.nd (zao (zab 5) (zab 7))) (zal (zzc 7 sc.nd (zak)) (zau (zf8 PassesOwn.never rfl rfl z_range (zad (zao (zab 0) (zak)) (zah)) (za5 11 sc.nd) (zal (zar 12 sc.nd (zao (zao (zao (zab 0) (zak)) (zab 8)) (zab 11))) (zal (zar 13 sc.nd (zao (zao (zao (zab 1) (zak)) (zab 9)) (zab 11))) (zal (zbx (zfc (yan hr (zab 3) (zad (zab 12) (zad (zab 13) (zah))) (zan (zan za4)) (yao (R:=fun x m=>Fnc _ _ x/\∃k,k<=_/\Has _ _ _ _ _ x k _ m) ⟨fn_say_unlike,_,(by decide),h_m_say_unlike⟩))) (zau (zbf (zbi (zad (zdb (zab 10) (zbi (zad (zab 11) (zah)))) (zad (zab 4) (zah)))))) (zb1)) (zal (zar 14 sc.nd (zbi (zad (zao (zab 12) (zak)) (zad (zao (zab 13) (zak)) (zah))))) (zau (zbx (zdj (zes (zp2 (zcc) (zab 14)) (zfd (yad hr (zab 14) (zab 6))))) (zal (zcz (zz9 hr (zab 6) (zab 14))) (zal (zcz (zdn (zab 4) (zab 14))) (zau (zcz (zdn (zab 5) (zdb (zab 10) (zbi (zad (zab 11) (zah))))))))) (zb1))))))))))))) (zau (zbf (zbi (zad (zcc) (zad (zab 4) (zah))))))))))
theorem ycl:FnScope ["machine","one","other"] ["machine","one","other"] (zat (top bd 5)):=⟨rfl,rfl,rfl,by decide +kernel,rfl,by decide +kernel,by decide +kernel⟩
theorem h_m_parting {f:Addr}{fd:FuncData}(F:Fun K "parting" "parting" (top bd 5) f fd) (hm:mg "parting" = some (.ref f)) (h_m_walk_both:Has P w K mg base "walk_both" 3 4 zgr) (fn_say_unlike:Fnc K mg "say_unlike"):Has P w K mg base "parting" 4 3 zfw:=by
 have sc:=ycl
 refine zcd (k:=3) F hm sc rfl (F.binds (by intro _ _ _ _ _ _ us hl;revert us;exact bl3 fun _ _ _=>rfl)) fun cdv hcd A outer s H E hr=>?_
 exact zau (zbf (zao (za6 h_m_walk_both hr (by decide) rfl (zad (zab 0) (zad (zab 0) (zad (zbi (zad (zab 1) (zad (zab 2) (zah)))) (zad (yal fn_say_unlike rfl) (zah))))) (zan (zan (zan (zan za4))))) (zak)))
theorem ycm:FnScope ["_law_pen","_law_many","_law_digit","_law_at","_law_cell_here","_law_primes","_law_prime","_law_number"] ["_law_pen","_law_many"] (zat (top bd 12)):=⟨rfl,rfl,rfl,by decide +kernel,rfl,by decide +kernel,by decide +kernel⟩
theorem h_m_law_take {f:Addr}{fd:FuncData}(F:Fun K "_law_take" "_law_take" (top bd 12) f fd) (hm:mg "_law_take" = some (.ref f)) (z_len:mg "len" = none) (z_abs:mg "abs" = none):Has P w K mg base "_law_take" 1 2 zbk:=by
 have sc:=ycm
 refine zcd (k:=0) F hm sc rfl (F.binds (by intro _ _ _ _ _ _ us hl;revert us;exact bl2 fun _ _=>rfl)) fun cdv hcd A outer s H E hr=>?_
 exact zal (zbx (zhh (zao (zab 0) (zak)) (zak)) (zal (zar 2 sc.nd (zd0 (zao (zab 0) (zak)) (zab 1))) (zal (zfi (zix (zao (zab 0) (zak)) (zab 1)) (zkz (zab 0) (zak))) (zau (zbf (zab 2))))) (zb1)) (zal (zar 3 sc.nd (zao (zab 0) (zak))) (zal (zfi (zdb (zab 3) (zak)) (zkz (zab 0) (zak))) (zal (zar 4 sc.nd (zak)) (zal (zbx (zhh (zds rfl z_len (zad (zao (zab 0) (zak)) (zah))) (zak)) (zau (zar 4 sc.nd (zao (zao (zab 0) (zak)) (zd0 (zab 3) (zds rfl z_len (zad (zao (zab 0) (zak)) (zah))))))) (zb1)) (zal (zbx (zdj (zes (zku (zab 3) (zds rfl z_len (zad (zao (zab 0) (zak)) (zah)))) (zfd (zkv (zk5 rfl z_abs (zad (zab 4) (zah))) (zpb (zak) (zak)))))) (zal (zfi (zix (zk5 rfl z_abs (zad (zab 4) (zah))) (zab 1)) (zkz (zab 0) (zak))) (zau (zbf (zd0 (zk5 rfl z_abs (zad (zab 4) (zah))) (zab 1))))) (zb1)) (zal (zar 5 sc.nd (zcl (zad (zak) (zad (zak) (zad (zak) (zad (zak) (zad (zak) (zad (zak) (zad (zak) (zah)))))))))) (zal (zar 6 sc.nd (zao (zab 5) (zd0 (zab 3) (zak)))) (zal (zar 7 sc.nd (zd0 (zdb (zdb (zhq (zd0 (zab 4) (zab 6)) (zak)) (zhq (zak) (zab 3))) (zak)) (zab 6))) (zal (zar 7 sc.nd (zd0 (zdb (zdb (zhq (zpb (zab 7) (zak)) (zak)) (zhq (zab 3) (zab 3))) (zak)) (zao (zab 5) (zd0 (zdb (zab 3) (zak)) (zak))))) (zau (zbf (zd0 (zix (zab 7) (zak)) (zab 1)))))))))))))
theorem ycn:FnScope ["machine","many"] ["machine"] (zat (top bd 8)):=⟨rfl,rfl,rfl,by decide +kernel,rfl,by decide +kernel,by decide +kernel⟩
theorem h_m_all_pairs {f:Addr}{fd:FuncData}(F:Fun K "all_pairs" "all_pairs" (top bd 8) f fd) (hm:mg "all_pairs" = some (.ref f)) (z_range:mg "range" = none) (z_len:mg "len" = none):Has P w K mg base "all_pairs" 1 1 zdd:=by
 have sc:=ycn
 refine zcd (k:=0) F hm sc rfl (F.binds (by intro _ _ _ _ _ _ us hl;revert us;exact bl1 fun _=>rfl)) fun cdv hcd A outer s H E hr=>?_
 exact zal (zar 1 sc.nd (zds rfl z_len (zad (zao (zab 0) (zak)) (zah)))) (zau (zbf (yb3 (N':=["one","other","many"]) (ixs:=[none,none,some 1]) rfl (zd3 (scO:=zat (top bd 8)) (NO:=["machine","many"]) rfl rfl (by decide +kernel)) (zga rfl z_range (zad (zab 1) (zah))) (fun _ _ _ _ _=>za5 0 (show List.Nodup (["one","other","many"]:List Str) by decide +kernel)) (fun _ _ _ _ _=>zd2) (fun _ _ _ _ _=>yb1 rfl z_range (zad (zdb (zab 0) (zak)) (zad (zab 2) (zah)))) (fun _ _ _ _ _=>za5 1 (show List.Nodup (["one","other","many"]:List Str) by decide +kernel)) (fun _ _ _ _ _=>zd2) (fun _ _ _ _ _=>zbi (zad (zab 0) (zad (zab 1) (zah)))))))
theorem yco:FnScope ["machine","asks","rooms","sources","one","other","ask","behind","pair"] ["machine"] (zat (top bd 10)):=⟨rfl,rfl,rfl,by decide +kernel,rfl,by decide +kernel,by decide +kernel⟩
theorem h_m_pairs_ahead {f:Addr}{fd:FuncData}(F:Fun K "pairs_ahead" "pairs_ahead" (top bd 10) f fd) (hm:mg "pairs_ahead" = some (.ref f)) (z_max:mg "max" = none) (z_min:mg "min" = none) (z_range:mg "range" = none) (h_m_all_pairs:Has P w K mg base "all_pairs" 1 1 zdd):Has P w K mg base "pairs_ahead" 2 1 zgs:=by
 have sc:=yco
 refine zcd (k:=1) F hm sc rfl (F.binds (by intro _ _ _ _ _ _ us hl;revert us;exact bl1 fun _=>rfl)) fun cdv hcd A outer s H E hr=>?_
 exact zal (zfi (zab 0) (zeh rfl (zcf (za5 1 sc.nd) (zcf (za5 2 sc.nd) (zeg))))) (zal (zar 3 sc.nd (zqk)) (zal (zfj PassesOwn.never rfl (za6 h_m_all_pairs hr (by decide) rfl (zad (zab 0) (zah)) (zan za4)) (zeh rfl (zcf (za5 4 sc.nd) (zcf (za5 5 sc.nd) (zeg)))) (zau (zf8 PassesOwn.never rfl rfl z_range (zad (zab 1) (zah)) (za5 6 sc.nd) (zal (zar 7 sc.nd (zbi (zad (zao (zao (zao (zab 2) (zab 4)) (zab 6)) (zak)) (zad (zao (zao (zao (zab 2) (zab 5)) (zab 6)) (zak)) (zah))))) (zau (zbx (zp2 (zcc) (zab 7)) (zal (zar 8 sc.nd (zbi (zad (ybo rfl rfl z_min (zad (zab 7) (zah))) (zad (ybp rfl rfl z_max (zad (zab 7) (zah))) (zah))))) (zau (zcz (zdn (ybt hr (zab 3) (zab 8) (zcl (zah))) (zbi (zad (zab 4) (zad (zab 5) (zah)))))))) (zb1))))))) (zau (zbf (zab 3)))))
theorem ycp:FnScope ["machine","asks","rooms"] ["machine"] (zat (top bd 9)):=⟨rfl,rfl,rfl,by decide +kernel,rfl,by decide +kernel,by decide +kernel⟩
theorem h_m_pairs_at_once {f:Addr}{fd:FuncData}(F:Fun K "pairs_at_once" "pairs_at_once" (top bd 9) f fd) (hm:mg "pairs_at_once" = some (.ref f)) (z_any:mg "any" = none) (z_range:mg "range" = none) (h_m_all_pairs:Has P w K mg base "all_pairs" 1 1 zdd) (h_m_say_unlike:Has P w K mg base "say_unlike" 2 2 zdc):Has P w K mg base "pairs_at_once" 3 1 zgt:=by
 have sc:=ycp
 refine zcd (k:=2) F hm sc rfl (F.binds (by intro _ _ _ _ _ _ us hl;revert us;exact bl1 fun _=>rfl)) fun cdv hcd A outer s H E hr=>?_
 exact zal (zfi (zab 0) (zeh rfl (zcf (za5 1 sc.nd) (zcf (za5 2 sc.nd) (zeg))))) (zau (zbf (yas (N':=["one","other","asks","rooms"]) (ixs:=[none,none,some 1,some 2]) rfl (yat (scO:=zat (top bd 9)) (NO:=["machine","asks","rooms"]) rfl rfl (by decide +kernel)) (zhl (za6 h_m_all_pairs hr (by decide) rfl (zad (zab 0) (zah)) (zan za4))) (fun _ _ _ _ _=>zeh rfl (zcf (za5 0 (show List.Nodup (["one","other","asks","rooms"]:List Str) by decide +kernel)) (zcf (za5 1 (show List.Nodup (["one","other","asks","rooms"]:List Str) by decide +kernel)) (zeg)))) (fun _ _ _ _ _=>zk2 (zfc (zp5 rfl rfl z_any (zad (zgb (N':=["ask","rooms","one","other"]) (ixs:=[none,some 3,some 0,some 1]) rfl (yau (scO:=zat (top bd 9)) rfl (by decide +kernel)) (zga rfl z_range (zad (zab 2) (zah))) (fun _ _ _ _ _=>za5 0 (show List.Nodup (["ask","rooms","one","other"]:List Str) by decide +kernel)) (fun _ _ _ _ _=>zd2) (fun _ _ _ _ _=>za6 h_m_say_unlike hr (by decide) rfl (zad (zao (zao (zab 1) (zab 2)) (zab 0)) (zad (zao (zao (zab 1) (zab 3)) (zab 0)) (zah))) (zan (zan za4)))) (zah))))) (fun _ _ _ _ _=>zbi (zad (zab 0) (zad (zab 1) (zah)))))))
theorem ycq:FnScope ["machine","waiting","sources","found","pair","source"] ["machine"] (zat (top bd 7)):=⟨rfl,rfl,rfl,by decide +kernel,rfl,by decide +kernel,by decide +kernel⟩
theorem h_m_parted_pairs {f:Addr}{fd:FuncData}(F:Fun K "parted_pairs" "parted_pairs" (top bd 7) f fd) (hm:mg "parted_pairs" = some (.ref f)) (h_m_pairs_ahead:Has P w K mg base "pairs_ahead" 2 1 zgs) (h_m_pairs_at_once:Has P w K mg base "pairs_at_once" 3 1 zgt):Has P w K mg base "parted_pairs" 4 1 zgu:=by
 have sc:=ycq
 refine zcd (k:=3) F hm sc rfl (F.binds (by intro _ _ _ _ _ _ us hl;revert us;exact bl1 fun _=>rfl)) fun cdv hcd A outer s H E hr=>?_
 exact zal (zar 1 sc.nd (za6 h_m_pairs_at_once hr (by decide) rfl (zad (zab 0) (zah)) (zan za4))) (zal (zar 2 sc.nd (za6 h_m_pairs_ahead hr (by decide) rfl (zad (zab 0) (zah)) (zan za4))) (zal (yaz 3 sc.nd hr (N':=["pair"]) (ixs:=[none]) rfl (zd3 (scO:=zat (top bd 7)) (NO:=["machine","waiting","sources","found","pair","source"]) rfl rfl (by decide +kernel)) (yay (zhl (zab 1))) (fun _ _ _ _ _=>za5 0 (show List.Nodup (["pair"]:List Str) by decide +kernel)) (fun _ _ _ _ _=>zd2) (fun _ _ _ _ _=>zab 0) (fun _ _ _ _ _=>zdz)) (zal (zlj zej PassesOwn.never (ybh (zab 1)) (zal (zar 4 sc.nd (zyg (zab 1))) (zau (zfj PassesOwn.never rfl (yah hr (zab 2) (zab 4) (zcl (zah))) (za5 5 sc.nd) (zau (zbx (zlu hr (zab 5) (zab 3)) (zal (zql hr (zab 3) (zab 5) (zdz)) (zau (zcz (zdn (zab 1) (zab 5))))) (zb1))))))) (zau (zbf (zab 3))))))
theorem ycr:FnScope ["machine"] ["machine"] (zat (top bd 6)):=⟨rfl,rfl,rfl,by decide +kernel,rfl,by decide +kernel,by decide +kernel⟩
theorem h_m_parted {f:Addr}{fd:FuncData}(F:Fun K "parted" "parted" (top bd 6) f fd) (hm:mg "parted" = some (.ref f)) (z_sorted:mg "sorted" = none) (h_m_parted_pairs:Has P w K mg base "parted_pairs" 4 1 zgu):Has P w K mg base "parted" 5 1 zen:=by
 have sc:=ycr
 refine zcd (k:=4) F hm sc rfl (F.binds (by intro _ _ _ _ _ _ us hl;revert us;exact bl1 fun _=>rfl)) fun cdv hcd A outer s H E hr=>?_
 exact zau (zbf (ybf rfl rfl z_sorted (zad (za6 h_m_parted_pairs hr (by decide) rfl (zad (zab 0) (zah)) (zan za4)) (zah))))
theorem ycs:FnScope ["_law_machine_here","_law_one","_law_other","_law_ask","_law_pair"] ["_law_machine_here","_law_one","_law_other","_law_ask"] (zat (top bd 17)):=⟨rfl,rfl,rfl,by decide +kernel,rfl,by decide +kernel,by decide +kernel⟩
theorem h_m_law_both {f:Addr}{fd:FuncData}(F:Fun K "_law_both" "_law_both" (top bd 17) f fd) (hm:mg "_law_both" = some (.ref f)):Has P w K mg base "_law_both" 1 4 ze3:=by
 have sc:=ycs
 refine zcd (k:=0) F hm sc rfl (F.binds (by intro _ _ _ _ _ _ us hl;revert us;exact bl4 fun _ _ _ _=>rfl)) fun cdv hcd A outer s H E hr=>?_
 exact zal (zar 4 sc.nd (zbi (zad (zao (zao (zao (zao (zab 0) (zak)) (zab 1)) (zab 3)) (zak)) (zad (zao (zao (zao (zao (zab 0) (zak)) (zab 2)) (zab 3)) (zak)) (zah))))) (zal (zbx (zp1 (zcc) (zab 4)) (zau (zbf (zcc))) (zb1)) (zau (zbf (zab 4))))
theorem yct:FnScope ["_law_machine_here","_law_one","_law_other","_law_ask","_law_first","_law_second"] ["_law_machine_here","_law_one","_law_other","_law_ask"] (zat (top bd 16)):=⟨rfl,rfl,rfl,by decide +kernel,rfl,by decide +kernel,by decide +kernel⟩
theorem h_m_law_unlike {f:Addr}{fd:FuncData}(F:Fun K "_law_unlike" "_law_unlike" (top bd 16) f fd) (hm:mg "_law_unlike" = some (.ref f)):Has P w K mg base "_law_unlike" 1 4 ze4:=by
 have sc:=yct
 refine zcd (k:=0) F hm sc rfl (F.binds (by intro _ _ _ _ _ _ us hl;revert us;exact bl4 fun _ _ _ _=>rfl)) fun cdv hcd A outer s H E hr=>?_
 exact zal (zar 4 sc.nd (zao (zao (zao (zao (zab 0) (zak)) (zab 1)) (zab 3)) (zak))) (zal (zar 5 sc.nd (zao (zao (zao (zao (zab 0) (zak)) (zab 2)) (zab 3)) (zak))) (zau (zbf (ziv (ziy (zab 4) (zcc)) (ziv (ziy (zab 5) (zcc)) (zo9 (zkw (zab 4) (zab 5))))))))
theorem ycu:FnScope ["_law_machine_here","_law_many","_law_pairs","_law_found","_law_here","_law_one","_law_other","_law_long","_law_pair","_law_later","_law_met"] ["_law_machine_here"] (zat (top bd 18)):=⟨rfl,rfl,rfl,by decide +kernel,rfl,by decide +kernel,by decide +kernel⟩
theorem h_m_law_far {f:Addr}{fd:FuncData}(F:Fun K "_law_far" "_law_far" (top bd 18) f fd) (hm:mg "_law_far" = some (.ref f)) (z_range:mg "range" = none) (z_any:mg "any" = none) (z_len:mg "len" = none) (h_m_law_both:Has P w K mg base "_law_both" 1 4 ze3) (h_m_law_unlike:Has P w K mg base "_law_unlike" 1 4 ze4):Has P w K mg base "_law_far" 2 1 zgv:=by
 have sc:=ycu
 refine zcd (k:=1) F hm sc rfl (F.binds (by intro _ _ _ _ _ _ us hl;revert us;exact bl1 fun _=>rfl)) fun cdv hcd A outer s H E hr=>?_
 exact zal (zar 1 sc.nd (zds rfl z_len (zad (zao (zab 0) (zak)) (zah)))) (zal (zk3 2 sc.nd (N':=["_law_k","_law_many"]) (ixs:=[none,some 1]) rfl (zd3 (scO:=zat (top bd 18)) (NO:=["_law_machine_here","_law_many","_law_pairs","_law_found","_law_here","_law_one","_law_other","_law_long","_law_pair","_law_later","_law_met"]) rfl rfl (by decide +kernel)) (zga rfl z_range (zad (zhq (zab 1) (zab 1)) (zah))) (fun _ _ _ _ _=>za5 0 (show List.Nodup (["_law_k","_law_many"]:List Str) by decide +kernel)) (fun _ _ _ _ _=>zd2) (fun _ _ _ _ _=>zbi (zad (zix (zab 0) (zab 1)) (zad (zd0 (zab 0) (zab 1)) (zah))))) (zal (zar 3 sc.nd (zqk)) (zal (zar 4 sc.nd (zcl (zah))) (zal (zfj PassesOwn.never rfl (zab 2) (zeh rfl (zcf (za5 5 sc.nd) (zcf (za5 6 sc.nd) (zeg)))) (zau (zbx (zfc (zp5 rfl rfl z_any (zad (zgb (N':=["_law_ask","_law_machine_here","_law_one","_law_other"]) (ixs:=[none,some 0,some 5,some 6]) rfl (zd3 (scO:=zat (top bd 18)) (NO:=["_law_machine_here","_law_many","_law_pairs","_law_found","_law_here","_law_one","_law_other","_law_long","_law_pair","_law_later","_law_met"]) rfl rfl (by decide +kernel)) (zga rfl z_range (zad (zao (zab 0) (zak)) (zah))) (fun _ _ _ _ _=>za5 0 (show List.Nodup (["_law_ask","_law_machine_here","_law_one","_law_other"]:List Str) by decide +kernel)) (fun _ _ _ _ _=>zd2) (fun _ _ _ _ _=>za6 h_m_law_unlike hr (by decide) rfl (zad (zab 1) (zad (zab 2) (zad (zab 3) (zad (zab 0) (zah))))) (zan (zan (zan (zan za4)))))) (zah)))) (zau (zcz (zdn (zab 4) (zbi (zad (zab 5) (zad (zab 6) (zah))))))) (zb1)))) (zal (zar 7 sc.nd (zak)) (zal (zlj zej PassesOwn.never (zln hr (zab 4) (zcl (zah))) (zal (zfj PassesOwn.never rfl (zab 4) (za5 8 sc.nd) (zau (zql hr (zab 3) (zab 8) (zab 7)))) (zal (zar 7 sc.nd (zdb (zab 7) (zak))) (zal (zar 4 sc.nd (zcl (zah))) (zau (zfj PassesOwn.never rfl (zab 2) (zeh rfl (zcf (za5 5 sc.nd) (zcf (za5 6 sc.nd) (zeg)))) (zal (zk3 9 sc.nd (N':=["_law_ask","_law_machine_here","_law_one","_law_other"]) (ixs:=[none,some 0,some 5,some 6]) rfl (zd3 (scO:=zat (top bd 18)) (NO:=["_law_machine_here","_law_many","_law_pairs","_law_found","_law_here","_law_one","_law_other","_law_long","_law_pair","_law_later","_law_met"]) rfl rfl (by decide +kernel)) (zga rfl z_range (zad (zao (zab 0) (zak)) (zah))) (fun _ _ _ _ _=>za5 0 (show List.Nodup (["_law_ask","_law_machine_here","_law_one","_law_other"]:List Str) by decide +kernel)) (fun _ _ _ _ _=>zd2) (fun _ _ _ _ _=>za6 h_m_law_both hr (by decide) rfl (zad (zab 1) (zad (zab 2) (zad (zab 3) (zad (zab 0) (zah))))) (zan (zan (zan (zan za4)))))) (zal (zk3 10 sc.nd (N':=["_law_pair","_law_found"]) (ixs:=[none,some 3]) rfl (zd3 (scO:=zat (top bd 18)) (NO:=["_law_machine_here","_law_many","_law_pairs","_law_found","_law_here","_law_one","_law_other","_law_long","_law_pair","_law_later","_law_met"]) rfl rfl (by decide +kernel)) (zhl (zab 9)) (fun _ _ _ _ _=>za5 0 (show List.Nodup (["_law_pair","_law_found"]:List Str) by decide +kernel)) (fun _ _ _ _ _=>zk2 (zdj (zes (zpg (zab 0) (zcc)) (zfd (zqj hr (zab 0) (zab 1)))))) (fun _ _ _ _ _=>zab 0)) (zau (zbx (zdj (zes (zlu hr (zbi (zad (zab 5) (zad (zab 6) (zah)))) (zab 3)) (zfd (zln hr (zab 10) (zcl (zah)))))) (zau (zcz (zdn (zab 4) (zbi (zad (zab 5) (zad (zab 6) (zah))))))) (zb1))))))))))) (zau (zbf (zab 3)))))))))
theorem ycv:FnScope ["_law_pen","_law_machine_here","_law_many","_law_far_here","_law_due","_law_again","_law_found","_law_k","_law_one","_law_other","_law_row"] ["_law_pen","_law_machine_here"] (zat (top bd 21)):=⟨rfl,rfl,rfl,by decide +kernel,rfl,by decide +kernel,by decide +kernel⟩
theorem h_m_law_right {f:Addr}{fd:FuncData}(F:Fun K "_law_right" "_law_right" (top bd 21) f fd) (hm:mg "_law_right" = some (.ref f)) (z_range:mg "range" = none) (z_isinstance:mg "isinstance" = none) (z_list:mg "list" = none) (z_repr:mg "repr" = none) (z_sorted:mg "sorted" = none) (z_len:mg "len" = none) (h_m_law_parts:Has P w K mg base "_law_parts" 2 4 zfu) (h_m_parting:Has P w K mg base "parting" 4 3 zfw) (h_m_law_take:Has P w K mg base "_law_take" 1 2 zbk) (h_m_parted:Has P w K mg base "parted" 5 1 zen) (h_m_law_far:Has P w K mg base "_law_far" 2 1 zgv):Has P w K mg base "_law_right" 6 2 zgw:=by
 have sc:=ycv
 refine zcd (k:=5) F hm sc rfl (F.binds (by intro _ _ _ _ _ _ us hl;revert us;exact bl2 fun _ _=>rfl)) fun cdv hcd A outer s H E hr=>?_
 exact zal (zar 2 sc.nd (zds rfl z_len (zad (zao (zab 1) (zak)) (zah)))) (zal (zar 3 sc.nd (za6 h_m_law_far hr (by decide) rfl (zad (zab 1) (zah)) (zan za4))) (zal (zar 4 sc.nd (ya4 rfl z_sorted (zad (zgb (N':=["_law_pair"]) (ixs:=[none]) rfl (zd3 (scO:=zat (top bd 21)) (NO:=["_law_pen","_law_machine_here","_law_many","_law_far_here","_law_due","_law_again","_law_found","_law_k","_law_one","_law_other","_law_row"]) rfl rfl (by decide +kernel)) (ybb (zab 3)) (fun _ _ _ _ _=>za5 0 (show List.Nodup (["_law_pair"]:List Str) by decide +kernel)) (fun _ _ _ _ _=>zk2 (zku (zao (zab 0) (zak)) (zao (zab 0) (zak)))) (fun _ _ _ _ _=>zab 0)) (zah)))) (zal (zf8 PassesOwn.never rfl rfl z_range (zad (zak) (zah)) (za5 5 sc.nd) (zal (zar 6 sc.nd (za6 h_m_parted hr (by decide) rfl (zad (zab 1) (zah)) (zan za4))) (zal (zbx (zdj (zf5 (ziu (zfc (zpk (U:="list") rfl z_isinstance rfl z_list zyw (by decide) (zab 6)))) (zit (zi0 (zjb hr rfl z_repr (zad (zab 6) (zah))) (zjb hr rfl z_repr (zad (zab 4) (zah))))))) (zau (zbf (zdz))) (zb1)) (zal (zcz (zdn (zab 6) (zbi (zad (zak) (zad (zak) (zah)))))) (zau (zcz (zyf (zab 6)))))))) (zal (zf8 PassesOwn.never rfl rfl z_range (zad (zak) (zah)) (za5 7 sc.nd) (zal (zar 8 sc.nd (za6 h_m_law_take hr (by decide) rfl (zad (zab 0) (zad (zab 2) (zah))) (zan (zan za4)))) (zal (zar 9 sc.nd (za6 h_m_law_take hr (by decide) rfl (zad (zab 0) (zad (zab 2) (zah))) (zan (zan za4)))) (zal (zar 10 sc.nd (za6 h_m_parting hr (by decide) rfl (zad (zab 1) (zad (zab 8) (zad (zab 9) (zah)))) (zan (zan (zan za4))))) (zal (zbx (zdj (zes (zlu hr (zbi (zad (zab 8) (zad (zab 9) (zah)))) (zab 3)) (zfd (zpg (zab 10) (zcc))))) (zau (zbf (zdz))) (zb1)) (zau (zbx (zdj (zes (zqj hr (zbi (zad (zab 8) (zad (zab 9) (zah)))) (zab 3)) (zfd (ziu (zfc (za6 h_m_law_parts hr (by decide) rfl (zad (zab 1) (zad (zab 8) (zad (zab 9) (zad (zab 10) (zah))))) (zan (zan (zan (zan za4)))))))))) (zau (zbf (zdz))) (zb1)))))))) (zau (zbf (zdz)))))))
theorem ycw:FnScope ["_law_pen","_law_room","_law_many","_law_kinds","_law_cells","_law_cell_here","_law_way","_law_goes","_law_tells"] ["_law_pen","_law_room","_law_many","_law_kinds"] (zat (top bd 14)):=⟨rfl,rfl,rfl,by decide +kernel,rfl,by decide +kernel,by decide +kernel⟩
theorem h_m_law_near {f:Addr}{fd:FuncData}(F:Fun K "_law_near" "_law_near" (top bd 14) f fd) (hm:mg "_law_near" = some (.ref f)) (z_tuple:mg "tuple" = none) (h_m_law_take:Has P w K mg base "_law_take" 1 2 zbk):Has P w K mg base "_law_near" 2 4 zgx:=by
 have sc:=ycw
 refine zcd (k:=1) F hm sc rfl (F.binds (by intro _ _ _ _ _ _ us hl;revert us;exact bl4 fun _ _ _ _=>rfl)) fun cdv hcd A outer s H E hr=>?_
 exact zal (zar 4 sc.nd (zcl (zah))) (zal (zfj PassesOwn.never rfl (zab 1) (za5 5 sc.nd) (zal (zar 6 sc.nd (za6 h_m_law_take hr (by decide) rfl (zad (zab 0) (zad (zak) (zah))) (zan (zan za4)))) (zal (zfi (zab 5) (zeh rfl (zcf (za5 7 sc.nd) (zcf (za5 8 sc.nd) (zeg))))) (zal (zbx (ziz (zab 6) (zak)) (zau (zar 7 sc.nd (zcc))) (zb1)) (zal (zbx (ziz (zab 6) (zak)) (zau (zar 8 sc.nd (zcc))) (zb1)) (zal (zbx (ziz (zab 6) (zak)) (zau (zar 7 sc.nd (za6 h_m_law_take hr (by decide) rfl (zad (zab 0) (zad (zab 2) (zah))) (zan (zan za4))))) (zb1)) (zal (zbx (ziz (zab 6) (zak)) (zau (zar 8 sc.nd (za6 h_m_law_take hr (by decide) rfl (zad (zab 0) (zad (zab 3) (zah))) (zan (zan za4))))) (zb1)) (zau (zcz (zdn (zab 4) (zbi (zad (zab 7) (zad (zab 8) (zah)))))))))))))) (zau (zbf (zhm rfl z_tuple (zad (zab 4) (zah))))))
theorem ycx:FnScope ["_law_pen","_law_many","_law_share","_law_kinds","_law_goes","_law_tells"] ["_law_pen","_law_many","_law_share","_law_kinds"] (zat (top bd 13)):=⟨rfl,rfl,rfl,by decide +kernel,rfl,by decide +kernel,by decide +kernel⟩
theorem h_m_law_cell {f:Addr}{fd:FuncData}(F:Fun K "_law_cell" "_law_cell" (top bd 13) f fd) (hm:mg "_law_cell" = some (.ref f)) (h_m_law_take:Has P w K mg base "_law_take" 1 2 zbk):Has P w K mg base "_law_cell" 2 4 zfx:=by
 have sc:=ycx
 refine zcd (k:=1) F hm sc rfl (F.binds (by intro _ _ _ _ _ _ us hl;revert us;exact bl4 fun _ _ _ _=>rfl)) fun cdv hcd A outer s H E hr=>?_
 exact zal (zar 4 sc.nd (zcc)) (zal (zbx (zkv (za6 h_m_law_take hr (by decide) rfl (zad (zab 0) (zad (zak) (zah))) (zan (zan za4))) (zab 2)) (zau (zar 4 sc.nd (za6 h_m_law_take hr (by decide) rfl (zad (zab 0) (zad (zab 1) (zah))) (zan (zan za4))))) (zb1)) (zal (zar 5 sc.nd (zcc)) (zal (zbx (zkv (za6 h_m_law_take hr (by decide) rfl (zad (zab 0) (zad (zak) (zah))) (zan (zan za4))) (zab 2)) (zau (zar 5 sc.nd (za6 h_m_law_take hr (by decide) rfl (zad (zab 0) (zad (zab 3) (zah))) (zan (zan za4))))) (zb1)) (zau (zbf (zbi (zad (zab 4) (zad (zab 5) (zah)))))))))
theorem ycy:FnScope ["_law_pen","_law_most","_law_copies","_law_share","_law_kinds","_law_asks","_law_many","_law_rooms","_law_k"] ["_law_pen","_law_most"] (zat (top bd 15)):=⟨rfl,rfl,rfl,by decide +kernel,rfl,by decide +kernel,by decide +kernel⟩
theorem h_m_law_machine {f:Addr}{fd:FuncData}(F:Fun K "_law_machine" "_law_machine" (top bd 15) f fd) (hm:mg "_law_machine" = some (.ref f)) (z_tuple:mg "tuple" = none) (z_range:mg "range" = none) (h_m_law_take:Has P w K mg base "_law_take" 1 2 zbk) (h_m_law_near:Has P w K mg base "_law_near" 2 4 zgx) (h_m_law_cell:Has P w K mg base "_law_cell" 2 4 zfx):Has P w K mg base "_law_machine" 3 2 zgy:=by
 have sc:=ycy
 refine zcd (k:=2) F hm sc rfl (F.binds (by intro _ _ _ _ _ _ us hl;revert us;exact bl2 fun _ _=>rfl)) fun cdv hcd A outer s H E hr=>?_
 exact zal (zar 2 sc.nd (za6 h_m_law_take hr (by decide) rfl (zad (zab 0) (zad (zak) (zah))) (zan (zan za4)))) (zal (zar 3 sc.nd (zao (zcl (zad (zak) (zad (zak) (zad (zak) (zad (zak) (zah)))))) (za6 h_m_law_take hr (by decide) rfl (zad (zab 0) (zad (zak) (zah))) (zan (zan za4))))) (zal (zar 4 sc.nd (zao (zcl (zad (zak) (zad (zak) (zad (zak) (zad (zak) (zah)))))) (za6 h_m_law_take hr (by decide) rfl (zad (zab 0) (zad (zak) (zah))) (zan (zan za4))))) (zal (zar 5 sc.nd (zdb (zak) (za6 h_m_law_take hr (by decide) rfl (zad (zab 0) (zad (zak) (zah))) (zan (zan za4))))) (zal (zar 6 sc.nd (zdb (zak) (za6 h_m_law_take hr (by decide) rfl (zad (zab 0) (zad (zab 1) (zah))) (zan (zan za4))))) (zal (zar 7 sc.nd (zcl (zah))) (zal (zf8 PassesOwn.never rfl rfl z_range (zad (zab 6) (zah)) (za5 8 sc.nd) (zau (zbx (zdj (zes (zhh (zab 8) (zak)) (zes (zhh (zab 2) (zak)) (zfd (zhh (za6 h_m_law_take hr (by decide) rfl (zad (zab 0) (zad (zak) (zah))) (zan (zan za4))) (zak)))))) (zau (zcz (zdn (zab 7) (za6 h_m_law_near hr (by decide) rfl (zad (zab 0) (zad (zao (zab 7) (za6 h_m_law_take hr (by decide) rfl (zad (zab 0) (zad (zab 8) (zah))) (zan (zan za4)))) (zad (zab 6) (zad (zab 4) (zah))))) (zan (zan (zan (zan za4)))))))) (zau (zcz (zdn (zab 7) (zhm rfl z_tuple (zad (zgb (N':=["_law_ask","_law_pen","_law_many","_law_share","_law_kinds"]) (ixs:=[none,some 0,some 6,some 3,some 4]) rfl (zd3 (scO:=zat (top bd 15)) (NO:=["_law_pen","_law_most","_law_copies","_law_share","_law_kinds","_law_asks","_law_many","_law_rooms","_law_k"]) rfl rfl (by decide +kernel)) (zga rfl z_range (zad (zab 5) (zah))) (fun _ _ _ _ _=>za5 0 (show List.Nodup (["_law_ask","_law_pen","_law_many","_law_share","_law_kinds"]:List Str) by decide +kernel)) (fun _ _ _ _ _=>zd2) (fun _ _ _ _ _=>za6 h_m_law_cell hr (by decide) rfl (zad (zab 1) (zad (zab 2) (zad (zab 3) (zad (zab 4) (zah))))) (zan (zan (zan (zan za4)))))) (zah))))))))) (zau (zbf (zbi (zad (zab 5) (zad (zhm rfl z_tuple (zad (zab 7) (zah))) (zah))))))))))))
theorem ycz:FnScope ["_law_script","_law_pen","_law_turn","_law_machine_here","_law_opened","_law_kept","_law_text"] ["_law_script"] (zat (top bd 22)):=⟨rfl,rfl,rfl,by decide +kernel,rfl,by decide +kernel,by decide +kernel⟩
theorem yc0 {f:Addr}{fd:FuncData}(F:Fun K "law" "law" (top bd 22) f fd) (z_repr:mg "repr" = none) (z_tuple:mg "tuple" = none) (z_range:mg "range" = none) (h_m_law_right:Has P w K mg base "_law_right" 6 2 zgw) (h_m_parted:Has P w K mg base "parted" 5 1 zen) (h_m_law_machine:Has P w K mg base "_law_machine" 3 2 zgy):FnOk P w K mg base CX0 7 f fd ["_law_script"] (sp3 K 1 ze5):=by
 have sc:=ycz
 refine zpn (k:=6) F sc rfl fun cdv hcd A outer s H E hr=>?_
 exact zal (zar 1 sc.nd (zcl (zad (zab 0) (zad (zak) (zad (zak) (zah)))))) (zal (zf8 PassesOwn.never rfl rfl z_range (zad (zak) (zah)) (za5 2 sc.nd) (zal (zar 3 sc.nd (za6 h_m_law_machine hr (by decide) rfl (zad (zab 1) (zad (zak) (zah))) (zan (zan za4)))) (zal (zar 4 sc.nd (zbi (zad (zao (zab 3) (zak)) (zad (zhm rfl z_tuple (zad (zgb (N':=["_law_room"]) (ixs:=[none]) rfl (zd3 (scO:=zat (top bd 22)) (NO:=["_law_script","_law_pen","_law_turn","_law_machine_here","_law_opened","_law_kept","_law_text"]) rfl rfl (by decide +kernel)) (zhl (zao (zab 3) (zak))) (fun _ _ _ _ _=>za5 0 (show List.Nodup (["_law_room"]:List Str) by decide +kernel)) (fun _ _ _ _ _=>zd2) (fun _ _ _ _ _=>zhm rfl z_tuple (zad (zgb (N':=["_law_goes","_law_tells"]) (ixs:=[none,none]) rfl (zzt (by decide +kernel)) (zhl (zab 0)) (fun _ _ _ _ _=>zeh rfl (zcf (za5 0 (show List.Nodup (["_law_goes","_law_tells"]:List Str) by decide +kernel)) (zcf (za5 1 (show List.Nodup (["_law_goes","_law_tells"]:List Str) by decide +kernel)) (zeg)))) (fun _ _ _ _ _=>zd2) (fun _ _ _ _ _=>zbi (zad (zab 0) (zad (zcc) (zah))))) (zah)))) (zah))) (zah))))) (zal (zar 5 sc.nd (za6 h_m_parted hr (by decide) rfl (zad (zab 3) (zah)) (zan za4))) (zal (zar 6 sc.nd (zjb hr rfl z_repr (zad (zab 5) (zah)))) (zau (zbx (zdj (zf5 (ziu (zfc (za6 h_m_law_right hr (by decide) rfl (zad (zab 1) (zad (zab 3) (zah))) (zan (zan za4))))) (zf5 (zln hr (za6 h_m_parted hr (by decide) rfl (zad (zab 4) (zah)) (zan za4)) (zcl (zah))) (zit (zi0 (zjb hr rfl z_repr (zad (zab 5) (zah))) (zab 6)))))) (zau (zbf (zdz))) (zb1)))))))) (zau (zbf (zdz))))
end
theorem all_mk {l:PySem.W.OpenLaw}{w:World}{K:PySem.W.Frag}{h:Heap}{mg:Str->Option Value}{fa:Addr}(X:K.In h) (G:h.Ns mainGlobals mg) (hfa:mg "law" = some (.ref fa)) {f0 f1 f2 f3 f4 f5 f6 f7 f8 f9 f10 f11 f12 f13 f14 f15 f16 f17 f18 f19:Addr}
  {od0 an0:Option Addr} {sl0:Array (Option Value)} {oc0 kV0 dc0 pm0 cd0 ct0:Value}
  {od1 an1:Option Addr} {sl1:Array (Option Value)} {oc1 kV1 dc1 pm1 cd1 ct1:Value}
  {od2 an2:Option Addr} {sl2:Array (Option Value)} {oc2 kV2 dc2 pm2 cd2 ct2:Value}
  {od3 an3:Option Addr} {sl3:Array (Option Value)} {oc3 kV3 dc3 pm3 cd3 ct3:Value}
  {od4 an4:Option Addr} {sl4:Array (Option Value)} {oc4 kV4 dc4 pm4 cd4 ct4:Value}
  {od5 an5:Option Addr} {sl5:Array (Option Value)} {oc5 kV5 dc5 pm5 cd5 ct5:Value}
  {od6 an6:Option Addr} {sl6:Array (Option Value)} {oc6 kV6 dc6 pm6 cd6 ct6:Value}
  {od7 an7:Option Addr} {sl7:Array (Option Value)} {oc7 kV7 dc7 pm7 cd7 ct7:Value}
  {od8 an8:Option Addr} {sl8:Array (Option Value)} {oc8 kV8 dc8 pm8 cd8 ct8:Value}
  {od9 an9:Option Addr} {sl9:Array (Option Value)} {oc9 kV9 dc9 pm9 cd9 ct9:Value}
  {od10 an10:Option Addr} {sl10:Array (Option Value)} {oc10 kV10 dc10 pm10 cd10 ct10:Value}
  {od11 an11:Option Addr} {sl11:Array (Option Value)} {oc11 kV11 dc11 pm11 cd11 ct11:Value}
  {od12 an12:Option Addr} {sl12:Array (Option Value)} {oc12 kV12 dc12 pm12 cd12 ct12:Value}
  {od13 an13:Option Addr} {sl13:Array (Option Value)} {oc13 kV13 dc13 pm13 cd13 ct13:Value}
  {od14 an14:Option Addr} {sl14:Array (Option Value)} {oc14 kV14 dc14 pm14 cd14 ct14:Value}
  {od15 an15:Option Addr} {sl15:Array (Option Value)} {oc15 kV15 dc15 pm15 cd15 ct15:Value}
  {od16 an16:Option Addr} {sl16:Array (Option Value)} {oc16 kV16 dc16 pm16 cd16 ct16:Value}
  {od17 an17:Option Addr} {sl17:Array (Option Value)} {oc17 kV17 dc17 pm17 cd17 ct17:Value}
  {od18 an18:Option Addr} {sl18:Array (Option Value)} {oc18 kV18 dc18 pm18 cd18 ct18:Value}
  {od19 an19:Option Addr} {sl19:Array (Option Value)} {oc19 kV19 dc19 pm19 cd19 ct19:Value}
  (a0:PySem.W.nsIn K mainGlobals "_law_gone" = some (some (.ref f0))) (l0:K.lookup f0=some ⟨oc0,od0,.func (PySem.W.fnOf "_law_gone" "_law_gone" (zbr (top bd 19)) (zbm (top bd 19)) (zat (top bd 19)) .none kV0 dc0 pm0 an0 cd0 ct0),sl0⟩) (c0:PySem.W.codeIn K cd0 "_law_gone" = true) (k0:PySem.W.keepIn K (.ref f0)=true)
  (a1:PySem.W.nsIn K mainGlobals "_law_parts" = some (some (.ref f1))) (l1:K.lookup f1=some ⟨oc1,od1,.func (PySem.W.fnOf "_law_parts" "_law_parts" (zbr (top bd 20)) (zbm (top bd 20)) (zat (top bd 20)) .none kV1 dc1 pm1 an1 cd1 ct1),sl1⟩) (c1:PySem.W.codeIn K cd1 "_law_parts" = true) (k1:PySem.W.keepIn K (.ref f1)=true)
  (a2:PySem.W.nsIn K mainGlobals "answers_unlike" = some (some (.ref f2))) (l2:K.lookup f2=some ⟨oc2,od2,.func (PySem.W.fnOf "answers_unlike" "answers_unlike" (zbr (top bd 3)) (zbm (top bd 3)) (zat (top bd 3)) .none kV2 dc2 pm2 an2 cd2 ct2),sl2⟩) (c2:PySem.W.codeIn K cd2 "answers_unlike" = true) (k2:PySem.W.keepIn K (.ref f2)=true)
  (a3:PySem.W.nsIn K mainGlobals "say_unlike" = some (some (.ref f3))) (l3:K.lookup f3=some ⟨oc3,od3,.func (PySem.W.fnOf "say_unlike" "say_unlike" (zbr (top bd 4)) (zbm (top bd 4)) (zat (top bd 4)) .none kV3 dc3 pm3 an3 cd3 ct3),sl3⟩) (c3:PySem.W.codeIn K cd3 "say_unlike" = true) (k3:PySem.W.keepIn K (.ref f3)=true)
  (a4:PySem.W.nsIn K mainGlobals "walk_both" = some (some (.ref f4))) (l4:K.lookup f4=some ⟨oc4,od4,.func (PySem.W.fnOf "walk_both" "walk_both" (zbr (top bd 1)) (zbm (top bd 1)) (zat (top bd 1)) .none kV4 dc4 pm4 an4 cd4 ct4),sl4⟩) (c4:PySem.W.codeIn K cd4 "walk_both" = true) (k4:PySem.W.keepIn K (.ref f4)=true)
  (a5:PySem.W.nsIn K mainGlobals "parting" = some (some (.ref f5))) (l5:K.lookup f5=some ⟨oc5,od5,.func (PySem.W.fnOf "parting" "parting" (zbr (top bd 5)) (zbm (top bd 5)) (zat (top bd 5)) .none kV5 dc5 pm5 an5 cd5 ct5),sl5⟩) (c5:PySem.W.codeIn K cd5 "parting" = true) (k5:PySem.W.keepIn K (.ref f5)=true)
  (a6:PySem.W.nsIn K mainGlobals "_law_take" = some (some (.ref f6))) (l6:K.lookup f6=some ⟨oc6,od6,.func (PySem.W.fnOf "_law_take" "_law_take" (zbr (top bd 12)) (zbm (top bd 12)) (zat (top bd 12)) .none kV6 dc6 pm6 an6 cd6 ct6),sl6⟩) (c6:PySem.W.codeIn K cd6 "_law_take" = true) (k6:PySem.W.keepIn K (.ref f6)=true)
  (a7:PySem.W.nsIn K mainGlobals "all_pairs" = some (some (.ref f7))) (l7:K.lookup f7=some ⟨oc7,od7,.func (PySem.W.fnOf "all_pairs" "all_pairs" (zbr (top bd 8)) (zbm (top bd 8)) (zat (top bd 8)) .none kV7 dc7 pm7 an7 cd7 ct7),sl7⟩) (c7:PySem.W.codeIn K cd7 "all_pairs" = true) (k7:PySem.W.keepIn K (.ref f7)=true)
  (a8:PySem.W.nsIn K mainGlobals "pairs_ahead" = some (some (.ref f8))) (l8:K.lookup f8=some ⟨oc8,od8,.func (PySem.W.fnOf "pairs_ahead" "pairs_ahead" (zbr (top bd 10)) (zbm (top bd 10)) (zat (top bd 10)) .none kV8 dc8 pm8 an8 cd8 ct8),sl8⟩) (c8:PySem.W.codeIn K cd8 "pairs_ahead" = true) (k8:PySem.W.keepIn K (.ref f8)=true)
  (a9:PySem.W.nsIn K mainGlobals "pairs_at_once" = some (some (.ref f9))) (l9:K.lookup f9=some ⟨oc9,od9,.func (PySem.W.fnOf "pairs_at_once" "pairs_at_once" (zbr (top bd 9)) (zbm (top bd 9)) (zat (top bd 9)) .none kV9 dc9 pm9 an9 cd9 ct9),sl9⟩) (c9:PySem.W.codeIn K cd9 "pairs_at_once" = true) (k9:PySem.W.keepIn K (.ref f9)=true)
  (a10:PySem.W.nsIn K mainGlobals "parted_pairs" = some (some (.ref f10))) (l10:K.lookup f10=some ⟨oc10,od10,.func (PySem.W.fnOf "parted_pairs" "parted_pairs" (zbr (top bd 7)) (zbm (top bd 7)) (zat (top bd 7)) .none kV10 dc10 pm10 an10 cd10 ct10),sl10⟩) (c10:PySem.W.codeIn K cd10 "parted_pairs" = true) (k10:PySem.W.keepIn K (.ref f10)=true)
  (a11:PySem.W.nsIn K mainGlobals "parted" = some (some (.ref f11))) (l11:K.lookup f11=some ⟨oc11,od11,.func (PySem.W.fnOf "parted" "parted" (zbr (top bd 6)) (zbm (top bd 6)) (zat (top bd 6)) .none kV11 dc11 pm11 an11 cd11 ct11),sl11⟩) (c11:PySem.W.codeIn K cd11 "parted" = true) (k11:PySem.W.keepIn K (.ref f11)=true)
  (a12:PySem.W.nsIn K mainGlobals "_law_both" = some (some (.ref f12))) (l12:K.lookup f12=some ⟨oc12,od12,.func (PySem.W.fnOf "_law_both" "_law_both" (zbr (top bd 17)) (zbm (top bd 17)) (zat (top bd 17)) .none kV12 dc12 pm12 an12 cd12 ct12),sl12⟩) (c12:PySem.W.codeIn K cd12 "_law_both" = true) (k12:PySem.W.keepIn K (.ref f12)=true)
  (a13:PySem.W.nsIn K mainGlobals "_law_unlike" = some (some (.ref f13))) (l13:K.lookup f13=some ⟨oc13,od13,.func (PySem.W.fnOf "_law_unlike" "_law_unlike" (zbr (top bd 16)) (zbm (top bd 16)) (zat (top bd 16)) .none kV13 dc13 pm13 an13 cd13 ct13),sl13⟩) (c13:PySem.W.codeIn K cd13 "_law_unlike" = true) (k13:PySem.W.keepIn K (.ref f13)=true)
  (a14:PySem.W.nsIn K mainGlobals "_law_far" = some (some (.ref f14))) (l14:K.lookup f14=some ⟨oc14,od14,.func (PySem.W.fnOf "_law_far" "_law_far" (zbr (top bd 18)) (zbm (top bd 18)) (zat (top bd 18)) .none kV14 dc14 pm14 an14 cd14 ct14),sl14⟩) (c14:PySem.W.codeIn K cd14 "_law_far" = true) (k14:PySem.W.keepIn K (.ref f14)=true)
  (a15:PySem.W.nsIn K mainGlobals "_law_right" = some (some (.ref f15))) (l15:K.lookup f15=some ⟨oc15,od15,.func (PySem.W.fnOf "_law_right" "_law_right" (zbr (top bd 21)) (zbm (top bd 21)) (zat (top bd 21)) .none kV15 dc15 pm15 an15 cd15 ct15),sl15⟩) (c15:PySem.W.codeIn K cd15 "_law_right" = true) (k15:PySem.W.keepIn K (.ref f15)=true)
  (a16:PySem.W.nsIn K mainGlobals "_law_near" = some (some (.ref f16))) (l16:K.lookup f16=some ⟨oc16,od16,.func (PySem.W.fnOf "_law_near" "_law_near" (zbr (top bd 14)) (zbm (top bd 14)) (zat (top bd 14)) .none kV16 dc16 pm16 an16 cd16 ct16),sl16⟩) (c16:PySem.W.codeIn K cd16 "_law_near" = true) (k16:PySem.W.keepIn K (.ref f16)=true)
  (a17:PySem.W.nsIn K mainGlobals "_law_cell" = some (some (.ref f17))) (l17:K.lookup f17=some ⟨oc17,od17,.func (PySem.W.fnOf "_law_cell" "_law_cell" (zbr (top bd 13)) (zbm (top bd 13)) (zat (top bd 13)) .none kV17 dc17 pm17 an17 cd17 ct17),sl17⟩) (c17:PySem.W.codeIn K cd17 "_law_cell" = true) (k17:PySem.W.keepIn K (.ref f17)=true)
  (a18:PySem.W.nsIn K mainGlobals "_law_machine" = some (some (.ref f18))) (l18:K.lookup f18=some ⟨oc18,od18,.func (PySem.W.fnOf "_law_machine" "_law_machine" (zbr (top bd 15)) (zbm (top bd 15)) (zat (top bd 15)) .none kV18 dc18 pm18 an18 cd18 ct18),sl18⟩) (c18:PySem.W.codeIn K cd18 "_law_machine" = true) (k18:PySem.W.keepIn K (.ref f18)=true)
  (a19:PySem.W.nsIn K mainGlobals "law" = some (some (.ref f19))) (l19:K.lookup f19=some ⟨oc19,od19,.func (PySem.W.fnOf "law" "law" (zbr (top bd 22)) (zbm (top bd 22)) (zat (top bd 22)) .none kV19 dc19 pm19 an19 cd19 ct19),sl19⟩) (c19:PySem.W.codeIn K cd19 "law" = true) (k19:PySem.W.keepIn K (.ref f19)=true)
  (z_len:PySem.W.nsIn K mainGlobals "len" = some none)
  (z_isinstance:PySem.W.nsIn K mainGlobals "isinstance" = some none)
  (z_tuple:PySem.W.nsIn K mainGlobals "tuple" = some none)
  (z_range:PySem.W.nsIn K mainGlobals "range" = some none)
  (z_abs:PySem.W.nsIn K mainGlobals "abs" = some none)
  (z_max:PySem.W.nsIn K mainGlobals "max" = some none)
  (z_min:PySem.W.nsIn K mainGlobals "min" = some none)
  (z_any:PySem.W.nsIn K mainGlobals "any" = some none)
  (z_sorted:PySem.W.nsIn K mainGlobals "sorted" = some none)
  (z_list:PySem.W.nsIn K mainGlobals "list" = some none)
  (z_repr:PySem.W.nsIn K mainGlobals "repr" = some none) :
  ∃fd:FuncData,(∀(s:Shared) (v:Value),BindsTo s fd ⟨[v],[]⟩ [("_law_script",v)])/\∀base:Heap,K.In base->base.Ns mainGlobals mg->FnOk l.prog w K mg base CX0 7 fa fd ["_law_script"] (sp3 K 1 ze5):=by
 have y_len:=PySem.W.mg_none_of X G z_len
 have y_isinstance:=PySem.W.mg_none_of X G z_isinstance
 have y_tuple:=PySem.W.mg_none_of X G z_tuple
 have y_range:=PySem.W.mg_none_of X G z_range
 have y_abs:=PySem.W.mg_none_of X G z_abs
 have y_max:=PySem.W.mg_none_of X G z_max
 have y_min:=PySem.W.mg_none_of X G z_min
 have y_any:=PySem.W.mg_none_of X G z_any
 have y_sorted:=PySem.W.mg_none_of X G z_sorted
 have y_list:=PySem.W.mg_none_of X G z_list
 have y_repr:=PySem.W.mg_none_of X G z_repr
 have yf_say_unlike:Fnc K mg "say_unlike":=⟨f3,_,a3,l3,PySem.W.mg_of X G a3⟩
 have e:=hfa.symm.trans (PySem.W.mg_of X G a19)
 cases e
 have F0:=zb8 (st:=top bd 19) l0 c0 k0
 have F1:=zb8 (st:=top bd 20) l1 c1 k1
 have F2:=zb8 (st:=top bd 3) l2 c2 k2
 have F3:=zb8 (st:=top bd 4) l3 c3 k3
 have F4:=zb8 (st:=top bd 1) l4 c4 k4
 have F5:=zb8 (st:=top bd 5) l5 c5 k5
 have F6:=zb8 (st:=top bd 12) l6 c6 k6
 have F7:=zb8 (st:=top bd 8) l7 c7 k7
 have F8:=zb8 (st:=top bd 10) l8 c8 k8
 have F9:=zb8 (st:=top bd 9) l9 c9 k9
 have F10:=zb8 (st:=top bd 7) l10 c10 k10
 have F11:=zb8 (st:=top bd 6) l11 c11 k11
 have F12:=zb8 (st:=top bd 17) l12 c12 k12
 have F13:=zb8 (st:=top bd 16) l13 c13 k13
 have F14:=zb8 (st:=top bd 18) l14 c14 k14
 have F15:=zb8 (st:=top bd 21) l15 c15 k15
 have F16:=zb8 (st:=top bd 14) l16 c16 k16
 have F17:=zb8 (st:=top bd 13) l17 c17 k17
 have F18:=zb8 (st:=top bd 15) l18 c18 k18
 have F19:=zb8 (st:=top bd 22) l19 c19 k19
 refine ⟨PySem.W.fnOf "law" "law" (zbr (top bd 22)) (zbm (top bd 22)) (zat (top bd 22)) .none kV19 dc19 pm19 an19 cd19 ct19,fun s v=>.of_eq rfl,fun base _ _=>?_⟩
 have g0:Has l.prog w K mg base "_law_gone" 1 3 zft:=h_m_law_gone F0 (PySem.W.mg_of X G a0)
 have g1:Has l.prog w K mg base "_law_parts" 2 4 zfu:=h_m_law_parts F1 (PySem.W.mg_of X G a1) y_len y_isinstance y_tuple g0
 have g2:Has l.prog w K mg base "answers_unlike" 1 2 zfv:=h_m_answers_unlike F2 (PySem.W.mg_of X G a2)
 have g3:Has l.prog w K mg base "say_unlike" 2 2 zdc:=h_m_say_unlike F3 (PySem.W.mg_of X G a3) g2
 have g4:Has l.prog w K mg base "walk_both" 3 4 zgr:=h_m_walk_both F4 (PySem.W.mg_of X G a4) y_len y_range g3 yf_say_unlike
 have g5:Has l.prog w K mg base "parting" 4 3 zfw:=h_m_parting F5 (PySem.W.mg_of X G a5) g4 yf_say_unlike
 have g6:Has l.prog w K mg base "_law_take" 1 2 zbk:=h_m_law_take F6 (PySem.W.mg_of X G a6) y_len y_abs
 have g7:Has l.prog w K mg base "all_pairs" 1 1 zdd:=h_m_all_pairs F7 (PySem.W.mg_of X G a7) y_range y_len
 have g8:Has l.prog w K mg base "pairs_ahead" 2 1 zgs:=h_m_pairs_ahead F8 (PySem.W.mg_of X G a8) y_max y_min y_range g7
 have g9:Has l.prog w K mg base "pairs_at_once" 3 1 zgt:=h_m_pairs_at_once F9 (PySem.W.mg_of X G a9) y_any y_range g7 g3
 have g10:Has l.prog w K mg base "parted_pairs" 4 1 zgu:=h_m_parted_pairs F10 (PySem.W.mg_of X G a10) g8 g9
 have g11:Has l.prog w K mg base "parted" 5 1 zen:=h_m_parted F11 (PySem.W.mg_of X G a11) y_sorted g10
 have g12:Has l.prog w K mg base "_law_both" 1 4 ze3:=h_m_law_both F12 (PySem.W.mg_of X G a12)
 have g13:Has l.prog w K mg base "_law_unlike" 1 4 ze4:=h_m_law_unlike F13 (PySem.W.mg_of X G a13)
 have g14:Has l.prog w K mg base "_law_far" 2 1 zgv:=h_m_law_far F14 (PySem.W.mg_of X G a14) y_range y_any y_len g12 g13
 have g15:Has l.prog w K mg base "_law_right" 6 2 zgw:=h_m_law_right F15 (PySem.W.mg_of X G a15) y_range y_isinstance y_list y_repr y_sorted y_len g1 g5 g6 g11 g14
 have g16:Has l.prog w K mg base "_law_near" 2 4 zgx:=h_m_law_near F16 (PySem.W.mg_of X G a16) y_tuple g6
 have g17:Has l.prog w K mg base "_law_cell" 2 4 zfx:=h_m_law_cell F17 (PySem.W.mg_of X G a17) g6
 have g18:Has l.prog w K mg base "_law_machine" 3 2 zgy:=h_m_law_machine F18 (PySem.W.mg_of X G a18) y_tuple y_range g6 g16 g17
 exact yc0 F19 y_repr y_tuple y_range g15 g11 g18
theorem walk {l:PySem.W.OpenLaw}{q:Program}{loose:List Str}{XP:(Str->Option Value)->Heap->Prop}{YP:World->Heap->Prop}{d:DefRec}{K:Params->PySem.W.Frag}(hn:l.most=some 63) (hdf:d.params.defaults=[])
  (hY:∀(w:World) (h:Heap),YP w h->(K w.params).In h)
  (F:∀(w:World) (mg:Str->Option Value) (fa:Addr) (h:Heap),(K w.params).In h->h.Ns mainGlobals mg->mg d.name=some (.ref fa) ->
   ∃fd:FuncData,(∀(s:Shared) (u:Value),BindsTo s fd ⟨[u],[]⟩ [("_law_script",u)])/\∀base:Heap,(K w.params).In base->base.Ns mainGlobals mg->FnOk l.prog w (K w.params) mg base CX0 7 fa fd ["_law_script"] (sp3 (K w.params) 1 ze5))
  (hlaw:∀ns:List Int,ns.length<=63->∃S',ze5 [.ref 0] [.flst (ns.map D.int)]=some (.bl true,S')) :
  PySem.W.WalkO q loose XP YP l.row.toRowW d [] (fun f vs=>PySem.call f vs) :=
 L2.walk_of (n:=63) (k:=7) (x:="_law_script") (CX:=fun _=>CX0) (sp:=fun w=>sp3 (K w.params) 1 ze5) hn (by decide) hdf ⟨rfl,by decide,by decide,rfl⟩ hY F (fun _ _ a ns hl hO hS=>zyz hO hS (hlaw ns hl)) fun _ _ _ _ _ z=>z
end G
end
theorem qg0 {α:Type}{a:α}{l:List α}:(a :: l)[0]? = some a:=rfl
theorem qg1 {α:Type}{a:α}{i:Nat}{l:List α}:(a :: l)[i+1]? = l[i]?:=rfl
theorem qs0 {α:Type}{a b:α}{l:List α}:(a :: l).set 0 b=b :: l:=rfl
theorem qs1 {α:Type}{a b:α}{n:Nat}{l:List α}:(a :: l).set (n+1) b=a :: l.set n b:=rfl
theorem qlt {α:Type}{l:List α}{i:Nat}{a:α}(h:l[i]? = some a):i<l.length:=(List.getElem?_eq_some_iff.mp h).1
namespace M
open PySem L3 G
noncomputable def St (ns:List Int) (at' r:Int) (rest:Sto):Sto:=.flst (ns.map .int) :: .lst [.ref 0,.int at',.int r] :: rest
section
variable {ns:List Int}{a r x:Int}{rest:Sto}{o:Ob}{k:Nat}
theorem yc1:lstOf (St ns a r rest) 0=some (ns.map .int):=rfl
theorem yc2:lstOf (St ns a r rest) 1=some [.ref 0,.int a,.int r]:=rfl
theorem yc3:lstOf (St ns a r rest) (k+2)=lstOf rest k:=by unfold lstOf St;simp
theorem yc4:(St ns a r rest)[k+2]? = rest[k]?:=by unfold St;simp
theorem yc5:(St ns a r rest).set (k+2) o=St ns a r (rest.set k o):=rfl
theorem zmu:St ns a r rest++[o]=St ns a r (rest++[o]):=rfl
theorem zr0:(St ns a r rest).length=rest.length+2:=rfl
theorem yc6:zfh (.ref 1) (.int 2) (.int x) (St ns a r rest)=some (St ns a x rest):=rfl
theorem yc7:zfh (.ref 1) (.int 1) (.int x) (St ns a r rest)=some (St ns x r rest):=rfl
end
noncomputable abbrev zia:List D:=[.int 2147483647,.int 2147483629,.int 2147483587,.int 2147483579,.int 2147483563,.int 2147483549,.int 2147483543]
local macro_rules
 | `(tactic| simp! only [$xs,*])=>`(tactic| simp only [zb2,zhn,zk8,zd5,zdp,zi2,zap,zd4,zby,zho,zc9,zc8,za0,zk9,zew,zex,zey,zbd,zc1,zba,za7,zk6,zgc,zgd,zk7,zla,zlb,zmn,zmo,zgp,zi3,zi4,zh5,zmc,zi5,zi6,zme,zmd,zlc,zdq,zi7,zge,zld,zhp,zmf,zle,zlf,zmg,zmh,List.map_cons,List.map_nil,List.length_cons,List.length_nil,Nat.reduceAdd,Nat.reduceSub,List.replicate,List.cons_append,List.nil_append,qg0,qg1,qs0,qs1,zbb,zh3,zjq,zh4,zl9,zma,zmb,zl7,zl8,zdu,decide_eq_true_eq,zrd,zrb,zrc,zmr,$xs,*])
theorem zr1 (i:Int) (h0:0<=i) (h1:i<7):∃p,L2.atI zia i=some (.int p)/\0<p/\p<2147483648:=by
 have:i=0∨i=1∨i=2∨i=3∨i=4∨i=5∨i=6:=by omega
 rcases this with rfl|rfl|rfl|rfl|rfl|rfl|rfl <;> exact ⟨_,rfl,by decide,by decide⟩
local macro_rules
 | `(tactic| dsimp! only [$xs,*])=>`(tactic| simp only [zb2,zhn,zk8,zd5,zdp,zi2,zap,zd4,zby,zho,zc9,zc8,za0,zk9,zew,zex,zey,zbd,zc1,zba,za7,zk6,zgc,zgd,zk7,zla,zlb,zmn,zmo,zgp,zi3,zi4,zh5,zmc,zi5,zi6,zme,zmd,zlc,zdq,zi7,zge,zld,zhp,zmf,zle,zlf,zmg,zmh,List.map_cons,List.map_nil,List.length_cons,List.length_nil,Nat.reduceAdd,Nat.reduceSub,List.replicate,List.cons_append,List.nil_append,qg0,qg1,qs0,qs1,zbb,zh3,zjq,zh4,zl9,zma,zmb,zl7,zl8,zdu,decide_eq_true_eq,yc1,yc2,yc7,yc6,zmu,zr0,yc3,$xs,*])
theorem yc8 (ns:List Int) (at' r m:Int) (rest:Sto) (ha:0<=at') (hb:at' < 1000000000) (hr:0<=r) (hm:0<m) (hm2:m<1073741824) :
  Wo (zbk [.ref 1,.int m] (St ns at' r rest)) fun v S=>∃d at2 r2 ex,v=.int d/\0<=d/\d<m/\S=St ns at2 r2 (rest++ex)/\0<=at2/\at2<=at' + 1/\0<=r2:=by
 obtain ⟨p1,hp1,p1a,p1b⟩:=zr1 (at' % 7) (by omega) (by omega)
 obtain ⟨p2,hp2,p2a,p2b⟩:=zr1 ((at' + 3) % 7) (by omega) (by omega)
 have sz:7<=sizeLine:=by decide
 have f5:(0:Int)<=18/\(18:Int)<=1000000/\Int.natAbs 10<2 ^ 64:=by decide
 have f7:(0:Int)<7:=by decide
 unfold zbk zrm
 by_cases hr0:0<r
 ·simp only [zb2,List.map_cons,List.map_nil,List.length_cons,List.length_nil,Nat.reduceAdd,Nat.reduceSub,List.replicate,List.cons_append,List.nil_append]
  refine zh9 (fun _ _=>False) (fun v S=>∃d at2 r2 ex,v=.int d/\0<=d/\d<m/\S=St ns at2 r2 (rest++ex)/\0<=at2/\at2<=at' + 1/\0<=r2) ?_ (fun _ _ z=>z.elim) (fun d _ _ o=>o)
  dsimp! only [zgp,decide_eq_true_eq,hr0,hm,hm2,if_true,true_and,and_self]
  refine .inr ⟨_,rfl,?_⟩
  exact ⟨_,at',r / m,[],rfl,Int.emod_nonneg _ (by omega),Int.emod_lt_of_pos _ hm,by rw [List.append_nil],ha,by omega,Int.ediv_nonneg hr (by omega)⟩
 ·have r0:r=0:=by omega
  subst r0
  simp only [zb2,List.map_cons,List.map_nil,List.length_cons,List.length_nil,Nat.reduceAdd,Nat.reduceSub,List.replicate,List.cons_append,List.nil_append]
  refine zaw (l':=[some (.ref 1),some (.int m),none,none,none,none,none,none]) (S':=St ns at' 0 rest) (by dsimp! only [decide_eq_true_eq,hr0,if_false,and_self]) ?_
  refine zaw (l':=[some (.ref 1),some (.int m),none,some (.int at'),none,none,none,none]) (S':=St ns at' 0 rest) ⟨_,_,_,rfl,rfl,rfl,rfl⟩ ?_
  refine zaw (l':=[some (.ref 1),some (.int m),none,some (.int at'),none,none,none,none]) (S':=St ns (at' + 1) 0 rest) ⟨_,_,_,rfl,rfl,rfl,rfl⟩ ?_
  refine zaw (l':=[some (.ref 1),some (.int m),none,some (.int at'),some (.int 7),none,none,none]) (S':=St ns (at' + 1) 0 rest) ⟨_,_,_,rfl,rfl,rfl,rfl⟩ ?_
  refine za1 (fun l S=>∃c,l=[some (.ref 1),some (.int m),none,some (.int at'),some (.int c),none,none,none]/\S=St ns (at' + 1) 0 rest) ?_ ?_
  ·by_cases hl:0<(ns.length:Int)
   ·obtain ⟨x,h1,h2⟩:=zq4 (ns.map D.int) (at' % (ns.length:Int)) (Int.emod_nonneg _ (by omega)) (by rw [List.length_map];exact Int.emod_lt_of_pos _ hl)
    obtain ⟨c,_,rfl⟩:=List.mem_map.mp h2
    dsimp! only [decide_eq_true_eq,hl,h1,List.length_map,if_true,true_and,and_self]
    exact ⟨c,rfl,(by first|rfl|trivial)⟩
   ·dsimp! only [decide_eq_true_eq,hl,List.length_map,if_false,true_and,and_true]
    exact ⟨7,rfl⟩
  rintro l S ⟨c,rfl,rfl⟩
  by_cases hc:at' < (ns.length:Int)/\10 ^ Int.toNat 18<=(if c<0 then -c else c)
  ·obtain ⟨hc1,hc2⟩:=hc
   refine zh9 (fun _ _=>False) (fun v S=>∃d at2 r2 ex,v=.int d/\0<=d/\d<m/\S=St ns at2 r2 (rest++ex)/\0<=at2/\at2<=at' + 1/\0<=r2) ?_ (fun _ _ z=>z.elim) (fun d _ _ o=>o)
   dsimp! only [decide_eq_true_eq,hc1,hc2,List.length_map,hm,hm2,if_true,true_and,and_self,f5]
   refine .inr ⟨_,rfl,?_⟩
   exact ⟨_,at' + 1,_,[],rfl,Int.emod_nonneg _ (by omega),Int.emod_lt_of_pos _ hm,by rw [List.append_nil],by omega,by omega,Int.ediv_nonneg (by split <;> omega) (by omega)⟩
  refine zaw (l':=[some (.ref 1),some (.int m),none,some (.int at'),some (.int c),none,none,none]) (S':=St ns (at' + 1) 0 rest) ?_ ?_
  ·by_cases hc1:at' < (ns.length:Int)
   ·have hc2:¬10 ^ Int.toNat 18<=(if c<0 then -c else c):=fun h=>hc ⟨hc1,h⟩
    dsimp! only [decide_eq_true_eq,hc1,hc2,List.length_map,if_true,if_false,true_and,and_self,f5]
   ·dsimp! only [decide_eq_true_eq,hc1,List.length_map,if_false,true_and,and_self,Bool.false_eq_true]
  refine zaw (l':=[some (.ref 1),some (.int m),none,some (.int at'),some (.int c),some (.ref (rest.length+2)),none,none]) (S':=St ns (at' + 1) 0 (rest++[.lst zia])) ⟨_,_,_,rfl,rfl,rfl,rfl⟩ ?_
  refine zaw (l':=[some (.ref 1),some (.int m),none,some (.int at'),some (.int c),some (.ref (rest.length+2)),some (.int p1),none]) (S':=St ns (at' + 1) 0 (rest++[.lst zia])) (by dsimp! only [hp1,f7,decide_true,true_and,and_self]) ?_
  have q1:0<=c % p1:=Int.emod_nonneg _ (by omega)
  have q2:c % p1<p1:=Int.emod_lt_of_pos _ p1a
  have f1:(-2 ^ 64:Int)<40009/\(40009:Int)<2 ^ 64:=by decide
  have f4:(-2 ^ 64:Int)<48271/\(48271:Int)<2 ^ 64:=by decide
  refine za1 (fun l S=>∃n1:Int,n1.natAbs<2 ^ 64/\l=[some (.ref 1),some (.int m),none,some (.int at'),some (.int c),some (.ref (rest.length+2)),some (.int p1),some (.int n1)]/\S=St ns (at' + 1) 0 (rest++[.lst zia])) ?_ ?_
  ·dsimp! only [zgp,f1,f4,p1a,decide_true,true_or,or_true,true_and,and_true]
   have q3:=Int.emod_nonneg (c % p1*48271+40009*at' + 21) (b:=p1) (by omega)
   have q4:=Int.emod_lt_of_pos (c % p1*48271+40009*at' + 21) p1a
   exact ⟨_,by omega,rfl⟩
  rintro l S ⟨n1,hn1,rfl,rfl⟩
  have f2:(-2 ^ 64:Int)<at'/\at' < 2 ^ 64:=by omega
  have f3:(-2 ^ 64:Int)<69621/\(69621:Int)<2 ^ 64:=by decide
  have f9:(0:Int)<=3/\(3:Int)<=1000000/\n1.natAbs<2 ^ 64:=⟨by decide,by decide,hn1⟩
  refine za1 (fun l S=>∃n2:Int,l=[some (.ref 1),some (.int m),none,some (.int at'),some (.int c),some (.ref (rest.length+2)),some (.int p1),some (.int n2)]/\S=St ns (at' + 1) 0 (rest++[.lst zia])) ?_ ?_
  ·dsimp! only [zgp,f2,f3,f9,f7,hp2,p2a,decide_true,true_or,or_true,true_and,and_true]
   exact ⟨_,rfl⟩
  rintro l S ⟨n2,rfl,rfl⟩
  have f6:(0:Int)<64/\(64:Int)<1073741824:=by decide
  dsimp! only [f6,hm,hm2,decide_true,true_and,and_self]
  exact ⟨_,at' + 1,0,_,rfl,Int.emod_nonneg _ (by omega),Int.emod_lt_of_pos _ hm,rfl,by omega,by omega,by omega⟩
noncomputable def Pn (ns:List Int) (rest:Sto) (k:Int) (S:Sto):Prop:=∃at2 r2 ex,S=St ns at2 r2 (rest++ex)/\0<=at2/\at2<=k/\0<=r2
theorem zcv (ns:List Int) (rest:Sto) (S:Sto) (k m:Int) (h:Pn ns rest k S) (hk:k<1000000000) (hm:0<m) (hm2:m<1073741824) :
  Wo (zbk [.ref 1,.int m] S) fun v S'=>(∃d,v=.int d/\0<=d/\d<m)/\Pn ns rest (k+1) S':=by
 obtain ⟨a,r,ex,rfl,h1,h2,h3⟩:=h
 refine (yc8 ns a r m (rest++ex) h1 (by omega) h3 hm hm2).mono ?_
 rintro v S' ⟨d,a2,r2,ex2,rfl,q1,q2,rfl,q3,q4,q5⟩
 exact ⟨⟨d,rfl,q1,q2⟩,a2,r2,ex++ex2,by rw [List.append_assoc],q3,by omega,q5⟩
theorem Pn.mono {ns:List Int}{rest:Sto}{k k':Int}{S:Sto}(h:Pn ns rest k S) (hk:k<=k'):Pn ns rest k' S:=by
 obtain ⟨a,r,ex,e,h1,h2,h3⟩:=h
 exact ⟨a,r,ex,e,h1,by omega,h3⟩
theorem Pn.start {ns:List Int}{rest ex:Sto}{k:Int}{S:Sto}(h:Pn ns (rest++ex) k S):Pn ns rest k S:=by
 obtain ⟨a,r,ex',e,h1,h2,h3⟩:=h
 exact ⟨a,r,ex++ex',by rw [e,List.append_assoc],h1,h2,h3⟩
noncomputable def Or0 (many:Int) (g:D):Prop:=g=.non∨∃i,g=.int i/\0<=i/\i<many
noncomputable def IsCell (many kinds:Int) (v:D):Prop:=∃g s,v=.tup [g,s]/\Or0 many g/\Or0 kinds s
theorem zr2 (ns:List Int) (rest:Sto) (S:Sto) (k m sh:Int) (l:Lo) (i j:Nat) (h0:l[0]? = some (some (.ref 1))) (h2:l[2]? = some (some (.int sh))) (hi:l[i]? = some (some (.int m))) (h:Pn ns rest k S) (hk:k<900000000) (hm:0<m) (hm2:m<1073741824) :
  Ws (sIf (tE (eOp dGe (zaf zbk (zac (zaa 0) (zac (eC (.int 8)) (zae)))) (zaa 2))) (zam (zaf zbk (zac (zaa 0) (zac (zaa i) (zae)))) (zag j)) (zbj)) l S
   fun f l1 S1=>f=.nx/\(l1=l∨∃d,l1=l.set j (some (.int d))/\0<=d/\d<m)/\Pn ns rest (k+2) S1:=by
 dsimp! only [h0,h2,hi]
 refine (zcv ns rest S k 8 h (by omega) (by decide) (by decide)).mono ?_
 rintro v S' ⟨⟨d,rfl,q1,q2⟩,p⟩
 dsimp! only [h0,h2,hi]
 split
 ·refine (zcv ns rest S' (k+1) m p (by omega) hm hm2).mono ?_
  rintro v S2 ⟨⟨e,rfl,q3,q4⟩,p2⟩
  exact ⟨by first|rfl|trivial,.inr ⟨e,rfl,q3,q4⟩,p2.mono (by omega)⟩
 ·exact ⟨by first|rfl|trivial,by first|exact .inl rfl|exact .inl trivial|trivial,p.mono (by omega)⟩
theorem yc9 (ns:List Int) (rest:Sto) (S:Sto) (k many share kinds:Int) (h:Pn ns rest k S) (hk:k<800000000) (hm:0<many) (hm2:many<1073741824) (hn:0<kinds) (hn2:kinds<1073741824) :
  Wo (zfx [.ref 1,.int many,.int share,.int kinds] S) fun v S'=>IsCell many kinds v/\Pn ns rest (k+4) S':=by
 unfold zfx zrx
 simp only [zb2,List.map_cons,List.map_nil,List.length_cons,List.length_nil,Nat.reduceAdd,Nat.reduceSub,List.replicate,List.cons_append,List.nil_append]
 refine zaw (l':=[some (.ref 1),some (.int many),some (.int share),some (.int kinds),some .non,none]) (S':=S) (by dsimp! only [and_self]) ?_
 refine za1 (fun l S=>∃g,l=[some (.ref 1),some (.int many),some (.int share),some (.int kinds),some g,none]/\Or0 many g/\Pn ns rest (k+2) S) ((zr2 ns rest S k many share _ 1 4 rfl rfl rfl h (by omega) hm hm2).mono ?_) ?_
 ·rintro f l1 S2 ⟨rfl,hl,p⟩
  rcases hl with rfl|⟨d,rfl,q1,q2⟩
  ·exact ⟨rfl,_,rfl,.inl rfl,p⟩
  ·exact ⟨rfl,_,rfl,.inr ⟨d,rfl,q1,q2⟩,p⟩
 rintro l S2 ⟨g,rfl,hg,p⟩
 refine zaw (l':=[some (.ref 1),some (.int many),some (.int share),some (.int kinds),some g,some .non]) (S':=S2) (by dsimp! only [and_self]) ?_
 refine za1 (fun l S=>∃s,l=[some (.ref 1),some (.int many),some (.int share),some (.int kinds),some g,some s]/\Or0 kinds s/\Pn ns rest (k+4) S) ((zr2 ns rest S2 (k+2) kinds share _ 3 5 rfl rfl rfl p (by omega) hn hn2).mono ?_) ?_
 ·rintro f l1 S2 ⟨rfl,hl,p⟩
  rcases hl with rfl|⟨d,rfl,q1,q2⟩
  ·exact ⟨rfl,_,rfl,.inl rfl,p.mono (by omega)⟩
  ·exact ⟨rfl,_,rfl,.inr ⟨d,rfl,q1,q2⟩,p.mono (by omega)⟩
 rintro l S4 ⟨s,rfl,hs,p⟩
 dsimp! only [zap]
 exact ⟨by decide,⟨g,s,rfl,hg,hs⟩,p⟩
noncomputable def IsRoom (asks:Nat) (many kinds:Int) (v:D):Prop:=∃cs,v=.tup cs/\cs.length=asks/\∀c∈cs,IsCell many kinds c
theorem zmv {ns:List Int}{pre:Sto}{o:Ob}{k:Int}{S:Sto}(h:Pn ns (pre++[o]) k S):S[pre.length+2]? = some o:=by
 obtain ⟨a,r,ex,rfl,_⟩:=h
 rw [yc4,List.append_assoc,List.getElem?_append_right (Nat.le_refl _)]
 simp
theorem ze6 {ns:List Int}{pre:Sto}{xs:List D}{k:Int}{S:Sto}(h:Pn ns (pre++[.lst xs]) k S):lstOf S (pre.length+2)=some xs:=by
 unfold lstOf;rw [zmv h]
theorem zr3 {ns:List Int}{pre:Sto}{o o':Ob}{k:Int}{S:Sto}(h:Pn ns (pre++[o]) k S):Pn ns (pre++[o']) k (S.set (pre.length+2) o'):=by
 obtain ⟨a,r,ex,rfl,h1,h2,h3⟩:=h
 refine ⟨a,r,ex,?_,h1,h2,h3⟩
 rw [yc5]
 congr 1
 rw [List.append_assoc,List.append_assoc]
 rw [List.set_append_right _ _ (Nat.le_refl _)]
 simp
theorem zju {ns:List Int}{rest:Sto}{o:Ob}{k:Int}{S:Sto}(h:Pn ns rest k S):∃pre ex,S.length=pre.length+2/\pre=rest++ex/\Pn ns (pre++[o]) k (S++[o]):=by
 obtain ⟨a,r,ex,rfl,h1,h2,h3⟩:=h
 exact ⟨rest++ex,ex,zr0,rfl,a,r,[],by rw [zmu,List.append_nil],h1,h2,h3⟩
theorem zr4 {g:GM}{e:EM}(P:Nat->List D->Lo->Sto->Prop) (xs:List D) (step:∀(i:Nat) x l S acc,xs[i]? = some x->P i acc l S->Wg (g x l S) fun l1 S1=>We e l1 S1 fun y S2=>P (i+1) (acc++[y]) l1 S2) :
  ∀(m i:Nat) (l:Lo) (S:Sto) (acc:List D),i+m=xs.length->P i acc l S->∃ys S' l',zbq (itX xs) g zay e (m+1) i l S=some (ys,S')/\P xs.length (acc++ys) l' S'
 | 0,i,l,S,acc,hi,h=>by
  have e0:xs[i]? = none:=List.getElem?_eq_none_iff.mpr (by omega)
  refine ⟨[],S,l,?_,?_⟩
  ·unfold zbq itX;rw [e0];rfl
  ·rw [List.append_nil,show xs.length=i by omega];exact h
 | m+1,i,l,S,acc,hi,h=>by
  have hl:i<xs.length:=by omega
  have e0:xs[i]? = some xs[i]:=List.getElem?_eq_getElem hl
  obtain ⟨l1,S1,e1,y,S2,e2,h2⟩:=step i _ l S acc e0 h
  obtain ⟨ys,S',l',e3,h3⟩:=zr4 P xs step m (i+1) l1 S2 (acc++[y]) (by omega) h2
  refine ⟨y :: ys,S',l',?_,by rw [List.append_assoc] at h3;exact h3⟩
  have:zbq (itX xs) g zay e (m+1+1) i l S=((itX xs i S).bind fun o=>match o with
   | none=>some ([],S)
   | some x=>(g x l S).bind fun p=>(zay p.1 p.2).bind fun q=>if q.1=true then (e p.1 q.2).bind fun r=>(zbq (itX xs) g zay e (m+1) (i+1) p.1 r.2).bind fun z=>some (r.1 :: z.1,z.2) else zbq (itX xs) g zay e (m+1) (i+1) p.1 q.2):=rfl
  rw [this]
  unfold itX;rw [e0]
  show (g xs[i] l S).bind _=_
  rw [e1]
  show (e l1 S1).bind _=_
  rw [e2]
  show (zbq (itX xs) g zay e (m+1) (i+1) l1 S2).bind _=_
  rw [e3];rfl
theorem yda (ns:List Int) (rest:Sto) (S:Sto) (k many kinds:Int) (asks:Nat) (room:D) (hroom:IsRoom asks many kinds room) (hasks:asks<=100) (h:Pn ns rest k S) (hk:0<=k) (hk2:k<800000000) (hm:0<many) (hm2:many<1073741824) (hn:0<kinds) (hn2:kinds<1073741824) :
  Wo (zgx [.ref 1,room,.int many,.int kinds] S) fun v S'=>IsRoom asks many kinds v/\Pn ns rest (k+3*asks) S':=by
 obtain ⟨cs,rfl,hcs,hall⟩:=hroom
 unfold zgx zrw
 simp only [zb2,List.map_cons,List.map_nil,List.length_cons,List.length_nil,Nat.reduceAdd,Nat.reduceSub,List.replicate,List.cons_append,List.nil_append]
 obtain ⟨pre,ex,hlen,hpre,hp⟩:=zju (o:=.lst []) h
 refine zaw (l':=[some (.ref 1),some (.tup cs),some (.int many),some (.int kinds),some (.ref (pre.length+2)),none,none,none,none]) (S':=S++[.lst []]) (by dsimp! only [hlen];exact ⟨by decide,by first|rfl|trivial,by first|rfl|trivial⟩) ?_
 refine za1 (fun l S1=>∃acc x5 x6 x7 x8,l=[some (.ref 1),some (.tup cs),some (.int many),some (.int kinds),some (.ref (pre.length+2)),x5,x6,x7,x8]/\acc.length=asks/\(∀c∈acc,IsCell many kinds c)/\Pn ns (pre++[.lst acc]) (k+3*asks) S1) ?_ ?_
 ·rw [zlh]
  simp only [zap,qg0,qg1,zbb]
  refine (zlg (fun i l S1=>∃acc x5 x6 x7 x8,l=[some (.ref 1),some (.tup cs),some (.int many),some (.int kinds),some (.ref (pre.length+2)),x5,x6,x7,x8]/\acc.length=i/\(∀c∈acc,IsCell many kinds c)/\Pn ns (pre++[.lst acc]) (k+3*i) S1) cs 0 _ _ ⟨[],none,none,none,none,rfl,rfl,(by intro c hc;cases hc),by simpa using hp⟩ ?_).mono ?_
  ·rintro i x l S2 hx ⟨acc,x5,x6,x7,x8,rfl,hacc,hcell,p⟩
   rw [Nat.zero_add] at hacc p
   have hi:i<cs.length:=(qlt hx)
   obtain ⟨g,s,rfl,hg,hs⟩:=hall x (List.mem_of_getElem? hx)
   simp only [za0,qs0,qs1]
   refine za1 (fun l S1=>∃d,l=[some (.ref 1),some (.tup cs),some (.int many),some (.int kinds),some (.ref (pre.length+2)),some (.tup [g,s]),some (.int d),x7,x8]/\Pn ns (pre++[.lst acc]) (k+3*i+1) S1) ?_ ?_
   ·dsimp! only [zap]
    refine (zcv ns _ S2 (k+3*i) 8 p (by omega) (by decide) (by decide)).mono ?_
    rintro v S' ⟨⟨d,rfl,_,_⟩,p2⟩
    exact ⟨by first|rfl|trivial,d,rfl,p2⟩
   rintro l S3 ⟨d,rfl,p3⟩
   refine zaw (l':=[some (.ref 1),some (.tup cs),some (.int many),some (.int kinds),some (.ref (pre.length+2)),some (.tup [g,s]),some (.int d),some g,some s]) (S':=S3) (by dsimp! only [and_self]) ?_
   have base:∀(g1 s1:D),([some (.ref 1),some (.tup cs),some (.int many),some (.int kinds),some (.ref (pre.length+2)),some (.tup [g,s]),some (.int d),some g1,some s1]:Lo)=[some (.ref 1),some (.tup cs),some (.int many),some (.int kinds),some (.ref (pre.length+2)),some (.tup [g,s]),some (.int d),some g1,some s1]:=fun _ _=>rfl
   refine za1 (fun l S1=>∃g1,l=[some (.ref 1),some (.tup cs),some (.int many),some (.int kinds),some (.ref (pre.length+2)),some (.tup [g,s]),some (.int d),some g1,some s]/\Or0 many g1/\S1=S3) ?_ ?_
   ·dsimp! only [zap]
    split
    ·exact ⟨by first|rfl|trivial,.non,rfl,.inl rfl,by first|rfl|trivial⟩
    ·exact ⟨by first|rfl|trivial,g,rfl,hg,by first|rfl|trivial⟩
   rintro l S5 ⟨g1,rfl,hg1,rfl⟩
   refine za1 (fun l S1=>∃s1,l=[some (.ref 1),some (.tup cs),some (.int many),some (.int kinds),some (.ref (pre.length+2)),some (.tup [g,s]),some (.int d),some g1,some s1]/\Or0 kinds s1/\S1=S5) ?_ ?_
   ·dsimp! only [zap]
    split
    ·exact ⟨by first|rfl|trivial,.non,rfl,.inl rfl,by first|rfl|trivial⟩
    ·exact ⟨by first|rfl|trivial,s,rfl,hs,by first|rfl|trivial⟩
   rintro l S6 ⟨s1,rfl,hs1,rfl⟩
   refine za1 (fun l S1=>∃g2,l=[some (.ref 1),some (.tup cs),some (.int many),some (.int kinds),some (.ref (pre.length+2)),some (.tup [g,s]),some (.int d),some g2,some s1]/\Or0 many g2/\Pn ns (pre++[.lst acc]) (k+3*i+2) S1) ?_ ?_
   ·dsimp! only [zap]
    split
    ·refine (zcv ns _ S6 (k+3*i+1) many p3 (by omega) hm hm2).mono ?_
     rintro v S' ⟨⟨e,rfl,q1,q2⟩,p4⟩
     exact ⟨by first|rfl|trivial,_,rfl,.inr ⟨e,rfl,q1,q2⟩,p4.mono (by omega)⟩
    ·exact ⟨by first|rfl|trivial,g1,rfl,hg1,p3.mono (by omega)⟩
   rintro l S7 ⟨g2,rfl,hg2,p7⟩
   refine za1 (fun l S1=>∃s2,l=[some (.ref 1),some (.tup cs),some (.int many),some (.int kinds),some (.ref (pre.length+2)),some (.tup [g,s]),some (.int d),some g2,some s2]/\Or0 kinds s2/\Pn ns (pre++[.lst acc]) (k+3*i+3) S1) ?_ ?_
   ·dsimp! only [zap]
    split
    ·refine (zcv ns _ S7 (k+3*i+2) kinds p7 (by omega) hn hn2).mono ?_
     rintro v S' ⟨⟨e,rfl,q1,q2⟩,p4⟩
     exact ⟨by first|rfl|trivial,_,rfl,.inr ⟨e,rfl,q1,q2⟩,p4.mono (by omega)⟩
    ·exact ⟨by first|rfl|trivial,s1,rfl,hs1,p7.mono (by omega)⟩
   rintro l S8 ⟨s2,rfl,hs2,p8⟩
   dsimp! only [zi8,zev,ze6 p8,zmv p8,Option.some.injEq,exists_eq',true_and,Ob.lst.injEq,exists_eq_left']
   refine ⟨by decide,?_,by first|exact .inl rfl|exact .inl trivial|trivial,acc++[.tup [g2,s2]],_,_,_,_,rfl,by simp [hacc],?_,?_⟩
   ·have:(100:Nat)<sizeLine:=by decide
    omega
   ·intro c hc
    rcases List.mem_append.mp hc with hc|hc
    ·exact hcell c hc
    ·have:c=.tup [g2,s2]:=by simpa using hc
     exact ⟨g2,s2,this,hg2,hs2⟩
   ·exact (zr3 p8).mono (by omega)
  ·rintro f l' S' ⟨rfl,acc,x5,x6,x7,x8,rfl,hacc,hcell,p⟩
   exact ⟨rfl,acc,x5,x6,x7,x8,rfl,by omega,hcell,p.mono (by omega)⟩
 ·rintro l S2 ⟨acc,x5,x6,x7,x8,rfl,hacc,hcell,p⟩
  dsimp! only [ze6 p]
  refine ⟨⟨acc,rfl,hacc,hcell⟩,?_⟩
  rw [hpre,List.append_assoc] at p
  exact p.start
noncomputable def zr5 (many:Int) (asks:Nat) (v:D):Prop:=∃rooms,v=.tup [.int asks,.tup rooms]/\1<=asks/\asks<=4/\(rooms.length:Int)=many/\1<=many/\∀r∈rooms,IsRoom asks many 8 r
theorem Or0.mono {a b:Int}{g:D}(h:Or0 a g) (hab:a<=b):Or0 b g:=by
 rcases h with h|⟨i,h1,h2,h3⟩
 ·exact .inl h
 ·exact .inr ⟨i,h1,h2,by omega⟩
theorem IsRoom.mono {asks:Nat}{many a b:Int}{v:D}(h:IsRoom asks many a v) (hab:a<=b):IsRoom asks many b v:=by
 obtain ⟨cs,h1,h2,h3⟩:=h
 refine ⟨cs,h1,h2,fun c hc=>?_⟩
 obtain ⟨g,s,q1,q2,q3⟩:=h3 c hc
 exact ⟨g,s,q1,q2,q3.mono hab⟩
theorem zr6 {a b c d:Int}(i:Int) (h0:0<=i) (h1:i<4):∃x,L2.atI [D.int a,D.int b,D.int c,D.int d] i=some (.int x)/\(x=a∨x=b∨x=c∨x=d):=by
 have:i=0∨i=1∨i=2∨i=3:=by omega
 rcases this with rfl|rfl|rfl|rfl
 ·exact ⟨a,rfl,by simp⟩
 ·exact ⟨b,rfl,by simp⟩
 ·exact ⟨c,rfl,by simp⟩
 ·exact ⟨d,rfl,by simp⟩
theorem ydb {ns:List Int}{rest:Sto}{o:Ob}{k:Int}{S:Sto}(h:Pn ns rest k S):Pn ns rest k (S++[o]):=by
 obtain ⟨a,r,ex,rfl,h1,h2,h3⟩:=h
 exact ⟨a,r,ex++[o],by rw [zmu,List.append_assoc],h1,h2,h3⟩
theorem zr7 {n:Nat}{S:Sto}:zev (.ref n) S=lstOf S n:=rfl
theorem zfy {α:Type}{x:α}:(∃y,some x=some y)=True:=by simp
theorem zc3 {t:TM}{m n:SM}{l:Lo}{S:Sto}{Q:Fl->Lo->Sto->Prop}(R:Bool->Sto->Prop) (h:Wt t l S R) (h1:∀S1,R true S1->Ws m l S1 Q) (h2:∀S1,R false S1->Ws n l S1 Q):Ws (sIf t m n) l S Q:=by
 rw [zk8]
 obtain ⟨k,S1,e,r⟩:=h
 refine ⟨k,S1,e,?_⟩
 cases k with
 | true=>exact h1 S1 r
 | false=>exact h2 S1 r
theorem ydc {as:AM}{g:GM}{e:EM}{ixs:List (Option Nat)}{l:Lo}{S:Sto}{Q:D->Sto->Prop}(h:Wa as l S fun xs S1=>∃j,xs=[.int j]/\(-(2 ^ 62)<=j/\j<2 ^ 62)/\∃ys S2,zbq (itX (zav 0 j.toNat)) g zay e (j.toNat+1) 0 (za3 ixs l) S1=some (ys,S2)/\ys.length<=sizeLine/\Q (.ref S2.length) (S2++[.lst ys])) :
  We (zbo (zco (zbg as)) ixs g zay e) l S Q:=by
 obtain ⟨xs,S1,h1,j,rfl,hz,ys,S2,h2,h3,q⟩:=h
 refine ⟨_,_,?_,q⟩
 have:zbg as l S=some ((0,j.toNat),S1):=by
  unfold zbg;rw [h1];show (if _ then _ else _)=_;rw [if_pos hz]
 unfold zbo zco
 show ((zbg as l S).bind _).bind _=_
 rw [this]
 show (zbq (itX (zav 0 j.toNat)) g zay e (j.toNat+1) 0 (za3 ixs l) S1).bind _=_
 rw [h2]
 show (if _ then _ else _)=_
 rw [if_pos h3]
theorem ydd (ns:List Int) (rest:Sto) (S:Sto) (k most:Int) (h:Pn ns rest k S) (hk:0<=k) (hk2:k<700000000) (hm:0<most) (hm2:most<=24) :
  Wo (zgy [.ref 1,.int most] S) fun v S'=>(∃many asks,zr5 many asks v/\many<=most)/\Pn ns rest (k+1000) S':=by
 unfold zgy zry
 simp only [zb2,List.map_cons,List.map_nil,List.length_cons,List.length_nil,Nat.reduceAdd,Nat.reduceSub,List.replicate,List.cons_append,List.nil_append]
 refine za1 (fun l S1=>∃co,l=[some (.ref 1),some (.int most),some (.int co),none,none,none,none,none,none]/\Pn ns rest (k+1) S1) ?_ ?_
 ·dsimp! only [zap]
  refine (zcv ns rest S k 3 h (by omega) (by decide) (by decide)).mono ?_
  rintro v S' ⟨⟨d,rfl,q1,q2⟩,p⟩
  exact ⟨by first|rfl|trivial,d,rfl,p⟩
 rintro l S1 ⟨co,rfl,p1⟩
 refine za1 (fun l S1=>∃sh,l=[some (.ref 1),some (.int most),some (.int co),some (.int sh),none,none,none,none,none]/\Pn ns rest (k+2) S1) ?_ ?_
 ·dsimp! only [zap]
  refine ⟨by decide,?_⟩
  obtain ⟨pre,ex,hlen,hpre,hp⟩:=zju (o:=.lst [.int 0,.int 1,.int 2,.int 5]) p1
  refine (zcv ns _ _ (k+1) 4 hp (by omega) (by decide) (by decide)).mono ?_
  rintro v S' ⟨⟨d,rfl,q1,q2⟩,p⟩
  obtain ⟨x,hx,_⟩:=zr6 (a:=0) (b:=1) (c:=2) (d:=5) d q1 q2
  dsimp! only [hlen,ze6 p,hx]
  rw [hpre,List.append_assoc] at p
  exact ⟨by first|rfl|trivial,x,rfl,p.start.mono (by omega)⟩
 rintro l S2 ⟨sh,rfl,p2⟩
 refine za1 (fun l S1=>∃ki,l=[some (.ref 1),some (.int most),some (.int co),some (.int sh),some (.int ki),none,none,none,none]/\(1<=ki/\ki<=8)/\Pn ns rest (k+3) S1) ?_ ?_
 ·dsimp! only [zap]
  refine ⟨by decide,?_⟩
  obtain ⟨pre,ex,hlen,hpre,hp⟩:=zju (o:=.lst [.int 1,.int 2,.int 3,.int 8]) p2
  refine (zcv ns _ _ (k+2) 4 hp (by omega) (by decide) (by decide)).mono ?_
  rintro v S' ⟨⟨d,rfl,q1,q2⟩,p⟩
  obtain ⟨x,hx,hx2⟩:=zr6 (a:=1) (b:=2) (c:=3) (d:=8) d q1 q2
  dsimp! only [hlen,ze6 p,hx]
  rw [hpre,List.append_assoc] at p
  exact ⟨by first|rfl|trivial,x,rfl,by omega,p.start.mono (by omega)⟩
 rintro l S3 ⟨ki,rfl,⟨ki1,ki2⟩,p3⟩
 refine za1 (fun l S1=>∃asks:Nat,l=[some (.ref 1),some (.int most),some (.int co),some (.int sh),some (.int ki),some (.int asks),none,none,none]/\(1<=asks/\asks<=4)/\Pn ns rest (k+4) S1) ?_ ?_
 ·dsimp! only [zap]
  refine (zcv ns _ _ (k+3) 4 p3 (by omega) (by decide) (by decide)).mono ?_
  rintro v S' ⟨⟨d,rfl,q1,q2⟩,p⟩
  dsimp! only [zap]
  refine ⟨by first|rfl|trivial,(1+d).toNat,?_,by omega,p.mono (by omega)⟩
  rw [show ((1+d).toNat:Int)=1+d by omega]
 rintro l S4 ⟨asks,rfl,⟨as1,as2⟩,p4⟩
 refine za1 (fun l S1=>∃many:Int,l=[some (.ref 1),some (.int most),some (.int co),some (.int sh),some (.int ki),some (.int asks),some (.int many),none,none]/\(1<=many/\many<=most)/\Pn ns rest (k+5) S1) ?_ ?_
 ·dsimp! only [zap]
  refine (zcv ns _ _ (k+4) most p4 (by omega) hm (by omega)).mono ?_
  rintro v S' ⟨⟨d,rfl,q1,q2⟩,p⟩
  dsimp! only [zap]
  exact ⟨by first|rfl|trivial,1+d,rfl,by omega,p.mono (by omega)⟩
 rintro l S5 ⟨many,rfl,⟨ma1,ma2⟩,p5⟩
 obtain ⟨pre,ex,hlen,hpre,hp⟩:=zju (o:=.lst []) p5
 refine zaw (l':=[some (.ref 1),some (.int most),some (.int co),some (.int sh),some (.int ki),some (.int asks),some (.int many),some (.ref (pre.length+2)),none]) (S':=S5++[.lst []]) (by dsimp! only [hlen];exact ⟨by decide,by first|rfl|trivial,by first|rfl|trivial⟩) ?_
 refine za1 (fun l S1=>∃acc x8,l=[some (.ref 1),some (.int most),some (.int co),some (.int sh),some (.int ki),some (.int asks),some (.int many),some (.ref (pre.length+2)),x8]/\(acc.length:Int)=many/\(∀c∈acc,IsRoom asks many ki c)/\Pn ns (pre++[.lst acc]) (k+5+20*24) S1) ?_ ?_
 ·rw [zpt]
  simp only [zba,za7,zap,qg0,qg1,zbb,zh4]
  refine ⟨by omega,?_⟩
  refine (zlg (fun i l S1=>∃acc x8,l=[some (.ref 1),some (.int most),some (.int co),some (.int sh),some (.int ki),some (.int asks),some (.int many),some (.ref (pre.length+2)),x8]/\acc.length=i/\(∀c∈acc,IsRoom asks many ki c)/\Pn ns (pre++[.lst acc]) (k+5+20*i) S1) (zav 0 many.toNat) 0 _ _ ⟨[],none,rfl,rfl,(by intro c hc;cases hc),by simpa using hp⟩ ?_).mono ?_
  ·rintro i x l S2 hx ⟨acc,x8,rfl,hacc,hroom,p⟩
   obtain ⟨hi,rfl⟩:=zi9 hx
   rw [Nat.zero_add] at hacc p
   simp only [za0,qs0,qs1]
   have fin:∀(S9:Sto) (v:D),IsRoom asks many ki v->Pn ns (pre++[.lst acc]) (k+5+20*i+20) S9->S9[pre.length+2]? = some (.lst acc)/\acc.length<sizeLine/\∃acc' x8',([some (.ref 1),some (.int most),some (.int co),some (.int sh),some (.int ki),some (.int asks),some (.int many),some (.ref (pre.length+2)),some (.int (0+(i:Int)))]:Lo)=[some (.ref 1),some (.int most),some (.int co),some (.int sh),some (.int ki),some (.int asks),some (.int many),some (.ref (pre.length+2)),x8']/\acc'.length=0+i+1/\(∀c∈acc',IsRoom asks many ki c)/\Pn ns (pre++[.lst acc']) (k+5+20*((0+i+1:Nat):Int)) (S9.set (pre.length+2) (.lst (acc++[v]))):=fun S9 v hv p9=>by
    refine ⟨zmv p9,?_,acc++[v],_,rfl,by simp [hacc],fun c hc=>?_,(zr3 p9).mono (by omega)⟩
    ·have:(100:Nat)<sizeLine:=by decide
     omega
    ·rcases List.mem_append.mp hc with hc|hc
     ·exact hroom c hc
     ·have:c=v:=by simpa using hc
      rw [this];exact hv
   refine zc3 (fun b S1=>Pn ns (pre++[.lst acc]) (k+5+20*i+1) S1/\(b=true->0<i)) ?_ ?_ ?_
   ·dsimp! only [decide_eq_true_eq]
    split
    ·rename_i hi0
     split
     ·refine (zcv ns _ _ (k+5+20*i) 3 p (by omega) (by decide) (by decide)).mono ?_
      rintro v S' ⟨⟨d,rfl,q1,q2⟩,p'⟩
      dsimp! only [zap]
      exact ⟨p',fun _=>by omega⟩
     ·exact ⟨p.mono (by omega),fun z=>by cases z⟩
    ·exact ⟨p.mono (by omega),fun z=>by cases z⟩
   ·rintro S3 ⟨p3',hi0⟩
    have hi0:=hi0 rfl
    dsimp! only [zr7,ze6 p3',zfy,true_and]
    refine (zcv ns _ _ (k+5+20*i+1) (0+(i:Int)) p3' (by omega) (by omega) (by omega)).mono ?_
    rintro v S' ⟨⟨d,rfl,q1,q2⟩,p'⟩
    obtain ⟨y,hy,hym⟩:=zq4 acc d q1 (by omega)
    dsimp! only [ze6 p',hy]
    refine (yda ns _ S' (k+5+20*i+2) many ki asks y (hroom y hym) (by omega) (p'.mono (by omega)) (by omega) (by omega) (by omega) (by omega) (by omega) (by omega)).mono ?_
    rintro v S9 ⟨hv,p9⟩
    obtain ⟨f1,f2,f3⟩:=fin S9 v hv (p9.mono (by omega))
    simp only [zi8,f1,Option.some.injEq,Ob.lst.injEq,exists_eq_left']
    exact ⟨f2,by first|exact .inl rfl|exact .inl trivial|trivial,f3⟩
   ·rintro S3 ⟨p3',_⟩
    dsimp! only [zr7,ze6 p3',zfy,true_and]
    refine ydc ?_
    simp only [zba,za7,zap,qg0,qg1,zbb,zh4]
    refine ⟨by omega,?_⟩
    obtain ⟨ys,S9,l9,e9,hys,hysc,p9⟩:=zr4 (g:=zag 0) (e:=zaf zfx (zac (zaa 1) (zac (zaa 2) (zac (zaa 3) (zac (zaa 4) (zae)))))) (fun j cs l S1=>(∃x0,l=[x0,some (.ref 1),some (.int many),some (.int sh),some (.int ki)])/\cs.length=j/\(∀c∈cs,IsCell many ki c)/\Pn ns (pre++[.lst acc]) (k+5+20*i+1+4*j) S1) (zav 0 (asks:Int).toNat) (by
     rintro j x l S1 cs hx ⟨⟨x0,rfl⟩,hcs,hc,pj⟩
     obtain ⟨hj,rfl⟩:=zi9 hx
     dsimp! only [zap]
     refine (yc9 ns _ S1 (k+5+20*i+1+4*j) many sh ki pj (by omega) (by omega) (by omega) (by omega) (by omega)).mono ?_
     rintro v S2 ⟨hv,p2'⟩
     refine ⟨⟨_,rfl⟩,by simp [hcs],fun c hcm=>?_,p2'.mono (by omega)⟩
     rcases List.mem_append.mp hcm with hcm|hcm
     ·exact hc c hcm
     ·have:c=v:=by simpa using hcm
      rw [this];exact hv) (asks:Int).toNat 0 _ S3 [] (by rw [zda];omega) ⟨⟨none,rfl⟩,rfl,(by intro c hc;cases hc),by simpa using p3'⟩
    rw [zda] at hysc p9
    obtain ⟨hall,p9⟩:=p9
    rw [List.nil_append] at hysc hall
    refine ⟨ys,S9,e9,?_,?_⟩
    ·have:(100:Nat)<sizeLine:=by decide
     omega
    ·rw [zge]
     refine ⟨ys,zdu,?_⟩
     obtain ⟨f1,f2,f3⟩:=fin (S9++[.lst ys]) (.tup ys) ⟨ys,rfl,by omega,hall⟩ ((ydb p9).mono (by omega))
     simp only [zi8,f1,Option.some.injEq,Ob.lst.injEq,exists_eq_left']
     exact ⟨f2,by first|exact .inl rfl|exact .inl trivial|trivial,f3⟩
  ·rintro f l' S' ⟨rfl,acc,x8,rfl,hacc,hroom,p⟩
   rw [zda] at hacc p
   exact ⟨rfl,acc,x8,rfl,by omega,hroom,p.mono (by omega)⟩
 ·rintro l S7 ⟨acc,x8,rfl,hacc,hroom,p⟩
  dsimp! only [ze6 p]
  refine ⟨by decide,⟨many,asks,⟨acc,rfl,as1,as2,hacc,ma1,fun r hr=>(hroom r hr).mono ki2⟩,ma2⟩,?_⟩
  rw [hpre,List.append_assoc] at p
  exact p.start.mono (by omega)
theorem zb6:16000000<=sizeLine:=by decide
noncomputable abbrev Cl:=Option Nat × Option Nat
noncomputable def oD:Option Nat->D
 | none=>.non
 | some n=>.int n
noncomputable def cD (c:Cl):D:=.tup [oD c.1,oD c.2]
noncomputable def rD (cs:List Cl):D:=.tup (cs.map cD)
noncomputable def mD (asks:Nat) (rs:List (List Cl)):D:=.tup [.int (asks:Int),.tup (rs.map rD)]
structure OkM (asks:Nat) (rs:List (List Cl)):Prop where
 a1:1<=asks
 a4:asks<=4
 r1:1<=rs.length
 r24:rs.length<=24
 len:∀cs∈rs,cs.length=asks
 go:∀cs∈rs,∀c∈cs,∀g,c.1=some g->g<rs.length
theorem zr8 {many:Int}{g:D}(h:Or0 many g):∃o:Option Nat,g=oD o/\∀n,o=some n->(n:Int)<many:=by
 rcases h with rfl|⟨i,rfl,h1,h2⟩
 ·exact ⟨none,rfl,fun n e=>by cases e⟩
 ·exact ⟨some i.toNat,by show D.int i=.int _;rw [Int.toNat_of_nonneg h1],fun n e=>by cases e;omega⟩
theorem zr9 {many kinds:Int}:∀(vs:List D),(∀v∈vs,IsCell many kinds v)->∃cs:List Cl,vs=cs.map cD/\∀c∈cs,∀g,c.1=some g->(g:Int)<many
 | [],_=>⟨[],rfl,fun t h=>by cases h⟩
 | v :: vs,h=>by
  obtain ⟨g,s,rfl,hg,hs⟩:=h v List.mem_cons_self
  obtain ⟨o1,rfl,h1⟩:=zr8 hg
  obtain ⟨o2,rfl,h2⟩:=zr8 hs
  obtain ⟨cs,h3,h4⟩:=zr9 vs fun u hu=>h u (List.mem_cons_of_mem _ hu)
  refine ⟨(o1,o2) :: cs,by rw [h3];rfl,fun t ht=>?_⟩
  rcases List.mem_cons.mp ht with rfl|ht
  ·exact h1
  ·exact h4 t ht
theorem zsa {asks:Nat}{many kinds:Int}:∀(vs:List D),(∀v∈vs,IsRoom asks many kinds v)->∃rs:List (List Cl),vs=rs.map rD/\∀cs∈rs,cs.length=asks/\∀c∈cs,∀g,c.1=some g->(g:Int)<many
 | [],_=>⟨[],rfl,fun t h=>by cases h⟩
 | v :: vs,h=>by
  obtain ⟨cs,rfl,h1,h2⟩:=h v List.mem_cons_self
  obtain ⟨cl,rfl,h3⟩:=zr9 cs h2
  obtain ⟨rs,h4,h5⟩:=zsa vs fun u hu=>h u (List.mem_cons_of_mem _ hu)
  refine ⟨cl :: rs,by rw [h4];rfl,fun t ht=>?_⟩
  rcases List.mem_cons.mp ht with rfl|ht
  ·exact ⟨by simpa using h1,h3⟩
  ·exact h5 t ht
theorem yde {many:Int}{asks:Nat}{v:D}(h:zr5 many asks v) (hm:many<=24):∃rs,v=mD asks rs/\OkM asks rs/\(rs.length:Int)=many:=by
 obtain ⟨rooms,rfl,h1,h2,h3,h4,h5⟩:=h
 obtain ⟨rs,rfl,h6⟩:=zsa rooms h5
 rw [List.length_map] at h3
 refine ⟨rs,rfl,⟨h1,h2,by omega,by omega,fun cs hcs=>(h6 cs hcs).1,fun cs hcs c hc g hg=>?_⟩,h3⟩
 have:=(h6 cs hcs).2 c hc g hg
 omega
noncomputable def cell (rs:List (List Cl)) (r a:Nat):Cl:=((rs[r]?).bind fun cs=>cs[a]?).getD (none,none)
noncomputable def both (x y:Option Nat):Option BF.P:=x.bind fun i=>y.bind fun j=>some (i,j)
noncomputable def unl (x y:Option Nat):Bool:=match x,y with
 | some i,some j=>decide (i≠j)
 | _,_=>false
noncomputable def nxt (rs:List (List Cl)) (p:BF.P) (a:Nat):Option BF.P:=both (cell rs p.1 a).1 (cell rs p.2 a).1
noncomputable def fl (rs:List (List Cl)) (p:BF.P) (a:Nat):Bool:=unl (cell rs p.1 a).2 (cell rs p.2 a).2
section
variable {asks:Nat}{rs:List (List Cl)}{r a:Nat}{S:Sto}{Q:D->Sto->Prop}
theorem zmw (h:OkM asks rs) (hr:r<rs.length) (ha:a<asks):∃cs,rs[r]? = some cs/\cs[a]? = some (cell rs r a)/\cs∈rs/\cell rs r a∈cs:=by
 have h1:rs[r]? = some rs[r]:=List.getElem?_eq_getElem hr
 have h2:rs[r]∈rs:=List.getElem_mem hr
 have h3:a<rs[r].length:=by rw [h.len _ h2];exact ha
 have h4:rs[r][a]? = some rs[r][a]:=List.getElem?_eq_getElem h3
 have h5:cell rs r a=rs[r][a]:=by unfold cell;rw [h1];show (rs[r][a]?).getD _=_;rw [h4];rfl
 exact ⟨_,h1,by rw [h5];exact h4,h2,by rw [h5];exact List.getElem_mem h3⟩
theorem zjv (h:OkM asks rs) (hr:r<rs.length) (ha:a<asks) {g:Nat}(hg:(cell rs r a).1=some g):g<rs.length:=by
 obtain ⟨cs,_,_,h1,h2⟩:=zmw h hr ha
 exact h.go cs h1 _ h2 g hg
theorem zib (h:OkM asks rs) {p q:BF.P}(hp:p.1<rs.length/\p.2<rs.length) (ha:a<asks) (e:nxt rs p a=some q):q.1<rs.length/\q.2<rs.length:=by
 unfold nxt both at e
 obtain ⟨i,h1,e⟩:=bnd e
 obtain ⟨j,h2,e⟩:=bnd e
 cases e
 exact ⟨zjv h hp.1 ha h1,zjv h hp.2 ha h2⟩
theorem ydf {cs:List Cl}{c:Cl}(h:cs[a]? = some c):L2.atI (cs.map cD) (a:Int)=some (cD c):=atI_get (by rw [List.getElem?_map,h];rfl)
theorem zsb (h:OkM asks rs) (hr:r<rs.length) (ha:a<asks):Wo (zaj (.tup (rs.map rD)) (.int (r:Int)) S) (fun x S1=>Wo (zaj x (.int (a:Int)) S1) Q)=Q (cD (cell rs r a)) S:=by
 obtain ⟨cs,h1,h2,_⟩:=zmw h hr ha
 have e1:L2.atI (rs.map rD) (r:Int)=some (rD cs):=atI_get (by rw [List.getElem?_map,h1];rfl)
 have e2:=ydf h2
 rw [zh5,e1]
 simp only [zh3]
 unfold rD
 rw [zh5,e2]
 simp only [zh3]
end
theorem zgz (o:Option Nat):zdl (oD o)=o.isNone:=by cases o <;> rfl
theorem ydg (x y:Option Nat) (S:Sto):zfv [oD x,oD y] S=some (.bl (unl x y),S):=by
 have:Wo (zfv [oD x,oD y] S) fun v S'=>v=.bl (unl x y)/\S' = S:=by
  unfold zfv zri
  simp only [zb2,List.map_cons,List.map_nil,List.length_cons,List.length_nil,Nat.reduceAdd,Nat.reduceSub,List.replicate,List.cons_append,List.nil_append]
  cases x with
  | none =>
   simp! only [zgz,Option.isNone_none,Bool.not_true,Bool.false_eq_true,if_false]
   first|exact ⟨(by first|rfl|trivial),(by first|rfl|trivial)⟩|exact ⟨(by first|rfl|trivial)⟩
  | some i =>
   cases y with
   | none =>
    simp! only [zgz,Option.isNone_none,Option.isNone_some,Bool.not_true,Bool.not_false,Bool.false_eq_true,if_false,if_true]
    first|exact ⟨(by first|rfl|trivial),(by first|rfl|trivial)⟩|exact ⟨(by first|rfl|trivial)⟩
   | some j =>
    simp! only [zgz,Option.isNone_some,Bool.not_false,if_true,oD]
    refine ⟨?_,(by first|rfl|trivial)⟩
    unfold unl
    by_cases e:i=j
    ·subst e;simp
    ·simp [e];omega
 obtain ⟨v,S',e,rfl,rfl⟩:=this
 exact e
theorem zsc (c d:Cl) (S:Sto):zdc [cD c,cD d] S=some (.bl (unl c.2 d.2),S):=by
 have:Wo (zdc [cD c,cD d] S) fun v S'=>v=.bl (unl c.2 d.2)/\S' = S:=by
  unfold zdc zrj
  simp only [zb2,List.map_cons,List.map_nil,List.length_cons,List.length_nil,Nat.reduceAdd,Nat.reduceSub,List.replicate,List.cons_append,List.nil_append]
  simp! only [cD]
  refine ⟨_,_,ydg _ _ _,?_⟩
  first|exact ⟨(by first|rfl|trivial),(by first|rfl|trivial)⟩|exact ⟨(by first|rfl|trivial)⟩
 obtain ⟨v,S',e,rfl,rfl⟩:=this
 exact e
noncomputable def pD (p:BF.P):D:=.tup [.int (p.1:Int),.int (p.2:Int)]
noncomputable def qD:Option BF.P->D
 | none=>.non
 | some p=>pD p
noncomputable def wD (w:List Nat):D:=.tup (w.map fun (a:Nat)=>D.int (a:Int))
noncomputable def zd7:Option (List Nat)->D
 | none=>.non
 | some w=>wD w
noncomputable def pI (p:BF.P):List Int:=[(p.1:Int),(p.2:Int)]
theorem ydh {p q:BF.P}(h:pI p=pI q):p=q:=by
 unfold pI at h
 simp at h
 exact Prod.ext (by omega) (by omega)
theorem pI_mem {p:BF.P}{ps:List BF.P}:pI p∈ps.map pI↔p∈ps:=by
 constructor
 ·intro h
  obtain ⟨q,hq,e⟩:=List.mem_map.mp h
  rw [←ydh e];exact hq
 ·exact fun h=>List.mem_map.mpr ⟨p,h,rfl⟩
theorem zeo {asks:Nat}{rs:List (List Cl)}{r a:Nat}(h:OkM asks rs) (hr:r<rs.length) (ha:a<asks):∃cs:List Cl,L2.atI (rs.map rD) (r:Int)=some (.tup (cs.map cD))/\L2.atI (cs.map cD) (a:Int)=some (.tup [oD (cell rs r a).1,oD (cell rs r a).2]):=by
 obtain ⟨cs,h1,h2,_⟩:=zmw h hr ha
 exact ⟨cs,atI_get (by rw [List.getElem?_map,h1];rfl),atI_get (by rw [List.getElem?_map,h2];rfl)⟩
theorem zjw {x y:Option Nat}{neg:Bool}{S:Sto}{Q:D->Sto->Prop}:Wo (dIn neg .non (.tup [oD x,oD y]) S) Q=Q (.bl (if neg then (both x y).isSome else !(both x y).isSome)) S:=by
 have:dIn neg .non (.tup [oD x,oD y]) S=some (.bl (if neg then (both x y).isSome else !(both x y).isSome),S):=by
  cases x <;> cases y <;> cases neg <;> rfl
 rw [this];exact zbu
theorem zjx {x y:Option Nat}{p:BF.P}(h:both x y=some p):D.tup [oD x,oD y]=pD p:=by
 unfold both at h
 obtain ⟨i,h1,h⟩:=bnd h
 obtain ⟨j,h2,h⟩:=bnd h
 cases h;subst h1 h2;rfl
theorem ydi {asks:Nat}{rs:List (List Cl)}{i j a:Nat}{S:Sto}(h:OkM asks rs) (hi:i<rs.length) (hj:j<rs.length) (ha:a<asks):ze4 [mD asks rs,.int (i:Int),.int (j:Int),.int (a:Int)] S=some (.bl (fl rs (i,j) a),S):=by
 obtain ⟨cs,e1,e2⟩:=zeo h hi ha
 obtain ⟨ds,e3,e4⟩:=zeo h hj ha
 have:Wo (ze4 [mD asks rs,.int (i:Int),.int (j:Int),.int (a:Int)] S) fun v S'=>v=.bl (fl rs (i,j) a)/\S' = S:=by
  unfold ze4 zrt fl
  simp only [zb2,List.map_cons,List.map_nil,List.length_cons,List.length_nil,Nat.reduceAdd,Nat.reduceSub,List.replicate,List.cons_append,List.nil_append,mD]
  simp! only [e1,e2,e3,e4,zgz]
  cases (cell rs i a).2 with
  | none =>
   simp! only [Option.isNone_none,Bool.not_true,Bool.false_eq_true,if_false]
   first|exact ⟨(by first|rfl|trivial),(by first|rfl|trivial)⟩|exact ⟨(by first|rfl|trivial)⟩
  | some x =>
   cases (cell rs j a).2 with
   | none =>
    simp! only [zgz,Option.isNone_none,Option.isNone_some,Bool.not_true,Bool.not_false,Bool.false_eq_true,if_false,if_true]
    first|exact ⟨(by first|rfl|trivial),(by first|rfl|trivial)⟩|exact ⟨(by first|rfl|trivial)⟩
   | some y =>
    simp! only [zgz,Option.isNone_some,Bool.not_false,if_true,oD]
    refine ⟨?_,(by first|rfl|trivial)⟩
    unfold unl
    by_cases e:x=y
    ·subst e;simp
    ·simp [e];omega
 obtain ⟨v,S',e,rfl,rfl⟩:=this
 exact e
theorem ydj {asks:Nat}{rs:List (List Cl)}{i j a:Nat}{S:Sto}(h:OkM asks rs) (hi:i<rs.length) (hj:j<rs.length) (ha:a<asks):ze3 [mD asks rs,.int (i:Int),.int (j:Int),.int (a:Int)] S=some (qD (nxt rs (i,j) a),S):=by
 obtain ⟨cs,e1,e2⟩:=zeo h hi ha
 obtain ⟨ds,e3,e4⟩:=zeo h hj ha
 have sz2:2<=sizeLine:=by decide
 have:Wo (ze3 [mD asks rs,.int (i:Int),.int (j:Int),.int (a:Int)] S) fun v S'=>v=qD (nxt rs (i,j) a)/\S' = S:=by
  unfold ze3 zrs nxt
  simp only [zb2,List.map_cons,List.map_nil,List.length_cons,List.length_nil,Nat.reduceAdd,Nat.reduceSub,List.replicate,List.cons_append,List.nil_append,mD]
  simp! only [e1,e2,e3,e4,sz2,true_and,zjw]
  cases c:both (cell rs i a).1 (cell rs j a).1 with
  | none =>
   simp! only [Option.isSome_none,Bool.not_false,Bool.false_eq_true,if_false,if_true]
   first|exact ⟨(by first|rfl|trivial),(by first|rfl|trivial)⟩|exact ⟨(by first|rfl|trivial)⟩
  | some p =>
   simp! only [Option.isSome_some,Bool.not_true,Bool.false_eq_true,if_false,zjx c]
   first|exact ⟨(by first|rfl|trivial),(by first|rfl|trivial)⟩|exact ⟨(by first|rfl|trivial)⟩
 obtain ⟨v,S',e,rfl,rfl⟩:=this
 exact e
noncomputable def nx2 (rs rs2:List (List Cl)) (p:BF.P) (a:Nat):Option BF.P:=both (cell rs p.1 a).1 (cell rs2 p.2 a).1
noncomputable def fl2 (rs rs2:List (List Cl)) (p:BF.P) (a:Nat):Bool:=unl (cell rs p.1 a).2 (cell rs2 p.2 a).2
noncomputable def Wk (asks:Nat) (rs rs2:List (List Cl)) (p:BF.P) (r:Option (List Nat)):Prop:=match r with
 | some w=>BF.Least asks (nx2 rs rs2) (fl2 rs rs2) p w
 | none=>∀w,¬BF.Fails asks (nx2 rs rs2) (fl2 rs rs2) p w
theorem ydk {asks:Nat}{rs rs2:List (List Cl)}(h:OkM asks rs) (h':OkM asks rs2) {p q:BF.P}{a:Nat}(hp:p.1<rs.length/\p.2<rs2.length) (ha:a<asks) (e:nx2 rs rs2 p a=some q):q.1<rs.length/\q.2<rs2.length:=by
 unfold nx2 both at e
 obtain ⟨i,h1,e⟩:=bnd e
 obtain ⟨j,h2,e⟩:=bnd e
 cases e
 exact ⟨zjv h hp.1 ha h1,zjv h' hp.2 ha h2⟩
theorem zsd (w:List Nat) (a:Nat):D.tup ((w.map fun (a:Nat)=>D.int (a:Int))++[.int (a:Int)])=wD (w++[a]):=by unfold wD;rw [List.map_append];rfl
theorem zse (p:BF.P):zdt [.int (p.1:Int),.int (p.2:Int)]=some (pI p):=rfl
structure Wst (asks:Nat) (rs rs2:List (List Cl)) (p0:BF.P) (S S1:Sto) (ps:List BF.P) (ws:List (List Nat)) (i c:Nat):Prop where
 b:BF.Bf asks (nx2 rs rs2) (fl2 rs rs2) p0 ps ws i c
 inn:∀p∈ps,p.1<rs.length/\p.2<rs2.length
 ln:∀(k:Nat) w,ws[k]? = some w->w.length<=k
 g:Gr S S1
 s0:S1[S.length]? = some (.lst (ps.map pD))
 s1:S1[S.length+1]? = some (.lst (ws.map wD))
 s2:S1[S.length+2]? = some (.tset (ps.map pI))
theorem Wst.few {asks:Nat}{rs rs2:List (List Cl)}{p0:BF.P}{S S1:Sto}{ps:List BF.P}{ws:List (List Nat)}{i c:Nat}(w:Wst asks rs rs2 p0 S S1 ps ws i c) (h:OkM asks rs) (h':OkM asks rs2):ps.length<=576:=by
 have h1:=BF.few2 ps w.b.nd w.inn
 have h2:rs.length*rs2.length<=24*24:=Nat.mul_le_mul h.r24 h'.r24
 omega
theorem Wst.put {asks:Nat}{rs rs2:List (List Cl)}{p0 q q':BF.P}{S S1:Sto}{ps:List BF.P}{ws:List (List Nat)}{u:List Nat}{i c:Nat}(w:Wst asks rs rs2 p0 S S1 ps ws i c) (h:OkM asks rs) (h':OkM asks rs2) (hc:c<asks) (hq:ps[i]? = some q) (hw:ws[i]? = some u) (hf:fl2 rs rs2 q c=false) (hs:nx2 rs rs2 q c=some q') (hn:q' ∉ ps) :
  Wst asks rs rs2 p0 S (((S1.set (S.length+2) (.tset (ps.map pI++[pI q']))).set S.length (.lst (ps.map pD++[pD q']))).set (S.length+1) (.lst (ws.map wD++[wD (u++[c])]))) (ps++[q']) (ws++[u++[c]]) i (c+1):=by
 refine ⟨w.b.push hc hq hw hf hs hn,fun p hp=>?_,fun k v hv=>?_,((w.g.set (by omega) _).set (by omega) _).set (by omega) _,?_,?_,?_⟩
 ·rcases List.mem_append.mp hp with hp|hp
  ·exact w.inn p hp
  ·have:p=q':=by simpa using hp
   subst this
   exact ydk h h' (w.inn q (List.mem_of_getElem? hq)) hc hs
 ·rcases BF.get_snoc hv with hv|⟨rfl,rfl⟩
  ·exact w.ln k v hv
  ·have:=w.ln i u hw
   have:=(qlt hw)
   simp;omega
 ·rw [List.map_append]
  exact zbc (zcj (zbc w.s0 (by omega))) (by omega)
 ·rw [List.map_append]
  exact zcj (zbc (zbc w.s1 (by omega)) (by omega))
 ·rw [List.map_append]
  exact zbc (zbc (zcj w.s2) (by omega)) (by omega)
local macro_rules
 | `(tactic| simp_all! only [$xs,*])=>`(tactic| simp only [zd5,zdp,zi2,zap,zd4,za0,zk9,zew,zex,zey,zbd,zc1,zba,za7,zk6,zgc,zgd,zk7,zla,zlb,zmn,zmo,zgp,zi3,zi4,zh5,zmc,zi5,zi6,zme,zmd,zlc,zdq,zi7,zge,zld,zhp,zmf,zle,zlf,zmg,zmh,List.map_cons,List.map_nil,List.length_cons,List.length_nil,Nat.reduceAdd,Nat.reduceSub,List.replicate,List.cons_append,List.nil_append,qg0,qg1,qs0,qs1,zbb,zh3,zjq,zh4,zl9,zma,zmb,zl7,zl8,zdu,decide_eq_true_eq,zrd,zrb,zrc,zmr,$xs,*])
theorem ydl {asks:Nat}{rs rs2:List (List Cl)}{i j f:Nat}{S:Sto}(h:OkM asks rs) (h':OkM asks rs2) (hi:i<rs.length) (hj:j<rs2.length) (hf:S[f]? = some (.fnc "say_unlike")) :
  Wo (zgr [mD asks rs,mD asks rs2,pD (i,j),.ref f] S) fun v S'=>Gr S S'/\∃r n,v=.tup [zd7 r,.ref n]/\Wk asks rs rs2 (i,j) r:=by
 have sz:=zb6
 unfold zgr zrk
 simp only [zb2,List.map_cons,List.map_nil,List.length_cons,List.length_nil,Nat.reduceAdd,Nat.reduceSub,List.replicate,List.cons_append,List.nil_append]
 generalize hM:mD asks rs=dM
 generalize hO:mD asks rs2=dO
 generalize hB:pD (i,j)=dB
 refine zaw (l':=[some dM,some dO,some dB,some (.ref f),some (.ref S.length),none,none,none,none,none,none,none,none,none,none]) (S':=S++[.lst [dB]]) ?_ ?_
 ·simp! only [zap]
  exact ⟨by omega,(by first|rfl|trivial),(by first|rfl|trivial),(by first|rfl|trivial)⟩
 refine zaw (l':=[some dM,some dO,some dB,some (.ref f),some (.ref S.length),some (.ref (S.length+1)),none,none,none,none,none,none,none,none,none]) (S':=S++[.lst [dB]]++[.lst [.tup []]]) ?_ ?_
 ·simp! only [List.length_append]
  exact ⟨by omega,by omega,(by first|rfl|trivial),(by first|rfl|trivial),(by first|rfl|trivial)⟩
 refine zaw (l':=[some dM,some dO,some dB,some (.ref f),some (.ref S.length),some (.ref (S.length+1)),some (.ref (S.length+2)),none,none,none,none,none,none,none,none]) (S':=S++[.lst [dB]]++[.lst [.tup []]]++[.tset [pI (i,j)]]) ?_ ?_
 ·rw [zby,ycf (ds:=[.int (i:Int),.int (j:Int)]) (k:=pI (i,j)) (by rw [←hB];rfl) rfl]
  simp! only [List.length_append]
  first|exact ⟨(by first|rfl|trivial),(by first|rfl|trivial),(by first|rfl|trivial)⟩|exact ⟨(by first|rfl|trivial),(by first|rfl|trivial)⟩
 refine zaw (l':=[some dM,some dO,some dB,some (.ref f),some (.ref S.length),some (.ref (S.length+1)),some (.ref (S.length+2)),some (.int ((0:Nat):Int)),none,none,none,none,none,none,none]) (S':=S++[.lst [dB]]++[.lst [.tup []]]++[.tset [pI (i,j)]]) ?_ ?_
 ·simp! only [zap]
  first|exact ⟨(by first|rfl|trivial),(by first|rfl|trivial),(by first|rfl|trivial)⟩|exact ⟨(by first|rfl|trivial),(by first|rfl|trivial)⟩
 have w0:Wst asks rs rs2 (i,j) S (S++[.lst [dB]]++[.lst [.tup []]]++[.tset [pI (i,j)]]) [(i,j)] [[]] 0 0:=by
  refine ⟨.start _,fun p hp=>?_,fun k w hw=>?_,?_,?_,?_,?_⟩
  ·have:p=(i,j):=by simpa using hp
   subst this;exact ⟨hi,hj⟩
  ·cases k with
   | zero=>have:w=[]:=by simpa using hw.symm
           subst this;simp
   | succ k=>simp at hw
  ·exact ((Gr.refl S).push _).push _ |>.push _
  ·rw [←hB];exact zb3 (zb3 zbz)
  ·exact zb3 (by have:=@zbz (S++[Ob.lst [dB]]) (.lst [.tup []]);rw [List.length_append] at this;exact this)
  ·have:=@zbz (S++[Ob.lst [dB]]++[Ob.lst [.tup []]]) (.tset [pI (i,j)]);rw [List.length_append,List.length_append] at this;exact this
 refine zh9 (fun l S1=>∃ps ws x8 x9 x10 x11 x12 x13 x14 ii,l=[some dM,some dO,some dB,some (.ref f),some (.ref S.length),some (.ref (S.length+1)),some (.ref (S.length+2)),some (.int ((ii:Nat):Int)),x8,x9,x10,x11,x12,x13,x14]/\ii=ps.length/\Wst asks rs rs2 (i,j) S S1 ps ws ii 0) (fun d S1=>Gr S S1/\∃r n,d=.tup [zd7 r,.ref n]/\Wk asks rs rs2 (i,j) r) ?_ ?_ (fun d l1 S1 o=>o)
 ·refine zmt (fun m l S1=>∃ps ws x8 x9 x10 x11 x12 x13 x14,∃ii:Nat,l=[some dM,some dO,some dB,some (.ref f),some (.ref S.length),some (.ref (S.length+1)),some (.ref (S.length+2)),some (.int (ii:Int)),x8,x9,x10,x11,x12,x13,x14]/\ii<=ps.length/\m+ii=600/\Wst asks rs rs2 (i,j) S S1 ps ws ii 0) (fun d S1=>Gr S S1/\∃r n,d=.tup [zd7 r,.ref n]/\Wk asks rs rs2 (i,j) r) (fun l S1=>∃ps ws x8 x9 x10 x11 x12 x13 x14,∃ii:Nat,l=[some dM,some dO,some dB,some (.ref f),some (.ref S.length),some (.ref (S.length+1)),some (.ref (S.length+2)),some (.int (ii:Int)),x8,x9,x10,x11,x12,x13,x14]/\ii=ps.length/\Wst asks rs rs2 (i,j) S S1 ps ws ii 0) 600 (by decide) ⟨_,_,_,_,_,_,_,_,_,0,rfl,Nat.zero_le _,rfl,w0⟩ ?_ (fun l' S' q=>.inl ⟨rfl,q⟩) (fun d l' S' q=>.inr ⟨d,rfl,q⟩)
  rintro m l S1 ⟨ps,ws,x8,x9,x10,x11,x12,x13,x14,ii,rfl,hii,hm,w⟩
  have hfew:=w.few h h'
  simp_all! only [zcg w.s0,List.length_map]
  split
  ·rename_i hlt
   have hlt:ii<ps.length:=by omega
   have hwl:ii<ws.length:=by rw [w.b.len];exact hlt
   obtain ⟨q,hq⟩:∃q,ps[ii]? = some q:=⟨_,List.getElem?_eq_getElem hlt⟩
   obtain ⟨u,hu⟩:∃u,ws[ii]? = some u:=⟨_,List.getElem?_eq_getElem hwl⟩
   have hqi:=w.inn q (List.mem_of_getElem? hq)
   have e1:L2.atI (ps.map pD) (ii:Int)=some (.tup [.int (q.1:Int),.int (q.2:Int)]):=atI_get (by rw [List.getElem?_map,hq];rfl)
   have e2:L2.atI (ws.map wD) (ii:Int)=some (wD u):=atI_get (by rw [List.getElem?_map,hu];rfl)
   refine zaw (l':=[some dM,some dO,some dB,some (.ref f),some (.ref S.length),some (.ref (S.length+1)),some (.ref (S.length+2)),some (.int (ii:Int)),some (.int (q.1:Int)),some (.int (q.2:Int)),x10,x11,x12,x13,x14]) (S':=S1) ?_ ?_
   ·simp! only [zcg w.s0,e1,true_and]
    all_goals first|trivial|exact ⟨(by first|rfl|trivial),(by first|rfl|trivial)⟩
   refine zaw (l':=[some dM,some dO,some dB,some (.ref f),some (.ref S.length),some (.ref (S.length+1)),some (.ref (S.length+2)),some (.int (ii:Int)),some (.int (q.1:Int)),some (.int (q.2:Int)),some (wD u),x11,x12,x13,x14]) (S':=S1) ?_ ?_
   ·simp! only [zcg w.s1,e2,true_and]
    all_goals first|trivial|exact ⟨(by first|rfl|trivial),(by first|rfl|trivial)⟩
   refine zaw (l':=[some dM,some dO,some dB,some (.ref f),some (.ref S.length),some (.ref (S.length+1)),some (.ref (S.length+2)),some (.int ((ii+1:Nat):Int)),some (.int (q.1:Int)),some (.int (q.2:Int)),some (wD u),x11,x12,x13,x14]) (S':=S1) ?_ ?_
   ·simp! only [true_and]
    all_goals first|trivial|exact ⟨(by first|rfl|trivial),(by first|rfl|trivial)⟩
   have ha0:zac (eOp zaj (zaa 0) (eC (.int 0))) zae [some dM,some dO,some dB,some (.ref f),some (.ref S.length),some (.ref (S.length+1)),some (.ref (S.length+2)),some (.int ((ii+1:Nat):Int)),some (.int (q.1:Int)),some (.int (q.2:Int)),some (wD u),x11,x12,x13,x14] S1=some ([.int (asks:Int)],S1):=by rw [←hM];rfl
   refine zh7 (fun c l S5=>∃ps ws y11 y12 y13 y14,l=[some dM,some dO,some dB,some (.ref f),some (.ref S.length),some (.ref (S.length+1)),some (.ref (S.length+2)),some (.int ((ii+1:Nat):Int)),some (.int (q.1:Int)),some (.int (q.2:Int)),some (wD u),y11,y12,y13,y14]/\ps[ii]? = some q/\ws[ii]? = some u/\Wst asks rs rs2 (i,j) S S5 ps ws ii c) (fun d S1=>Gr S S1/\∃r n,d=.tup [zd7 r,.ref n]/\Wk asks rs rs2 (i,j) r) ha0 (by have:=h.a4;omega) ⟨ps,ws,_,_,_,_,rfl,hq,hu,w⟩ ?_ ?_ (fun d l' S' q=>.inr ⟨d,rfl,q⟩)
   ·rintro c l S5 hc ⟨ps,ws,y11,y12,y13,y14,rfl,hq,hu,w⟩
    have hfew:=w.few h h'
    have hul:=w.ln ii u hu
    have hil:=(qlt hq)
    obtain ⟨cs,c1,c2⟩:=zeo h hqi.1 hc
    obtain ⟨ds,c3,c4⟩:=zeo h' hqi.2 hc
    simp only [za0,qs0,qs1]
    refine zaw (l':=[some dM,some dO,some dB,some (.ref f),some (.ref S.length),some (.ref (S.length+1)),some (.ref (S.length+2)),some (.int ((ii+1:Nat):Int)),some (.int (q.1:Int)),some (.int (q.2:Int)),some (wD u),some (.int (c:Int)),some (cD (cell rs q.1 c)),y13,y14]) (S':=S5) ?_ ?_
    ·rw [←hM]
     simp! only [mD,c1,c2,true_and]
     all_goals first|trivial|exact ⟨(by first|rfl|trivial),(by first|rfl|trivial)⟩
    refine zaw (l':=[some dM,some dO,some dB,some (.ref f),some (.ref S.length),some (.ref (S.length+1)),some (.ref (S.length+2)),some (.int ((ii+1:Nat):Int)),some (.int (q.1:Int)),some (.int (q.2:Int)),some (wD u),some (.int (c:Int)),some (cD (cell rs q.1 c)),some (cD (cell rs2 q.2 c)),y14]) (S':=S5) ?_ ?_
    ·rw [←hO]
     simp! only [mD,c3,c4,true_and]
     all_goals first|trivial|exact ⟨(by first|rfl|trivial),(by first|rfl|trivial)⟩
    have hfn:zgl S5 (.ref f)=some ("say_unlike":Str):=by unfold zgl;dsimp only;rw [w.g.get hf]
    have hlk:List.lookup ("say_unlike":Str) [(("say_unlike":Str),zdc)]=some zdc:=by simp [List.lookup]
    refine zh9 (fun l S8=>l=[some dM,some dO,some dB,some (.ref f),some (.ref S.length),some (.ref (S.length+1)),some (.ref (S.length+2)),some (.int ((ii+1:Nat):Int)),some (.int (q.1:Int)),some (.int (q.2:Int)),some (wD u),some (.int (c:Int)),some (cD (cell rs q.1 c)),some (cD (cell rs2 q.2 c)),y14]/\S8=S5/\fl2 rs rs2 q c=false) (fun d S1=>Gr S S1/\∃r n,d=.tup [zd7 r,.ref n]/\Wk asks rs rs2 (i,j) r) ?_ ?_ (fun d l1 S1 o=>.inr ⟨d,rfl,o⟩)
    ·refine zc3 (fun b S8=>b=fl2 rs rs2 q c/\S8=S5) ?_ ?_ ?_
     ·simp! only [hfn,hlk]
      refine ⟨_,_,zsc _ _ _,?_⟩
      exact ⟨fl2 rs rs2 q c,(by first|rfl|trivial),(by first|rfl|trivial),(by first|rfl|trivial)⟩
     ·rintro S8 ⟨hb,rfl⟩
      simp! only [wD]
      refine ⟨by omega,by rw [List.length_map];omega,by omega,.inr ⟨_,rfl,w.g,some (u++[c]),S.length,?_,w.b.found hc hq hu hb.symm⟩⟩
      rw [zsd];rfl
     ·rintro S8 ⟨hb,rfl⟩
      simp! only [zap]
      exact .inl ⟨(by first|rfl|trivial),(by first|rfl|trivial),(by first|rfl|trivial),hb.symm⟩
    rintro l S8 ⟨rfl,rfl,hfl⟩
    refine zaw (l':=[some dM,some dO,some dB,some (.ref f),some (.ref S.length),some (.ref (S.length+1)),some (.ref (S.length+2)),some (.int ((ii+1:Nat):Int)),some (.int (q.1:Int)),some (.int (q.2:Int)),some (wD u),some (.int (c:Int)),some (cD (cell rs q.1 c)),some (cD (cell rs2 q.2 c)),some (.tup [oD (cell rs q.1 c).1,oD (cell rs2 q.2 c).1])]) (S':=S8) ?_ ?_
    ·have sz2:2<=sizeLine:=by omega
     simp! only [cD,sz2,true_and]
     all_goals first|trivial|exact ⟨(by first|rfl|trivial),(by first|rfl|trivial)⟩
    refine zc3 (fun b S10=>S10=S8/\(b=true->∃q',nx2 rs rs2 q c=some q'/\q' ∉ ps)/\(b=false->∀q',nx2 rs rs2 q c=some q'->q'∈ps)) ?_ ?_ ?_
    ·simp_all! only [zjw]
     cases hbo:both (cell rs q.1 c).1 (cell rs2 q.2 c).1 with
     | none =>
      simp_all! only [Option.isSome_none,Bool.false_eq_true,if_false,if_true]
      refine ⟨(by first|rfl|trivial),fun z=>z.elim,fun _ q' hs=>?_⟩
      unfold nx2 at hs;rw [hbo] at hs;cases hs
     | some q' =>
      have hs:nx2 rs rs2 q c=some q':=hbo
      simp_all! only [Option.isSome_some,if_true]
      rw [zjx hbo]
      unfold pD
      rw [ycb w.s2 (zse q')]
      simp only [pI_mem,if_true]
      refine ⟨_,rfl,(by first|rfl|trivial),fun z=>⟨q',hs,by simpa using z⟩,fun z q2 h2=>?_⟩
      rw [hs] at h2;cases h2
      simpa using z
    ·rintro S10 ⟨rfl,hb,_⟩
     obtain ⟨q',hs,hn⟩:=hb rfl
     have hbo:both (cell rs q.1 c).1 (cell rs2 q.2 c).1=some q':=hs
     rw [zjx hbo]
     refine zaw (l':=[some dM,some dO,some dB,some (.ref f),some (.ref S.length),some (.ref (S.length+1)),some (.ref (S.length+2)),some (.int ((ii+1:Nat):Int)),some (.int (q.1:Int)),some (.int (q.2:Int)),some (wD u),some (.int (c:Int)),some (cD (cell rs q.1 c)),some (cD (cell rs2 q.2 c)),some (pD q')]) (S':=S10.set (S.length+2) (.tset (ps.map pI++[pI q']))) ?_ ?_
     ·rw [zc9,yce]
      simp_all! only [ycd w.s2,true_and]
      unfold pD
      rw [ycc w.s2 (zse q') (by rw [List.length_map];omega) (fun z=>hn (pI_mem.mp z))]
      all_goals first|trivial|exact ⟨(by first|rfl|trivial),(by first|rfl|trivial),(by first|rfl|trivial)⟩|exact ⟨(by first|rfl|trivial),(by first|rfl|trivial)⟩
     have g0:(S10.set (S.length+2) (.tset (ps.map pI++[pI q'])))[S.length]? = some (.lst (ps.map pD)):=zbc w.s0 (by omega)
     refine zaw (l':=[some dM,some dO,some dB,some (.ref f),some (.ref S.length),some (.ref (S.length+1)),some (.ref (S.length+2)),some (.int ((ii+1:Nat):Int)),some (.int (q.1:Int)),some (.int (q.2:Int)),some (wD u),some (.int (c:Int)),some (cD (cell rs q.1 c)),some (cD (cell rs2 q.2 c)),some (pD q')]) (S':=(S10.set (S.length+2) (.tset (ps.map pI++[pI q']))).set S.length (.lst (ps.map pD++[pD q']))) ?_ ?_
     ·rw [zc9,zc1]
      simp_all! only [zdv g0,zfy,true_and]
      rw [zem g0 (by rw [List.length_map];omega)]
      all_goals first|trivial|exact ⟨(by first|rfl|trivial),(by first|rfl|trivial),(by first|rfl|trivial)⟩|exact ⟨(by first|rfl|trivial),(by first|rfl|trivial)⟩
     have g1:((S10.set (S.length+2) (.tset (ps.map pI++[pI q']))).set S.length (.lst (ps.map pD++[pD q'])))[S.length+1]? = some (.lst (ws.map wD)):=zbc (zbc w.s1 (by omega)) (by omega)
     have hz1:(ws.map wD).length<sizeLine:=by rw [List.length_map,w.b.len];omega
     rw [zc9,zc1]
     simp_all! only [zdv g1,zfy,true_and,wD]
     refine ⟨by omega,by rw [List.length_map];omega,?_⟩
     rw [zem g1 hz1,zsd]
     exact .inl ⟨.inl (by first|rfl|trivial),ps++[q'],ws++[u++[c]],_,_,_,_,rfl,BF.get_left hq,BF.get_left hu,w.put h h' hc hq hu hfl hs hn⟩
    ·rintro S10 ⟨rfl,_,hb⟩
     simp! only [zap]
     exact .inl ⟨.inl (by first|rfl|trivial),ps,ws,_,_,_,_,rfl,hq,hu,⟨w.b.skip hc hq hu hfl (hb rfl),w.inn,w.ln,w.g,w.s0,w.s1,w.s2⟩⟩
   ·rintro l' S' ⟨ps,ws,y11,y12,y13,y14,rfl,hq,hu,w⟩
    have hil:=(qlt hq)
    refine .inl ⟨.inl rfl,m-1,by omega,ps,ws,_,_,_,_,_,_,_,ii+1,rfl,by omega,by omega,⟨w.b.next,w.inn,w.ln,w.g,w.s0,w.s1,w.s2⟩⟩
  ·rename_i hge
   exact ⟨ps,ws,_,_,_,_,_,_,_,ii,rfl,by omega,w⟩
 ·rintro l S1 ⟨ps,ws,x8,x9,x10,x11,x12,x13,x14,ii,rfl,rfl,w⟩
  simp! only [zap]
  exact ⟨by omega,w.g,none,_,rfl,w.b.none⟩
theorem ydm {asks:Nat}{rs:List (List Cl)}{i j:Nat}{S:Sto}(h:OkM asks rs) (hi:i<rs.length) (hj:j<rs.length) :
  Wo (zfw [mD asks rs,.int (i:Int),.int (j:Int)] S) fun v S'=>Gr S S'/\∃r,v=zd7 r/\Wk asks rs rs (i,j) r:=by
 have sz2:2<=sizeLine:=by decide
 unfold zfw zrl
 simp only [zb2,List.map_cons,List.map_nil,List.length_cons,List.length_nil,Nat.reduceAdd,Nat.reduceSub,List.replicate,List.cons_append,List.nil_append]
 simp! only [sz2,true_and]
 have key:=ydl (S:=S++[.fnc "say_unlike"]) (f:=S.length) h h hi hj zbz
 unfold pD at key
 refine Wo.mono key ?_
 rintro v S' ⟨g,r,n,rfl,hw⟩
 simp! only [zap]
 exact ⟨Gr.trans ((Gr.refl S).push (.fnc "say_unlike")) g,r,rfl,hw⟩
noncomputable def zbh (N:Nat):List BF.P:=(List.range (N*N)).map fun k=>(k / N,k % N)
theorem mem_allP {N:Nat}{p:BF.P}:p∈zbh N↔p.1<N/\p.2<N:=by
 unfold zbh
 rw [List.mem_map]
 constructor
 ·rintro ⟨k,hk,rfl⟩
  have hk:=List.mem_range.mp hk
  have hN:0<N:=by
   rcases Nat.eq_zero_or_pos N with e|e
   ·subst e;omega
   ·exact e
  exact ⟨Nat.div_lt_of_lt_mul hk,Nat.mod_lt _ hN⟩
 ·rintro ⟨h1,h2⟩
  refine ⟨p.1*N+p.2,List.mem_range.mpr ?_,?_⟩
  ·calc p.1*N+p.2<p.1*N+N:=by omega
    _=(p.1+1)*N:=by rw [Nat.add_mul,Nat.one_mul]
    _<=N*N:=Nat.mul_le_mul_right N h1
  ·refine Prod.ext ?_ ?_
   ·show (p.1*N+p.2) / N=p.1
    rw [Nat.mul_comm,Nat.mul_add_div (by omega),Nat.div_eq_of_lt h2,Nat.add_zero]
   ·show (p.1*N+p.2) % N=p.2
    rw [Nat.mul_comm,Nat.mul_add_mod,Nat.mod_eq_of_lt h2]
noncomputable abbrev Tb:=List (List L2.Key × D)
noncomputable def pK (p:BF.P):List L2.Key:=[Sum.inl (p.1:Int),Sum.inl (p.2:Int)]
theorem zg0 {p q:BF.P}(h:pK p=pK q):p=q:=by
 unfold pK at h
 simp at h
 exact Prod.ext (by omega) (by omega)
theorem zde (p:BF.P):zcp (pD p)=some (pK p):=rfl
theorem zjy (kvs:Tb) (k j:List L2.Key) (v:D):zaq (zb5 kvs k v) j=if j=k then some v else zaq kvs j:=by
 unfold zb5
 by_cases e:(kvs.any fun kv=>decide (kv.1=k))=true
 ·rw [if_pos e]
  by_cases hj:j=k
  ·subst hj
   rw [if_pos rfl]
   obtain ⟨kv,h1,h2⟩:=List.any_eq_true.mp e
   clear e
   induction kvs with
   | nil=>cases h1
   | cons x kvs ih =>
    obtain ⟨xk,xv⟩:=x
    by_cases hx:xk=j
    ·subst hx;simp [zaq]
    ·rcases List.mem_cons.mp h1 with rfl|h1
     ·exact absurd (of_decide_eq_true h2) hx
     ·have:=ih h1
      simp only [zaq,List.map_cons,if_neg hx,List.find?_cons,decide_eq_false hx] at this ⊢
      exact this
  ·rw [if_neg hj]
   clear e
   induction kvs with
   | nil=>rfl
   | cons x kvs ih =>
    obtain ⟨xk,xv⟩:=x
    by_cases hx:xk=k
    ·subst hx
     have hx':¬xk=j:=fun z=>hj z.symm
     simp only [zaq,List.map_cons,if_true,List.find?_cons,decide_eq_false hx'] at ih ⊢
     exact ih
    ·by_cases hxj:xk=j
     ·subst hxj
      simp [zaq,hx]
     ·simp only [zaq,List.map_cons,if_neg hx,List.find?_cons,decide_eq_false hxj] at ih ⊢
      exact ih
 ·rw [if_neg e]
  have none:zaq kvs k=none:=by
   unfold zaq
   rw [Option.map_eq_none_iff,List.find?_eq_none]
   intro x hx hk
   exact e (List.any_eq_true.mpr ⟨x,hx,hk⟩)
  by_cases hj:j=k
  ·subst hj
   rw [if_pos rfl]
   unfold zaq at none ⊢
   rw [List.find?_append,Option.map_eq_none_iff.mp none]
   simp
  ·rw [if_neg hj]
   unfold zaq
   rw [List.find?_append]
   cases kvs.find? (fun kv=>decide (kv.1=j)) with
   | some x=>rfl
   | none =>
    have hk:¬k=j:=fun z=>hj z.symm
    simp [hk]
structure Ks (N:Nat) (kvs:Tb) (ks:List BF.P):Prop where
 e:kvs.map (·.1)=ks.map pK
 nd:ks.Nodup
 inn:∀p∈ks,p.1<N/\p.2<N
theorem Ks.any {N:Nat}{kvs:Tb}{ks:List BF.P}(h:Ks N kvs ks) (p:BF.P):(kvs.any fun kv=>decide (kv.1=pK p))=decide (p∈ks):=by
 rw [Bool.eq_iff_iff,List.any_eq_true,decide_eq_true_eq]
 constructor
 ·rintro ⟨kv,h1,h2⟩
  have:kv.1∈kvs.map (·.1):=List.mem_map.mpr ⟨kv,h1,rfl⟩
  rw [h.e] at this
  obtain ⟨q,hq,e⟩:=List.mem_map.mp this
  have:pK q=pK p:=e.trans (of_decide_eq_true h2)
  rw [←zg0 this];exact hq
 ·intro hp
  have:pK p∈kvs.map (·.1):=by rw [h.e];exact List.mem_map.mpr ⟨p,hp,rfl⟩
  obtain ⟨kv,h1,h2⟩:=List.mem_map.mp this
  exact ⟨kv,h1,decide_eq_true h2⟩
theorem Ks.len {N:Nat}{kvs:Tb}{ks:List BF.P}(h:Ks N kvs ks):kvs.length=ks.length:=by
 have:=congrArg List.length h.e
 simpa using this
theorem Ks.put {N:Nat}{kvs:Tb}{ks:List BF.P}(h:Ks N kvs ks) {p:BF.P}(hp:p.1<N/\p.2<N) (v:D):∃ks',Ks N (zb5 kvs (pK p) v) ks'/\ks.length<=ks'.length/\(p ∉ ks->ks.length+1<=ks'.length)/\p∈ks':=by
 unfold zb5
 rw [h.any p]
 by_cases c:p∈ks
 ·rw [if_pos (decide_eq_true c)]
  refine ⟨ks,⟨?_,h.nd,h.inn⟩,Nat.le_refl _,fun z=>absurd c z,c⟩
  rw [←h.e,List.map_map]
  apply List.map_congr_left
  intro x hx
  show (if x.1=pK p then (x.1,v) else x).1=x.1
  split <;> rfl
 ·rw [if_neg (by simpa using c)]
  refine ⟨ks++[p],⟨?_,?_,fun q hq=>?_⟩,by simp,fun _=>by simp,by simp⟩
  ·rw [List.map_append,List.map_append,h.e];rfl
  ·rw [List.nodup_append]
   exact ⟨h.nd,by simp,fun x hx y hy=>by have:y=p:=by simpa using hy
                                         subst this;exact fun e=>c (e ▸ hx)⟩
  ·rcases List.mem_append.mp hq with hq|hq
   ·exact h.inn q hq
   ·have:q=p:=by simpa using hq
    subst this;exact hp
theorem Ks.get {N:Nat}{kvs:Tb}{ks:List BF.P}(h:Ks N kvs ks) (p:BF.P):(zaq kvs (pK p)).isSome=decide (p∈ks):=by
 rw [←h.any p]
 unfold zaq
 rw [Option.isSome_map]
 cases c:kvs.find? (fun kv=>decide (kv.1=pK p)) with
 | none =>
  rw [List.find?_eq_none] at c
  symm
  rw [Option.isSome_none,List.any_eq_false]
  exact c
 | some x =>
  symm
  rw [Option.isSome_some,List.any_eq_true]
  exact ⟨x,List.mem_of_find?_eq_some c,by simpa using List.find?_some c⟩
noncomputable abbrev Di (asks:Nat) (rs:List (List Cl)) (p:BF.P) (n:Nat):Prop:=BF.Ds asks (nxt rs) (fl rs) p n
structure Fd (asks:Nat) (rs:List (List Cl)) (kvs:Tb) (n:Nat):Prop where
 yes:∀p m,p.1<rs.length/\p.2<rs.length->m<n->Di asks rs p m->zaq kvs (pK p)=some (.int (m:Int))
 no:∀p,p.1<rs.length/\p.2<rs.length->(∀m,m<n->¬Di asks rs p m)->zaq kvs (pK p)=none
theorem Fd.some {asks:Nat}{rs:List (List Cl)}{kvs:Tb}{n:Nat}(f:Fd asks rs kvs n) {p:BF.P}(hp:p.1<rs.length/\p.2<rs.length):(zaq kvs (pK p)).isSome=true↔∃m,m<n/\Di asks rs p m:=by
 constructor
 ·intro h
  refine Classical.byContradiction fun c=>?_
  rw [f.no p hp fun m hm d=>c ⟨m,hm,d⟩] at h
  cases h
 ·rintro ⟨m,hm,d⟩
  rw [f.yes p m hp hm d];rfl
theorem Di.down {asks:Nat}{rs:List (List Cl)}{p:BF.P}{m:Nat}(d:Di asks rs p (m+2)):∃a q,a<asks/\nxt rs p a=some q/\Di asks rs q (m+1):=by
 obtain ⟨a,q,h1,h2,h3⟩:=BF.Fn.succ.mp d.1
 refine ⟨a,q,h1,h2,h3,fun k hk ⟨u,hu,hul⟩=>?_⟩
 exact d.2 (k+1) (by omega) ⟨a :: u,BF.fails_cons h1 h2 hu,by simp [hul]⟩
theorem Di.stop {asks:Nat}{rs:List (List Cl)}(h:OkM asks rs) {n:Nat}(hn:1<=n) (no:∀p,p.1<rs.length/\p.2<rs.length->¬Di asks rs p n):∀(k:Nat) p,p.1<rs.length/\p.2<rs.length->¬Di asks rs p (n+k)
 | 0,p,hp=>no p hp
 | k+1,p,hp=>fun d=>by
  have e:n+(k+1)=(n+k-1)+2:=by omega
  rw [e] at d
  obtain ⟨a,q,h1,h2,h3⟩:=Di.down d
  rw [show n+k-1+1=n+k by omega] at h3
  exact Di.stop h hn no k q (zib h hp h1 h2) h3
structure Fst (rs:List (List Cl)) (S S1:Sto) (n4:Nat) (kvs:Tb) (hs:List BF.P):Prop where
 g:Gr S S1
 s2:S1[S.length]? = some (.lst ((zbh rs.length).map pD))
 s3:S1[S.length+1]? = some (.tdct kvs)
 s4:S1[n4]? = some (.lst (hs.map pD))
 h4:S.length+2<=n4
theorem Fst.grow {rs:List (List Cl)}{S S1 S2:Sto}{n4:Nat}{kvs:Tb}{hs:List BF.P}(f:Fst rs S S1 n4 kvs hs) (h:Gr S1 S2):Fst rs S S2 n4 kvs hs:=⟨f.g.trans h,h.get f.s2,h.get f.s3,h.get f.s4,f.h4⟩
theorem zg1 {n:Nat}(F:D->D):(zav 0 n).map F=(List.range n).map fun (a:Nat)=>F (.int (a:Int)):=by
 unfold zav
 rw [List.map_map]
 apply List.map_congr_left
 intro a _
 show F (.int (0+(a:Int)))=_
 rw [Int.zero_add]
theorem zjz {n:Nat}{x:D}(h:x∈zav 0 n):∃a:Nat,a<n/\x=.int (a:Int):=by
 unfold zav at h
 obtain ⟨a,ha,rfl⟩:=List.mem_map.mp h
 exact ⟨a,List.mem_range.mp ha,by rw [Int.zero_add]⟩
noncomputable def flF (rs:List (List Cl)) (p:BF.P):D->D
 | .int a=>.bl (fl rs p a.toNat)
 | _=>.non
noncomputable def qF (rs:List (List Cl)) (p:BF.P):D->D
 | .int a=>qD (nxt rs p a.toNat)
 | _=>.non
noncomputable def f1 (asks:Nat) (rs:List (List Cl)) (p:BF.P):Bool:=(List.range asks).any fun a=>fl rs p a
theorem f1_iff {asks:Nat}{rs:List (List Cl)}{p:BF.P}:f1 asks rs p=true↔Di asks rs p 1:=by
 unfold f1 Di
 rw [List.any_eq_true,BF.Ds.one]
 constructor
 ·rintro ⟨a,h1,h2⟩;exact ⟨a,List.mem_range.mp h1,h2⟩
 ·rintro ⟨a,h1,h2⟩;exact ⟨a,List.mem_range.mpr h1,h2⟩
theorem ydn {asks:Nat}{rs:List (List Cl)}{p:BF.P}{S:Sto}{l:Lo}{QB:Bool->Sto->Prop}(h:OkM asks rs) (hp:p.1<rs.length/\p.2<rs.length)
  (h0:l[0]? = some (some (mD asks rs))) (h5:l[5]? = some (some (.int (p.1:Int)))) (h6:l[6]? = some (some (.int (p.2:Int)))) (q:∀S2,Gr S S2->QB (f1 asks rs p) S2) :
  Wt (tE (zaf ze1 (zac (zbo (zco (zbg (zac (eOp zaj (zaa 0) (eC (.int 0))) (zae)))) [none,some 0,some 5,some 6] (zag 0) (zay) (zaf ze4 (zac (zaa 1) (zac (zaa 2) (zac (zaa 3) (zac (zaa 0) (zae))))))) (zae)))) l S QB:=by
 have sz:=zb6
 have ha4:=h.a4
 simp only [zd5,zbd,zba,za7]
 have ha0:zac (eOp zaj (zaa 0) (eC (.int 0))) zae l S=some ([.int (asks:Int)],S):=by
  unfold zac eOp zaa;rw [h0];rfl
 refine zgq (zav 0 asks) (flF rs p) (fun T=>Gr S T) (fun l=>∃x0,l=[x0,some (mD asks rs),some (.int (p.1:Int)),some (.int (p.2:Int))]) (zh6 ha0 (by omega)) (Gr.refl S) ?_ (fun i T _=>rfl) (by rw [zda];omega) ?_ ?_
 ·refine ⟨none,?_⟩
  unfold za3
  simp only [List.map_cons,List.map_nil,h0,h5,h6]
  rfl
 ·rintro x l T hx ⟨x0,rfl⟩ hT
  obtain ⟨a,ha,rfl⟩:=zjz hx
  simp only [za0,qs0]
  refine ⟨hT,⟨_,rfl⟩,?_⟩
  simp_all! only [zap]
  refine ⟨_,_,ydi h hp.1 hp.2 ha,?_,hT⟩
  rfl
 ·intro T hT
  rw [zq5]
  refine ⟨_,zdu,?_,?_⟩
  ·rw [zg1,List.all_map,List.all_eq_true]
   intro a _;rfl
  ·refine ⟨f1 asks rs p,?_,q _ (hT.push _)⟩
   rw [zg1,List.any_map]
   rfl
theorem ydo {asks:Nat}{rs:List (List Cl)}{p:BF.P}{S:Sto}{l:Lo}{Q:D->Sto->Prop}(h:OkM asks rs) (hp:p.1<rs.length/\p.2<rs.length)
  (h0:l[0]? = some (some (mD asks rs))) (h5:l[5]? = some (some (.int (p.1:Int)))) (h6:l[6]? = some (some (.int (p.2:Int)))) (q:∀S2,Gr S S2->Q (.ref S2.length) (S2++[.lst ((List.range asks).map fun a=>qD (nxt rs p a))])) :
  We (zbo (zco (zbg (zac (eOp zaj (zaa 0) (eC (.int 0))) (zae)))) [none,some 0,some 5,some 6] (zag 0) (zay) (zaf ze3 (zac (zaa 1) (zac (zaa 2) (zac (zaa 3) (zac (zaa 0) (zae))))))) l S Q:=by
 have sz:=zb6
 have ha4:=h.a4
 have ha0:zac (eOp zaj (zaa 0) (eC (.int 0))) zae l S=some ([.int (asks:Int)],S):=by
  unfold zac eOp zaa;rw [h0];rfl
 refine zgq (zav 0 asks) (qF rs p) (fun T=>Gr S T) (fun l=>∃x0,l=[x0,some (mD asks rs),some (.int (p.1:Int)),some (.int (p.2:Int))]) (zh6 ha0 (by omega)) (Gr.refl S) ?_ (fun i T _=>rfl) (by rw [zda];omega) ?_ ?_
 ·refine ⟨none,?_⟩
  unfold za3
  simp only [List.map_cons,List.map_nil,h0,h5,h6]
  rfl
 ·rintro x l T hx ⟨x0,rfl⟩ hT
  obtain ⟨a,ha,rfl⟩:=zjz hx
  simp only [za0,qs0]
  refine ⟨hT,⟨_,rfl⟩,?_⟩
  simp_all! only [zap]
  refine ⟨_,_,ydj h hp.1 hp.2 ha,?_,hT⟩
  rfl
 ·intro T hT
  rw [zg1]
  exact q T hT
noncomputable def zd8 (kvs:Tb) (x:D):Option D:=(zcp x).bind fun k=>if (zaq kvs k).isSome=true then some x else none
noncomputable def rnd (asks:Nat) (rs:List (List Cl)) (kvs:Tb) (p:BF.P):Bool:=(zaq kvs (pK p)).isNone && (List.range asks).any fun a=>((nxt rs p a).map fun q=>(zaq kvs (pK q)).isSome).getD false
theorem ydp (p:BF.P):zdl (pD p)=false:=rfl
theorem ydq {asks:Nat}{rs:List (List Cl)}{p:BF.P}{S:Sto}{l:Lo}{n3 n9:Nat}{kvs:Tb}{Q:D->Sto->Prop}(ha4:asks<=4) (h3:l[3]? = some (some (.ref n3))) (h9:l[9]? = some (some (.ref n9))) (s3:S[n3]? = some (.tdct kvs)) (s9:S[n9]? = some (.lst ((List.range asks).map fun a=>qD (nxt rs p a))))
  (q:∀S2,Gr S S2->Q (.ref S2.length) (S2++[.lst (((List.range asks).map fun a=>qD (nxt rs p a)).filterMap (zd8 kvs))])) :
  We (zbo (zcn (zaa 9)) [none,some 3] (zag 0) (zck (tE (eOp zcy (zaa 0) (eC .non))) (tE (eOp (zct false) (zaa 0) (zaa 1)))) (zaa 0)) l S Q:=by
 have sz:=zb6
 have he:zaa 9 l S=some (.ref n9,S):=by unfold zaa;rw [h9]
 refine zmj ((List.range asks).map fun a=>qD (nxt rs p a)) (zd8 kvs) (fun T=>Gr S T) (fun l=>∃x0,l=[x0,some (.ref n3)]) (zmk he (zcg s9)) (Gr.refl S) ?_ (fun i T hT=>zml (zcg (hT.get s9))) (by simp;omega) ?_ (fun T hT=>q T hT)
 ·refine ⟨none,?_⟩
  unfold za3
  simp only [List.map_cons,List.map_nil,h3]
  rfl
 ·rintro x l T hx ⟨x0,rfl⟩ hT
  obtain ⟨a,ha,rfl⟩:=List.mem_map.mp hx
  simp only [za0,qs0]
  refine ⟨⟨_,rfl⟩,?_⟩
  cases hn:nxt rs p a with
  | none =>
   simp_all! only [qD,zdl,Bool.not_true,Bool.false_eq_true,if_false]
   exact ⟨hT,fun _=>rfl,fun z=>by cases z⟩
  | some r =>
   have hrd:=zjt (hT.get s3) (zde r)
   simp_all! only [qD,ydp,Bool.not_false,if_true,zfs,hrd,Bool.false_eq_true,if_false]
   have hmf:zd8 kvs (pD r)=if (zaq kvs (pK r)).isSome=true then some (pD r) else none:=by unfold zd8;rw [zde];rfl
   rw [hmf]
   refine ⟨hT,fun z=>?_,fun z=>?_⟩
   ·rw [if_neg (by rw [z];exact Bool.false_ne_true)]
   ·rw [if_pos z];exact ⟨(by first|rfl|trivial),hT⟩
theorem zsf {asks:Nat}{rs:List (List Cl)}{kvs:Tb}{p:BF.P}{n:Nat}(h:OkM asks rs) (hp:p.1<rs.length/\p.2<rs.length) (hn:1<=n) (f:Fd asks rs kvs (n+1)):rnd asks rs kvs p=true↔Di asks rs p (n+1):=by
 unfold rnd Di
 rw [BF.Ds.round hn,Bool.and_eq_true]
 have e1:(zaq kvs (pK p)).isNone=true↔¬∃m,m<=n/\BF.Ds asks (nxt rs) (fl rs) p m:=by
  have:=f.some hp
  cases c:zaq kvs (pK p) with
  | none =>
   rw [c] at this
   refine ⟨fun _ ⟨m,hm,d⟩=>?_,fun _=>rfl⟩
   have:=this.mpr ⟨m,by omega,d⟩
   cases this
  | some v =>
   rw [c] at this
   obtain ⟨m,hm,d⟩:=this.mp rfl
   exact ⟨fun z=>(by cases z),fun z=>absurd ⟨m,by omega,d⟩ z⟩
 have e2:((List.range asks).any fun a=>((nxt rs p a).map fun q=>(zaq kvs (pK q)).isSome).getD false)=true↔∃a q m,a<asks/\nxt rs p a=some q/\m<=n/\BF.Ds asks (nxt rs) (fl rs) q m:=by
  rw [List.any_eq_true]
  constructor
  ·rintro ⟨a,ha,e⟩
   have ha:=List.mem_range.mp ha
   cases c:nxt rs p a with
   | none=>rw [c] at e;cases e
   | some q =>
    rw [c] at e
    obtain ⟨m,hm,d⟩:=(f.some (zib h hp ha c)).mp e
    exact ⟨a,q,m,ha,c,by omega,d⟩
  ·rintro ⟨a,q,m,ha,c,hm,d⟩
   refine ⟨a,List.mem_range.mpr ha,?_⟩
   rw [c]
   exact (f.some (zib h hp ha c)).mpr ⟨m,by omega,d⟩
 rw [e1,e2]
theorem ydr {asks:Nat}{rs:List (List Cl)}{kvs:Tb}{p:BF.P}:(!(((List.range asks).map fun a=>qD (nxt rs p a)).filterMap (zd8 kvs)).isEmpty)=(List.range asks).any fun a=>((nxt rs p a).map fun q=>(zaq kvs (pK q)).isSome).getD false:=by
 induction List.range asks with
 | nil=>rfl
 | cons a r ih =>
  rw [List.map_cons,List.any_cons]
  cases c:nxt rs p a with
  | none =>
   rw [List.filterMap_cons_none (by rfl),ih];rfl
  | some q =>
   have hmf:zd8 kvs (pD q)=if (zaq kvs (pK q)).isSome=true then some (pD q) else none:=by unfold zd8;rw [zde];rfl
   by_cases hs:(zaq kvs (pK q)).isSome=true
   ·rw [List.filterMap_cons_some (b:=pD q) (by show zd8 kvs (pD q)=_;rw [hmf,if_pos hs])]
    show true=((zaq kvs (pK q)).isSome || _)
    rw [hs];rfl
   ·rw [List.filterMap_cons_none (by show zd8 kvs (pD q)=_;rw [hmf,if_neg hs]),ih]
    show _=((zaq kvs (pK q)).isSome || _)
    have:(zaq kvs (pK q)).isSome=false:=by simpa using hs
    rw [this];rfl
noncomputable def alF (N:Int):D->D
 | .int k=>.tup [.int (k / N),.int (k % N)]
 | _=>.non
theorem yds (N:Nat):(zav 0 (N*N)).map (alF (N:Int))=(zbh N).map pD:=by
 rw [zg1]
 unfold zbh
 rw [List.map_map]
 apply List.map_congr_left
 intro k _
 rfl
theorem zj0 {f:BF.P->Bool}{l:List BF.P}{i:Nat}{p:BF.P}(h:l[i]? = some p):(l.take (i+1)).filter f=(l.take i).filter f++if f p=true then [p] else []:=by
 rw [List.take_add_one,h,List.filter_append]
 congr 1
 show [p].filter f=_
 rw [List.filter_cons]
 split <;> rfl
noncomputable def Hs (asks:Nat) (rs:List (List Cl)) (hs:List BF.P) (n:Nat):Prop:=∀p,p∈hs↔(p.1<rs.length/\p.2<rs.length)/\Di asks rs p n
structure FarOk (asks:Nat) (rs:List (List Cl)) (kvs:Tb):Prop where
 yes:∀p m,p.1<rs.length/\p.2<rs.length->Di asks rs p m->zaq kvs (pK p)=some (.int (m:Int))/\m<1000
 no:∀p,p.1<rs.length/\p.2<rs.length->(∀m,¬Di asks rs p m)->zaq kvs (pK p)=none
theorem ydt {asks:Nat}{rs:List (List Cl)}{S:Sto}(h:OkM asks rs) :
  Wo (zgv [mD asks rs] S) fun v S'=>Gr S S'/\∃n kvs,v=.ref n/\S'[n]? = some (.tdct kvs)/\FarOk asks rs kvs/\S.length<=n/\∃ks,Ks rs.length kvs ks:=by
 have sz:=zb6
 have hr1:=h.r1
 have hr24:=h.r24
 have hNN:rs.length*rs.length<=24*24:=Nat.mul_le_mul hr24 hr24
 unfold zgv zru
 simp only [zb2,List.map_cons,List.map_nil,List.length_cons,List.length_nil,Nat.reduceAdd,Nat.reduceSub,List.replicate,List.cons_append,List.nil_append]
 generalize hM:mD asks rs=dM
 refine zaw (l':=[some dM,some (.int (rs.length:Int)),none,none,none,none,none,none,none,none,none]) (S':=S) ?_ ?_
 ·rw [←hM]
  simp! only [mD,List.length_map]
  all_goals first|trivial|exact ⟨(by first|rfl|trivial),(by first|rfl|trivial),(by first|rfl|trivial)⟩
 refine zaw (l':=[some dM,some (.int (rs.length:Int)),some (.ref S.length),none,none,none,none,none,none,none,none]) (S':=S++[.lst ((zbh rs.length).map pD)]) ?_ ?_
 ·rw [zby]
  have hsq:(rs.length:Int)*(rs.length:Int)=((rs.length*rs.length:Nat):Int):=by simp
  have ha0:zac (eOp zdr (zaa 1) (zaa 1)) zae [some dM,some (.int (rs.length:Int)),none,none,none,none,none,none,none,none,none] S=some ([.int ((rs.length*rs.length:Nat):Int)],S):=by
   have:Wa (zac (eOp zdr (zaa 1) (zaa 1)) zae) [some dM,some (.int (rs.length:Int)),none,none,none,none,none,none,none,none,none] S fun xs S'=>xs=[.int ((rs.length*rs.length:Nat):Int)]/\S' = S:=by
    have f1:(-(2 ^ 64)<(rs.length:Int)/\(rs.length:Int)<2 ^ 64):=by omega
    simp_all! only [f1,true_or,true_and,hsq]
    all_goals first|trivial|exact ⟨(by first|rfl|trivial),(by first|rfl|trivial)⟩
   obtain ⟨xs,S',e,rfl,rfl⟩:=this
   exact e
  refine zgq (zav 0 (rs.length*rs.length)) (alF (rs.length:Int)) (fun T=>T=S) (fun l=>∃x0,l=[x0,some (.int (rs.length:Int))]) (zh6 ha0 (by omega)) rfl ⟨none,rfl⟩ (fun i T _=>rfl) (by rw [zda];omega) ?_ ?_
  ·rintro x l T hx ⟨x0,rfl⟩ hT
   obtain ⟨a,ha,rfl⟩:=zjz hx
   simp only [za0,qs0]
   refine ⟨hT,⟨_,rfl⟩,?_⟩
   have f1:(0:Int)<(rs.length:Int)/\(rs.length:Int)<1073741824:=by omega
   have f2:(0:Int)<(rs.length:Int):=by omega
   have sz2:2<=sizeLine:=by omega
   simp_all! only [f1,f2,sz2,true_and,and_self]
   first|exact ⟨(by first|rfl|trivial),hT⟩|exact ⟨hT⟩
  ·rintro T rfl
   rw [yds]
   simp_all! only [zap]
   all_goals first|trivial|exact ⟨(by first|rfl|trivial),(by first|rfl|trivial),(by first|rfl|trivial)⟩
 refine zaw (l':=[some dM,some (.int (rs.length:Int)),some (.ref S.length),some (.ref (S.length+1)),none,none,none,none,none,none,none]) (S':=S++[.lst ((zbh rs.length).map pD)]++[.tdct []]) ?_ ?_
 ·simp! only [List.length_append]
  all_goals first|trivial|exact ⟨(by first|rfl|trivial),(by first|rfl|trivial),(by first|rfl|trivial)⟩
 refine zaw (l':=[some dM,some (.int (rs.length:Int)),some (.ref S.length),some (.ref (S.length+1)),some (.ref (S.length+2)),none,none,none,none,none,none]) (S':=S++[.lst ((zbh rs.length).map pD)]++[.tdct []]++[.lst []]) ?_ ?_
 ·simp! only [List.length_append]
  exact ⟨by omega,(by first|rfl|trivial),(by first|rfl|trivial),(by first|rfl|trivial)⟩
 have f0:Fst rs S (S++[.lst ((zbh rs.length).map pD)]++[.tdct []]++[.lst []]) (S.length+2) [] []:=by
  refine ⟨((Gr.refl S).push _).push _ |>.push _,zb3 (zb3 zbz),?_,?_,Nat.le_refl _⟩
  ·exact zb3 (by have:=@zbz (S++[Ob.lst ((zbh rs.length).map pD)]) (.tdct []);rw [List.length_append] at this;exact this)
  ·have:=@zbz (S++[Ob.lst ((zbh rs.length).map pD)]++[Ob.tdct []]) (.lst []);rw [List.length_append,List.length_append] at this;exact this
 generalize S++[.lst ((zbh rs.length).map pD)]++[.tdct []]++[.lst []]=S2 at f0
 refine za1 (fun l S3=>∃x5 x6 hs,l=[some dM,some (.int (rs.length:Int)),some (.ref S.length),some (.ref (S.length+1)),some (.ref (S.length+2)),x5,x6,none,none,none,none]/\Fst rs S S3 (S.length+2) [] hs/\Hs asks rs hs 1) ?_ ?_
 ·refine zh8 ((zbh rs.length).map pD) (fun i l S3=>∃x5 x6,l=[some dM,some (.int (rs.length:Int)),some (.ref S.length),some (.ref (S.length+1)),some (.ref (S.length+2)),x5,x6,none,none,none,none]/\Fst rs S S3 (S.length+2) [] (((zbh rs.length).take i).filter (f1 asks rs))) (fun _ _=>False) (n:=S.length) (S:=S2) rfl ⟨none,none,rfl,by simpa using f0⟩ (fun i l S3 ⟨_,_,_,f⟩=>zcg f.s2) ?_ ?_ (fun d l' S' z=>z.elim)
  ·rintro i x l S3 hx ⟨x5,x6,rfl,f⟩
   rw [List.getElem?_map] at hx
   cases hp:(zbh rs.length)[i]? with
   | none=>rw [hp] at hx;cases hx
   | some p =>
    rw [hp] at hx
    cases hx
    have hpi:=mem_allP.mp (List.mem_of_getElem? hp)
    unfold pD
    simp only [zew,zey,zex,za0,List.length_cons,List.length_nil,qs0,qs1,Nat.reduceAdd,true_and]
    refine zc3 (fun b S4=>b=f1 asks rs p/\Gr S3 S4) (ydn h hpi (by rw [←hM];rfl) rfl rfl fun S4 g=>⟨rfl,g⟩) ?_ ?_
    ·rintro S4 ⟨hb,g⟩
     have f':=f.grow g
     have hsz2:2<=sizeLine:=by omega
     have hln:((((zbh rs.length).take i).filter (f1 asks rs)).map pD).length<sizeLine:=by
      rw [List.length_map]
      have:=List.length_filter_le (f1 asks rs) ((zbh rs.length).take i)
      have h2:((zbh rs.length).take i).length<=(zbh rs.length).length:=by rw [List.length_take];omega
      have h3:(zbh rs.length).length=rs.length*rs.length:=by simp [zbh]
      omega
     rw [zc9,zc1]
     simp_all! only [zdv f'.s4,zfy,hsz2,true_and]
     rw [zem f'.s4 hln]
     refine .inl ⟨.inl (by first|rfl|trivial),_,_,rfl,?_⟩
     refine ⟨f'.g.set (by omega) _,zbc f'.s2 (by omega),zbc f'.s3 (by omega),?_,f'.h4⟩
     rw [zj0 hp,if_pos hb.symm,List.map_append]
     exact zcj f'.s4
    ·rintro S4 ⟨hb,g⟩
     simp_all! only [zc8]
     refine .inl ⟨.inl (by first|rfl|trivial),_,_,rfl,?_⟩
     rw [zj0 hp,if_neg (by rw [←hb];exact Bool.false_ne_true),List.append_nil]
     exact f.grow g
  ·rintro l' S' ⟨x5,x6,rfl,f⟩
   rw [List.length_map,List.take_length] at f
   refine ⟨rfl,x5,x6,_,rfl,f,fun p=>?_⟩
   rw [List.mem_filter,mem_allP,f1_iff]
 rintro l S3 ⟨x5,x6,hs,rfl,f,hh⟩
 refine zaw (l':=[some dM,some (.int (rs.length:Int)),some (.ref S.length),some (.ref (S.length+1)),some (.ref (S.length+2)),x5,x6,some (.int ((1:Nat):Int)),none,none,none]) (S':=S3) ?_ ?_
 ·simp! only [zap]
  all_goals first|trivial|exact ⟨(by first|rfl|trivial),(by first|rfl|trivial),(by first|rfl|trivial)⟩
 have fd0:Fd asks rs [] 1:=⟨fun p m hp hm d=>by
  have:m=0:=by omega
  subst this;exact absurd d.1 BF.Fn.zero,fun p hp _=>rfl⟩
 have ks0:Ks rs.length [] []:=⟨rfl,by simp,fun p hp=>by simp at hp⟩
 refine za1 (fun l S5=>∃kvs n n4 y5 y6 y8 y9 y10,l=[some dM,some (.int (rs.length:Int)),some (.ref S.length),some (.ref (S.length+1)),some (.ref n4),y5,y6,some (.int ((n:Nat):Int)),y8,y9,y10]/\S5[S.length+1]? = some (.tdct kvs)/\Gr S S5/\1<=n/\n<=600/\Fd asks rs kvs n/\Hs asks rs [] n/\∃ks,Ks rs.length kvs ks) ?_ ?_
 ·refine zmt (fun m l S5=>∃kvs ks hs,∃n n4:Nat,∃y5 y6 y8 y9 y10,l=[some dM,some (.int (rs.length:Int)),some (.ref S.length),some (.ref (S.length+1)),some (.ref n4),y5,y6,some (.int (n:Int)),y8,y9,y10]/\Fst rs S S5 n4 kvs hs/\Ks rs.length kvs ks/\1<=n/\n<=ks.length+1/\Fd asks rs kvs n/\Hs asks rs hs n/\m+n=700) (fun _ _=>False) (fun l S5=>∃kvs,∃n n4:Nat,∃y5 y6 y8 y9 y10,l=[some dM,some (.int (rs.length:Int)),some (.ref S.length),some (.ref (S.length+1)),some (.ref n4),y5,y6,some (.int (n:Int)),y8,y9,y10]/\S5[S.length+1]? = some (.tdct kvs)/\Gr S S5/\1<=n/\n<=600/\Fd asks rs kvs n/\Hs asks rs [] n/\∃ks,Ks rs.length kvs ks) 699 (by decide) ⟨[],[],hs,1,S.length+2,x5,x6,none,none,none,rfl,f,ks0,Nat.le_refl _,by simp,fd0,hh,rfl⟩ ?_ (fun l' S' ⟨kvs,n,n4,y5,y6,y8,y9,y10,e⟩=>⟨rfl,kvs,n,n4,y5,y6,y8,y9,y10,e⟩) (fun d l' S' z=>z.elim)
  rintro m l S5 ⟨kvs,ks,hs,n,n4,y5,y6,y8,y9,y10,rfl,f,hk,hn1,hnk,fd,hh,hmn⟩
  have hks:=BF.few2 ks hk.nd hk.inn
  have sz0:0<=sizeLine:=Nat.zero_le _
  simp_all! only [sz0,true_and]
  rw [zmi (zb3 f.s4) zbz]
  refine ⟨_,rfl,?_⟩
  have fg:=f.grow ((Gr.refl S5).push (.lst []))
  generalize S5++[.lst []]=S6 at fg
  cases hs with
  | nil =>
   rw [if_neg (by simp)]
   exact ⟨kvs,n,n4,y5,y6,y8,y9,y10,rfl,fg.s3,fg.g,hn1,by omega,fd,hh,ks,hk⟩
  | cons h0 ht =>
   rw [if_pos (by simp)]
   have hin:∀p∈h0 :: ht,(p.1<rs.length/\p.2<rs.length)/\Di asks rs p n:=fun p hp=>(hh p).mp hp
   have hnew:∀p∈h0 :: ht,zaq kvs (pK p)=none:=fun p hp=>fd.no p (hin p hp).1 fun k hk d=>by
    have:=d.uniq (hin p hp).2;omega
   refine za1 (fun l S7=>∃kvs' ks' z8,l=[some dM,some (.int (rs.length:Int)),some (.ref S.length),some (.ref (S.length+1)),some (.ref n4),y5,y6,some (.int (n:Int)),z8,y9,y10]/\Fst rs S S7 n4 kvs' (h0 :: ht)/\Ks rs.length kvs' ks'/\ks.length+1<=ks'.length/\Fd asks rs kvs' (n+1)) ?_ ?_
   ·refine zh8 ((h0 :: ht).map pD) (fun i l S7=>∃kvs' ks' z8,l=[some dM,some (.int (rs.length:Int)),some (.ref S.length),some (.ref (S.length+1)),some (.ref n4),y5,y6,some (.int (n:Int)),z8,y9,y10]/\Fst rs S S7 n4 kvs' (h0 :: ht)/\Ks rs.length kvs' ks'/\ks.length<=ks'.length/\(1<=i->ks.length+1<=ks'.length)/\(i=0->ks' = ks)/\∀p,zaq kvs' (pK p)=if p∈(h0 :: ht).take i then some (.int (n:Int)) else zaq kvs (pK p)) (fun _ _=>False) (n:=n4) (S:=S6) rfl ⟨kvs,ks,y8,rfl,fg,hk,Nat.le_refl _,fun z=>by omega,fun _=>rfl,fun p=>by simp⟩ (fun i l S7 ⟨_,_,_,_,f,_⟩=>zcg f.s4) ?_ ?_ (fun d l' S' z=>z.elim)
    ·rintro i x l S7 hx ⟨kvs',ks',z8,rfl,f7,hk7,hle,hlt,hz,hget⟩
     rw [List.getElem?_map] at hx
     cases hp:(h0 :: ht)[i]? with
     | none=>rw [hp] at hx;cases hx
     | some p =>
      rw [hp] at hx
      cases hx
      have hpm:=List.mem_of_getElem? hp
      have hks7:=BF.few2 ks' hk7.nd hk7.inn
      obtain ⟨ks2,hk2,hl2,hn2,hm2⟩:=hk7.put (hin p hpm).1 (.int (n:Int))
      simp! only [zap]
      refine ⟨_,zre f7.s3 (zde p) (by rw [hk7.len];omega),.inl ⟨.inl (by first|rfl|trivial),_,ks2,_,rfl,?_,hk2,by omega,fun _=>?_,fun z=>by omega,fun q=>?_⟩⟩
      ·have:=f7.h4
       exact ⟨f7.g.set (by omega) _,zbc f7.s2 (by omega),zcj f7.s3,zbc f7.s4 (by omega),f7.h4⟩
      ·rcases Nat.eq_zero_or_pos i with e|e
       ·have e2:=hz e
        subst e2
        have:p ∉ ks':=fun hm=>by
         have h1:=hk.get p
         rw [hnew p hpm,decide_eq_true hm] at h1
         cases h1
        exact hn2 this
       ·have:=hlt e
        omega
      ·rw [zjy,hget]
       have et:(h0 :: ht).take (i+1)=(h0 :: ht).take i++[p]:=by rw [List.take_add_one,hp];rfl
       rw [et]
       by_cases c:q=p
       ·subst c
        rw [if_pos rfl,if_pos (by simp)]
       ·rw [if_neg (fun z=>c (zg0 z))]
        by_cases c2:q∈(h0 :: ht).take i
        ·rw [if_pos c2,if_pos (List.mem_append_left _ c2)]
        ·rw [if_neg c2,if_neg (fun z=>by
          rcases List.mem_append.mp z with z|z
          ·exact c2 z
          ·exact c (by simpa using z))]
    ·rintro l' S' ⟨kvs',ks',z8,rfl,f7,hk7,hle,hlt,hz,hget⟩
     rw [List.length_map] at hlt hget
     rw [List.take_length] at hget
     refine ⟨rfl,kvs',ks',z8,rfl,f7,hk7,hlt (by simp),?_⟩
     refine ⟨fun p k hp hkn d=>?_,fun p hp hno=>?_⟩
     ·rw [hget]
      by_cases c:p∈h0 :: ht
      ·rw [if_pos c,d.uniq (hin p c).2]
      ·rw [if_neg c]
       have:k≠n:=fun e=>by subst e;exact c ((hh p).mpr ⟨hp,d⟩)
       exact fd.yes p k hp (by omega) d
     ·rw [hget,if_neg (fun c=>hno n (by omega) (hin p c).2)]
      exact fd.no p hp fun k hk=>hno k (by omega)
   rintro l S7 ⟨kvs',ks',z8,rfl,f7,hk7,hle7,fd7⟩
   have hks7:=BF.few2 ks' hk7.nd hk7.inn
   refine zaw (l':=[some dM,some (.int (rs.length:Int)),some (.ref S.length),some (.ref (S.length+1)),some (.ref n4),y5,y6,some (.int ((n+1:Nat):Int)),z8,y9,y10]) (S':=S7) ?_ ?_
   ·simp! only [zap]
    all_goals first|trivial|exact ⟨(by first|rfl|trivial),(by first|rfl|trivial),(by first|rfl|trivial)⟩
   refine zaw (l':=[some dM,some (.int (rs.length:Int)),some (.ref S.length),some (.ref (S.length+1)),some (.ref S7.length),y5,y6,some (.int ((n+1:Nat):Int)),z8,y9,y10]) (S':=S7++[.lst []]) ?_ ?_
   ·simp! only [sz0,true_and]
    all_goals first|trivial|exact ⟨(by first|rfl|trivial),(by first|rfl|trivial),(by first|rfl|trivial)⟩
   have hl8:S.length+2<=S7.length:=by
    have:=(qlt f7.s3)
    omega
   have f9:Fst rs S (S7++[.lst []]) S7.length kvs' []:=by
    have g:=f7.grow ((Gr.refl S7).push (.lst []))
    exact ⟨g.g,g.s2,g.s3,zbz,hl8⟩
   generalize hS9:S7++[.lst []]=S9 at f9
   generalize S7.length=n5 at f9 hl8
   refine zh8 ((zbh rs.length).map pD) (fun i l S10=>∃w5 w6 w9 w10,l=[some dM,some (.int (rs.length:Int)),some (.ref S.length),some (.ref (S.length+1)),some (.ref n5),w5,w6,some (.int ((n+1:Nat):Int)),z8,w9,w10]/\Fst rs S S10 n5 kvs' (((zbh rs.length).take i).filter (rnd asks rs kvs'))) (fun _ _=>False) (n:=S.length) (S:=S9) rfl ⟨y5,y6,y9,y10,rfl,by simpa using f9⟩ (fun i l S10 ⟨_,_,_,_,_,f⟩=>zcg f.s2) ?_ ?_ (fun d l' S' z=>z.elim)
   ·rintro i x l S10 hx ⟨w5,w6,w9,w10,rfl,f10⟩
    rw [List.getElem?_map] at hx
    cases hp:(zbh rs.length)[i]? with
    | none=>rw [hp] at hx;cases hx
    | some p =>
     rw [hp] at hx
     cases hx
     have hpi:=mem_allP.mp (List.mem_of_getElem? hp)
     rw [show pD p=.tup [.int (p.1:Int),.int (p.2:Int)] from rfl]
     simp only [zew,zey,zex,za0,List.length_cons,List.length_nil,qs0,qs1,Nat.reduceAdd,true_and]
     refine za1 (fun l S11=>∃n9,l=[some dM,some (.int (rs.length:Int)),some (.ref S.length),some (.ref (S.length+1)),some (.ref n5),some (.int (p.1:Int)),some (.int (p.2:Int)),some (.int ((n+1:Nat):Int)),z8,some (.ref n9),w10]/\Gr S10 S11/\S11[n9]? = some (.lst ((List.range asks).map fun a=>qD (nxt rs p a)))) ?_ ?_
     ·rw [zby]
      refine ydo h hpi (by rw [←hM];rfl) rfl rfl fun S11 g=>?_
      simp only [za0,qs0,qs1]
      first|exact ⟨(by first|rfl|trivial),_,rfl,g.push _,zbz⟩|exact ⟨_,rfl,g.push _,zbz⟩
     rintro l S11 ⟨n9,rfl,g11,s9⟩
     have f11:=f10.grow g11
     refine za1 (fun l S12=>∃n10,l=[some dM,some (.int (rs.length:Int)),some (.ref S.length),some (.ref (S.length+1)),some (.ref n5),some (.int (p.1:Int)),some (.int (p.2:Int)),some (.int ((n+1:Nat):Int)),z8,some (.ref n9),some (.ref n10)]/\Gr S11 S12/\S12[n10]? = some (.lst (((List.range asks).map fun a=>qD (nxt rs p a)).filterMap (zd8 kvs')))) ?_ ?_
     ·rw [zby]
      refine ydq h.a4 rfl rfl f11.s3 s9 fun S12 g=>?_
      simp only [za0,qs0,qs1]
      first|exact ⟨(by first|rfl|trivial),_,rfl,g.push _,zbz⟩|exact ⟨_,rfl,g.push _,zbz⟩
     rintro l S12 ⟨n10,rfl,g12,s10⟩
     have f12:=f11.grow g12
     have hrd:=zjt f12.s3 (zde p)
     rw [show pD p=.tup [.int (p.1:Int),.int (p.2:Int)] from rfl] at hrd
     have sz2:2<=sizeLine:=by omega
     refine zc3 (fun b S13=>b=rnd asks rs kvs' p/\Gr S12 S13) ?_ ?_ ?_
     ·simp_all! only [sz2,true_and,zfs,hrd,if_true]
      unfold rnd
      cases c:zaq kvs' (pK p) with
      | some v =>
       simp only [Option.isSome_some,Bool.not_true,Bool.false_eq_true,if_false]
       first|exact ⟨(by first|rfl|trivial),Gr.refl _⟩|exact ⟨Gr.refl _⟩
      | none =>
       simp_all! only [Option.isSome_none,Bool.not_false,if_true,sz0,true_and]
       rw [zmi (zb3 s10) zbz]
       refine ⟨_,rfl,?_,(Gr.refl _).push _⟩
       rw [ydr];rfl
     ·rintro S13 ⟨hb,g13⟩
      have f13:=f12.grow g13
      have hln:((((zbh rs.length).take i).filter (rnd asks rs kvs')).map pD).length<sizeLine:=by
       rw [List.length_map]
       have:=List.length_filter_le (rnd asks rs kvs') ((zbh rs.length).take i)
       have h2:((zbh rs.length).take i).length<=(zbh rs.length).length:=by rw [List.length_take];omega
       have h3:(zbh rs.length).length=rs.length*rs.length:=by simp [zbh]
       omega
      rw [zc9,zc1]
      simp_all! only [zdv f13.s4,zfy,sz2,true_and]
      rw [zem f13.s4 hln]
      refine .inl ⟨.inl (by first|rfl|trivial),_,_,_,_,rfl,?_⟩
      refine ⟨f13.g.set (by omega) _,zbc f13.s2 (by omega),zbc f13.s3 (by omega),?_,f13.h4⟩
      rw [zj0 hp,if_pos hb.symm,List.map_append]
      exact zcj f13.s4
     ·rintro S13 ⟨hb,g13⟩
      simp_all! only [zc8]
      refine .inl ⟨.inl (by first|rfl|trivial),_,_,_,_,rfl,?_⟩
      rw [zj0 hp,if_neg (by rw [←hb];exact Bool.false_ne_true),List.append_nil]
      exact f12.grow g13
   ·rintro l' S' ⟨w5,w6,w9,w10,rfl,f10⟩
    rw [List.length_map,List.take_length] at f10
    refine .inl ⟨.inl rfl,m-1,by omega,kvs',ks',_,n+1,n5,w5,w6,z8,w9,w10,rfl,f10,hk7,by omega,by omega,fd7,fun p=>?_,by omega⟩
    rw [List.mem_filter,mem_allP]
    constructor
    ·rintro ⟨h1,h2⟩;exact ⟨h1,(zsf h h1 hn1 fd7).mp h2⟩
    ·rintro ⟨h1,h2⟩;exact ⟨h1,(zsf h h1 hn1 fd7).mpr h2⟩
 ·rintro l S5 ⟨kvs,n,n4,y5,y6,y8,y9,y10,rfl,h3,g,hn1,hn6,fd,hn0,ks,hks⟩
  simp! only [zap]
  have stop:=Di.stop h hn1 (fun p hp d=>by have:=(hn0 p).mpr ⟨hp,d⟩;cases this)
  refine ⟨g,_,kvs,rfl,h3,⟨fun p m hp d=>?_,fun p hp hno=>fd.no p hp fun m hm=>hno m⟩,by omega,ks,hks⟩
  rcases Nat.lt_or_ge m n with c|c
  ·exact ⟨fd.yes p m hp c d,by omega⟩
  ·have:=stop (m-n) p hp
   rw [show n+(m-n)=m by omega] at this
   exact absurd d this
noncomputable def Pt (asks:Nat) (rs:List (List Cl)) (p:BF.P):Prop:=∃w,BF.Fails asks (nxt rs) (fl rs) p w
theorem pt_iff {asks:Nat}{rs:List (List Cl)}{p:BF.P}:Pt asks rs p↔∃n,Di asks rs p n:=by
 constructor
 ·rintro ⟨w,h⟩
  obtain ⟨m,_,d⟩:=BF.Ds.of ⟨w,h,rfl⟩
  exact ⟨m,d⟩
 ·rintro ⟨n,⟨w,h,_⟩,_⟩
  exact ⟨w,h⟩
noncomputable def swp (p:BF.P):BF.P:=(p.2,p.1)
theorem ydu (x y:Option Nat):unl x y=unl y x:=by
 cases x <;> cases y <;> simp [unl]
 rename_i a b
 by_cases e:a=b
 ·subst e;simp
 ·have:¬b=a:=fun z=>e z.symm
  simp [e,this]
theorem ydv (rs:List (List Cl)) (p:BF.P) (a:Nat):fl rs (swp p) a=fl rs p a:=ydu _ _
theorem ydw (rs:List (List Cl)) (p:BF.P) (a:Nat):nxt rs (swp p) a=(nxt rs p a).map swp:=by
 unfold nxt both swp
 cases (cell rs p.1 a).1 <;> cases (cell rs p.2 a).1 <;> rfl
theorem zmx {asks:Nat}{rs:List (List Cl)}:∀{w:List Nat}{p:BF.P},BF.Fails asks (nxt rs) (fl rs) p w->BF.Fails asks (nxt rs) (fl rs) (swp p) w
 | [],p,h=>absurd h BF.fails_ne
 | a :: w,p,h=>by
  rcases BF.fails_inv h with ⟨e,ha,hf⟩|⟨q,ha,hs,hq⟩
  ·subst e
   exact ⟨[],a,swp p,rfl,ha,(fun b hb=>by cases hb),rfl,by rw [ydv];exact hf⟩
  ·exact BF.fails_cons ha (by rw [ydw,hs];rfl) (zmx hq)
theorem zsg {asks:Nat}{rs:List (List Cl)}:∀{w:List Nat}{i:Nat},¬BF.Fails asks (nxt rs) (fl rs) (i,i) w
 | [],i,h=>BF.fails_ne h
 | a :: w,i,h=>by
  rcases BF.fails_inv h with ⟨e,ha,hf⟩|⟨q,ha,hs,hq⟩
  ·have:fl rs (i,i) a=false:=by
    unfold fl unl
    cases (cell rs (i,i).1 a).2 <;> simp
   rw [this] at hf;cases hf
  ·unfold nxt both at hs
   cases e:(cell rs i a).1 with
   | none=>simp only [e] at hs;cases hs
   | some g=>simp only [e] at hs;cases hs;exact zsg hq
noncomputable def srt (p:BF.P):BF.P:=if p.2<p.1 then (p.2,p.1) else p
noncomputable def InP (rs:List (List Cl)) (p:BF.P):Prop:=p.1<p.2/\p.2<rs.length
theorem InP.both {rs:List (List Cl)}{p:BF.P}(h:InP rs p):p.1<rs.length/\p.2<rs.length:=⟨Nat.lt_trans h.1 h.2,h.2⟩
theorem ydx {asks:Nat}{rs:List (List Cl)}{w:List Nat}{p:BF.P}(h:BF.Fails asks (nxt rs) (fl rs) p w):BF.Fails asks (nxt rs) (fl rs) (srt p) w:=by
 unfold srt;split
 ·exact zmx h
 ·exact h
theorem ydy {asks:Nat}{rs:List (List Cl)}{w:List Nat}{p:BF.P}(h:BF.Fails asks (nxt rs) (fl rs) (srt p) w):BF.Fails asks (nxt rs) (fl rs) p w:=by
 unfold srt at h;split at h
 ·exact zmx h
 ·exact h
theorem ydz {asks:Nat}{rs:List (List Cl)}{w:List Nat}{p:BF.P}(h:BF.Fails asks (nxt rs) (fl rs) p w) (hp:p.1<rs.length/\p.2<rs.length):InP rs (srt p):=by
 have hne:p.1≠p.2:=fun e=>by
  have:p=(p.1,p.1):=Prod.ext rfl e.symm
  rw [this] at h
  exact zsg h
 unfold srt InP;split
 ·exact ⟨by assumption,hp.1⟩
 ·exact ⟨by omega,hp.2⟩
theorem zsh {asks:Nat}{rs:List (List Cl)}(ok:OkM asks rs) (F:BF.P->Prop) (h1:∀p,InP rs p->f1 asks rs p=true->F p) (h2:∀p q a,InP rs p->a<asks->nxt rs p a=some q->F (srt q)->F p) :
  ∀(w:List Nat) (p:BF.P),InP rs p->BF.Fails asks (nxt rs) (fl rs) p w->F p
 | [],p,_,h=>absurd h BF.fails_ne
 | a :: w,p,hp,h=>by
  rcases BF.fails_inv h with ⟨e,ha,hf⟩|⟨q,ha,hs,hq⟩
  ·exact h1 p hp (f1_iff.mpr (BF.Ds.one.mpr ⟨a,ha,hf⟩))
  ·have hin:=zib ok hp.both ha hs
   exact h2 p q a hp ha hs (zsh ok F h1 h2 w (srt q) (ydz hq hin) (ydx hq))
theorem yd0 {asks:Nat}{rs:List (List Cl)}{p:BF.P}(h:f1 asks rs p=true):Pt asks rs p:=pt_iff.mpr ⟨1,f1_iff.mp h⟩
theorem yd1 {asks:Nat}{rs:List (List Cl)}{p q:BF.P}{a:Nat}(ha:a<asks) (hs:nxt rs p a=some q) (h:Pt asks rs (srt q)):Pt asks rs p:=by
 obtain ⟨w,h⟩:=h
 exact ⟨a :: w,BF.fails_cons ha hs (ydy h)⟩
theorem zsi {xs:List D}{g:GM}{e:EM}(F:D->D) (L:Lo->Prop) (S:Sto) (step:∀x l,x∈xs->L l->Wg (g x l S) fun l1 S2=>S2=S/\L l1/\We e l1 S fun v S3=>v=F x/\S3=S) :
  ∀(n i:Nat) (l:Lo),n+i=xs.length->L l->∃l',zcu xs g zay e (n+1) i l S=some ((xs.drop i).map F,l',S)/\L l'
 | 0,i,l,hn,h=>by
  refine ⟨l,?_,h⟩
  unfold zcu
  rw [List.getElem?_eq_none_iff.mpr (by omega),List.drop_of_length_le (by omega)];rfl
 | n+1,i,l,hn,h=>by
  have hi:i<xs.length:=by omega
  obtain ⟨l1,S2,e1,rfl,h1,v,S3,e2,rfl,rfl⟩:=step xs[i] l (List.getElem_mem hi) h
  obtain ⟨l',e3,h3⟩:=zsi F L S3 step n (i+1) l1 (by omega) h1
  refine ⟨l',?_,h3⟩
  unfold zcu
  rw [List.getElem?_eq_getElem hi]
  show (g xs[i] l S3).bind _=_
  rw [e1]
  show (e l1 S3).bind _=_
  rw [e2]
  show (zcu xs g zay e (n+1) (i+1) l1 S3).bind _=_
  rw [e3,List.drop_eq_getElem_cons hi];rfl
noncomputable def apR (N i:Nat):List BF.P:=(List.range (N-(i+1))).map fun k=>(i,i+1+k)
noncomputable def apL (N:Nat):List BF.P:=(List.range N).flatMap (apR N)
theorem mem_ap {N:Nat}{p:BF.P}:p∈apL N↔p.1<p.2/\p.2<N:=by
 unfold apL apR
 rw [List.mem_flatMap]
 constructor
 ·rintro ⟨i,hi,h⟩
  obtain ⟨k,hk,rfl⟩:=List.mem_map.mp h
  have:=List.mem_range.mp hi
  have:=List.mem_range.mp hk
  exact ⟨by show i<i+1+k;omega,by show i+1+k<N;omega⟩
 ·rintro ⟨h1,h2⟩
  exact ⟨p.1,List.mem_range.mpr (by omega),List.mem_map.mpr ⟨p.2-(p.1+1),List.mem_range.mpr (by omega),Prod.ext rfl (by show p.1+1+(p.2-(p.1+1))=p.2;omega)⟩⟩
theorem zj1 (N:Nat):(apL N).length<=N*N:=by
 unfold apL
 rw [List.length_flatMap]
 have:∀l:List Nat,(l.map fun i=>(apR N i).length).sum<=l.length*N:=by
  intro l
  induction l with
  | nil=>simp
  | cons i l ih =>
   rw [List.map_cons,List.sum_cons,List.length_cons,Nat.succ_mul]
   have:(apR N i).length<=N:=by unfold apR;simp
   omega
 have:=this (List.range N)
 rwa [List.length_range] at this
noncomputable def yd2 (i:Nat):D->D
 | .int k=>.tup [.int (i:Int),.int k]
 | _=>.non
theorem yd3 {as:AM}{l:Lo}{S S1:Sto}{a b:Int}(h:as l S=some ([.int a,.int b],S1)) (ha:0<=a/\a<1000) (hb:0<=b/\b<1000):zf7 as l S=some ((a,(b-a).toNat),S1):=by
 unfold zf7;rw [h];show (if _ then _ else _)=_;rw [if_pos (by omega)]
theorem yd4 {N i:Nat}{S:Sto}(hi:i<N) (hN:N<=24) (x0 x1:Option D):∃l',zcu (zav ((i:Int)+1) (((N:Int)-((i:Int)+1)).toNat)) (zag 1) zay (zaf za2 (zac (zaa 0) (zac (zaa 1) (zae)))) (((N:Int)-((i:Int)+1)).toNat+1) 0 [some (.int (i:Int)),x1,some (.int (N:Int))] S=some ((apR N i).map pD,l',S)/\∃x1,l' = [some (.int (i:Int)),x1,some (.int (N:Int))]:=by
 have sz:=zb6
 have hn:((N:Int)-((i:Int)+1)).toNat=N-(i+1):=by omega
 rw [hn]
 have hl:(zav ((i:Int)+1) (N-(i+1))).length=N-(i+1):=zda ..
 obtain ⟨l',e,h⟩:=zsi (xs:=zav ((i:Int)+1) (N-(i+1))) (g:=zag 1) (e:=zaf za2 (zac (zaa 0) (zac (zaa 1) (zae)))) (yd2 i) (fun l=>∃x1,l=[some (.int (i:Int)),x1,some (.int (N:Int))]) S (by
  rintro x l hx ⟨x1,rfl⟩
  obtain ⟨j,hj⟩:=List.mem_iff_getElem?.mp hx
  obtain ⟨hj2,rfl⟩:=zi9 hj
  simp only [za0,qs0,qs1]
  refine ⟨by first|rfl|trivial,⟨_,rfl⟩,?_⟩
  simp only [zbd,zba,za7,zap,qg0,qg1,zbb,zdq,List.length_cons,List.length_nil]
  exact ⟨by omega,by first|rfl|trivial,by first|rfl|trivial⟩) (N-(i+1)) 0 [some (.int (i:Int)),x1,some (.int (N:Int))] (by rw [hl];rfl) ⟨_,rfl⟩
 refine ⟨l',?_,h⟩
 rw [e,List.drop_zero]
 congr 2
 unfold zav apR
 rw [List.map_map,List.map_map]
 refine List.map_congr_left fun k _=>?_
 show D.tup [.int (i:Int),.int ((i:Int)+1+(k:Int))]=pD (i,i+1+k)
 unfold pD
 congr 4
theorem zmy {it:ItM}{g:GM}{r:RM}{g2:GM}{e:EM}{n i:Nat}{l l1 l2:Lo}{S S1 S2 S3 S4:Sto}{x:D}{lo:Int}{m:Nat}{us zs:List D}(h1:it i S=some (some x)) (h2:g x l S=some (l1,S1)) (h3:r l1 S1=some ((lo,m),S2)) (h4:zcu (zav lo m) g2 zay e (m+1) 0 l1 S2=some (us,l2,S3)) (h5:zc2 it g zay r g2 zay e n (i+1) l2 S3=some (zs,S4)):zc2 it g zay r g2 zay e (n+1) i l S=some (us++zs,S4):=by
 rw [zc2,h1]
 show (g x l S).bind _=_
 rw [h2]
 show (r l1 S1).bind _=_
 rw [h3]
 show (zcu (zav lo m) g2 zay e (m+1) 0 l1 S2).bind _=_
 rw [h4]
 show (zc2 it g zay r g2 zay e n (i+1) l2 S3).bind _=_
 rw [h5];rfl
theorem zsj {N:Nat}{S:Sto}(hN:N<=24):∀(n i:Nat) (l:Lo),n+i=N->(∃x0 x1,l=[x0,x1,some (.int (N:Int))]) ->
  zc2 (itX (zav 0 N)) (zag 0) zay (zf7 (zac (eOp zci (zaa 0) (eC (.int 1))) (zac (zaa 2) (zae)))) (zag 1) zay (zaf za2 (zac (zaa 0) (zac (zaa 1) (zae)))) (n+1) i l S=some ((((List.range N).drop i).flatMap (apR N)).map pD,S)
 | 0,i,l,hn,h=>by
  unfold zc2
  have:(zav 0 N)[i]? = none:=List.getElem?_eq_none_iff.mpr (by rw [zda];omega)
  show (some ((zav 0 N)[i]?)).bind _=_
  rw [this,List.drop_of_length_le (by rw [List.length_range];omega)];rfl
 | n+1,i,l,hn,h=>by
  obtain ⟨x0,x1,rfl⟩:=h
  have hi:i<N:=by omega
  have e0:(zav 0 N)[i]? = some (.int (i:Int)):=by
   unfold zav;rw [List.getElem?_map,List.getElem?_range hi];show some (D.int (0+(i:Int)))=_;rw [Int.zero_add]
  obtain ⟨l',e1,y1,rfl⟩:=yd4 (S:=S) hi hN x0 x1
  have ih:=zsj hN (S:=S) n (i+1) [some (.int (i:Int)),y1,some (.int (N:Int))] (by omega) ⟨_,_,rfl⟩
  have er:zf7 (zac (eOp zci (zaa 0) (eC (.int 1))) (zac (zaa 2) (zae))) [some (.int (i:Int)),x1,some (.int (N:Int))] S=some (((i:Int)+1,((N:Int)-((i:Int)+1)).toNat),S):=yd3 (S1:=S) (a:=(i:Int)+1) (b:=(N:Int)) rfl (by omega) (by omega)
  have hd:(List.range N).drop i=i :: (List.range N).drop (i+1):=by
   rw [List.drop_eq_getElem_cons (by rw [List.length_range];exact hi)];simp
  rw [hd,List.flatMap_cons,List.map_append]
  exact zmy (x:=.int (i:Int)) (by show some ((zav 0 N)[i]?)=_;rw [e0]) rfl er e1 ih
theorem zsk {asks:Nat}{rs:List (List Cl)}{S:Sto}(h:OkM asks rs):zdd [mD asks rs] S=some (.ref S.length,S++[.lst ((apL rs.length).map pD)]):=by
 have sz:=zb6
 have r24:=h.r24
 suffices Wo (zdd [mD asks rs] S) fun v S'=>v=.ref S.length/\S' = S++[.lst ((apL rs.length).map pD)] by
  obtain ⟨v,S',e,rfl,rfl⟩:=this
  exact e
 unfold zdd zrn
 simp only [zb2,List.map_cons,List.map_nil,List.length_cons,List.length_nil,Nat.reduceAdd,Nat.reduceSub,List.replicate,List.cons_append,List.nil_append]
 refine zaw (l':=[some (mD asks rs),some (.int (rs.length:Int))]) (S':=S) ?_ ?_
 ·unfold mD
  simp! only [List.length_map,and_self]
 rw [zho]
 refine ⟨_,_,?_,rfl,rfl⟩
 have him:zco (zbg (zac (zaa 1) (zae))) [some (mD asks rs),some (.int (rs.length:Int))] S=some (itX (zav 0 rs.length),(zav 0 rs.length).length+1,S):=zh6 rfl (by omega)
 unfold zjp
 rw [him,zda]
 show (zc2 _ _ _ _ _ _ _ (rs.length+1) 0 [none,none,some (.int (rs.length:Int))] S).bind _=_
 rw [zsj r24 rs.length 0 [none,none,some (.int (rs.length:Int))] rfl ⟨_,_,rfl⟩,List.drop_zero]
 show (if ((apL rs.length).map pD).length<=sizeLine then _ else _)=_
 have:=zj1 rs.length
 have h2:rs.length*rs.length<=24*24:=Nat.mul_le_mul r24 r24
 rw [if_pos (by rw [List.length_map];omega)]
 rfl
noncomputable def onF (asks:Nat) (rs:List (List Cl)):D->Option D
 | .tup [.int a,.int b]=>if f1 asks rs (a.toNat,b.toNat)=true then some (.tup [.int a,.int b]) else none
 | _=>none
theorem zj2 {asks:Nat}{rs:List (List Cl)}(p:BF.P):onF asks rs (pD p)=if f1 asks rs p=true then some (pD p) else none:=rfl
theorem yd5 {asks:Nat}{rs:List (List Cl)}(ps:List BF.P):(ps.map pD).filterMap (onF asks rs)=(ps.filter (f1 asks rs)).map pD:=by
 induction ps with
 | nil=>rfl
 | cons p ps ih =>
  rw [List.map_cons]
  by_cases c:f1 asks rs p=true
  ·rw [List.filterMap_cons_some (by rw [zj2,if_pos c]),List.filter_cons_of_pos c,List.map_cons,ih]
  ·rw [List.filterMap_cons_none (by rw [zj2,if_neg c]),List.filter_cons_of_neg c,ih]
theorem yd6 {asks:Nat}{rs:List (List Cl)}{p:BF.P}{S:Sto}{QB:Bool->Sto->Prop}(h:OkM asks rs) (hp:p.1<rs.length/\p.2<rs.length) (q:∀S2,Gr S S2->QB (f1 asks rs p) S2) :
  Wt (tE (zaf ze1 (zac (zbo (zco (zbg (zac (zaa 2) (zae)))) [none,some 3,some 0,some 1] (zag 0) (zay) (zaf zdc (zac (eOp zaj (eOp zaj (zaa 1) (zaa 2)) (zaa 0)) (zac (eOp zaj (eOp zaj (zaa 1) (zaa 3)) (zaa 0)) (zae))))) (zae)))) [some (.int (p.1:Int)),some (.int (p.2:Int)),some (.int (asks:Int)),some (.tup (rs.map rD))] S QB:=by
 have sz:=zb6
 have ha4:=h.a4
 simp only [zd5,zbd,zba,za7]
 refine zgq (zav 0 asks) (flF rs p) (fun T=>Gr S T) (fun l=>∃x0,l=[x0,some (.tup (rs.map rD)),some (.int (p.1:Int)),some (.int (p.2:Int))]) (zh6 (n:=asks) rfl (by omega)) (Gr.refl S) ⟨none,rfl⟩ (fun i T _=>rfl) (by rw [zda];omega) ?_ ?_
 ·rintro x l T hx ⟨x0,rfl⟩ hT
  obtain ⟨a,ha,rfl⟩:=zjz hx
  simp only [za0,qs0]
  refine ⟨hT,⟨_,rfl⟩,?_⟩
  simp only [zbd,zba,za7,zdp,zap,qg0,qg1,zbb]
  rw [zsb h hp.1 ha,zsb h hp.2 ha]
  exact ⟨_,_,zsc _ _ _,rfl,hT⟩
 ·intro T hT
  rw [zq5]
  refine ⟨_,zdu,?_,?_⟩
  ·rw [zg1,List.all_map,List.all_eq_true]
   intro a _;rfl
  ·refine ⟨f1 asks rs p,?_,q _ (hT.push _)⟩
   rw [zg1,List.any_map]
   rfl
theorem zsl {f:FM}{i:Nat}{l:Lo}{S:Sto}{x:D}{r:D × Sto}(h:l[i]? = some (some x)) (hf:f [x] S=some r):zaf f (zac (zaa i) (zae)) l S=some r:=by
 unfold zaf zac zaa;rw [h];exact hf
theorem yd7 {asks:Nat}{rs:List (List Cl)}{S:Sto}(h:OkM asks rs):Wo (zgt [mD asks rs] S) fun v S'=>∃m,v=.ref m/\S'[m]? = some (.lst (((apL rs.length).filter (f1 asks rs)).map pD))/\Gr S S'/\S.length<=m:=by
 have sz:=zb6
 have r24:=h.r24
 unfold zgt zrp
 simp only [zb2,List.map_cons,List.map_nil,List.length_cons,List.length_nil,Nat.reduceAdd,Nat.reduceSub,List.replicate,List.cons_append,List.nil_append]
 refine zaw (l':=[some (mD asks rs),some (.int (asks:Int)),some (.tup (rs.map rD))]) (S':=S) ?_ ?_
 ·unfold mD
  simp! only [and_self]
 rw [zho]
 have him:zcn (zaf zdd (zac (zaa 0) (zae))) [some (mD asks rs),some (.int (asks:Int)),some (.tup (rs.map rD))] S=some (itL S.length,((apL rs.length).map pD).length+1,S++[.lst ((apL rs.length).map pD)]):=zmk (zsl rfl (zsk h)) zdu
 have hlen:=zj1 rs.length
 have h2:rs.length*rs.length<=24*24:=Nat.mul_le_mul r24 r24
 refine zmj ((apL rs.length).map pD) (onF asks rs) (fun T=>Gr (S++[.lst ((apL rs.length).map pD)]) T) (fun l=>∃x0 x1,l=[x0,x1,some (.int (asks:Int)),some (.tup (rs.map rD))]) him (Gr.refl _) ⟨none,none,rfl⟩ (fun i T g=>zml (g.lst zdu)) (by rw [List.length_map];omega) ?_ ?_
 ·rintro x l T hx ⟨x0,x1,rfl⟩ hT
  obtain ⟨p,hp,rfl⟩:=List.mem_map.mp hx
  have hp':=mem_ap.mp hp
  unfold pD
  simp only [zew,zey,zex,za0,List.length_cons,List.length_nil,qs0,qs1]
  refine ⟨by first|rfl|trivial,⟨_,_,rfl⟩,?_⟩
  refine yd6 h ⟨by omega,hp'.2⟩ fun S2 g2=>⟨hT.trans g2,fun hb=>?_,fun hb=>?_⟩
  ·rw [show D.tup [.int (p.1:Int),.int (p.2:Int)]=pD p from rfl,zj2,hb];rfl
  ·simp only [zbd,zba,za7,zap,qg0,qg1,zbb,zdq,List.length_cons,List.length_nil]
   refine ⟨by omega,?_,hT.trans g2⟩
   rw [show D.tup [.int (p.1:Int),.int (p.2:Int)]=pD p from rfl,zj2,hb];rfl
 ·intro T hT
  rw [yd5]
  have:=hT.len
  exact ⟨_,rfl,zbz,Gr.trans (B:=S++[.lst ((apL rs.length).map pD)]) ⟨_,rfl⟩ (hT.trans ⟨_,rfl⟩),by simp at this;omega⟩
theorem yd8 {i j:Int}{S:Sto}{Q:D->Sto->Prop}:Wo (zh1 [.tup [.int i,.int j]] S) Q=Q (.int (if j<i then j else i)) S:=zbu
theorem yd9 {i j:Int}{S:Sto}{Q:D->Sto->Prop}:Wo (zh2 [.tup [.int i,.int j]] S) Q=Q (.int (if j > i then j else i)) S:=zbu
theorem yea (q:BF.P):D.tup [.int (if (q.2:Int)<(q.1:Int) then (q.2:Int) else (q.1:Int)),.int (if (q.2:Int) > (q.1:Int) then (q.2:Int) else (q.1:Int))]=pD (srt q):=by
 unfold srt
 by_cases c:q.2<q.1
 ·rw [if_pos (by omega),if_neg (by omega),if_pos c];rfl
 ·rw [if_neg (by omega),if_neg c]
  by_cases c2:q.2 > q.1
  ·rw [if_pos (by omega)];rfl
  ·rw [if_neg (by omega)]
   have:q.1=q.2:=by omega
   unfold pD;rw [←this]
theorem yeb {o e f:EM}{l:Lo}{S S1 S2 S3:Sto}{n:Nat}{y z v:D}{kvs:Tb}{k:List L2.Key}{Q:D->Sto->Prop}(h1:o l S=some (.ref n,S1)) (hd:isDc S1 (.ref n)=some ()) (h2:e l S1=some (y,S2)) (h3:f l S2=some (z,S3)) (hn:S3[n]? = some (.tdct kvs)) (hk:zcp y=some k) (hz:kvs.length<sizeLine) (hg:zaq kvs k=some v) (q:Q v S3):We (zfr o e f) l S Q:=by
 refine ⟨_,_,?_,q⟩
 unfold zfr
 rw [h1]
 show (isDc S1 (.ref n)).bind _=_
 rw [hd]
 show (e l S1).bind _=_
 rw [h2]
 show (f l S2).bind _=_
 rw [h3]
 dsimp only [Option.bind_some]
 rw [hn]
 dsimp only
 rw [hk]
 show (if _ then _ else _)=_
 rw [if_pos hz,hg]
theorem yec {o e f:EM}{l:Lo}{S S1 S2 S3:Sto}{n:Nat}{y z:D}{kvs:Tb}{k:List L2.Key}{Q:D->Sto->Prop}(h1:o l S=some (.ref n,S1)) (hd:isDc S1 (.ref n)=some ()) (h2:e l S1=some (y,S2)) (h3:f l S2=some (z,S3)) (hn:S3[n]? = some (.tdct kvs)) (hk:zcp y=some k) (hz:kvs.length<sizeLine) (hg:zaq kvs k=none) (q:Q z (S3.set n (.tdct (zb5 kvs k z)))):We (zfr o e f) l S Q:=by
 refine ⟨_,_,?_,q⟩
 unfold zfr
 rw [h1]
 show (isDc S1 (.ref n)).bind _=_
 rw [hd]
 show (e l S1).bind _=_
 rw [h2]
 show (f l S2).bind _=_
 rw [h3]
 dsimp only [Option.bind_some]
 rw [hn]
 dsimp only
 rw [hk]
 show (if _ then _ else _)=_
 rw [if_pos hz,hg]
structure Sr (Q:BF.P->BF.P->Prop) (nd np b c:Nat) (kvs:Tb) (S:Sto):Prop where
 no:∀k,zaq kvs (pK k)=none->∀p,¬Q p k
 yes:∀k v,zaq kvs (pK k)=some v->∃(m:Nat) (ps:List BF.P),v=.ref m/\S[m]? = some (.lst (ps.map pD))/\(∀p,p∈ps↔Q p k)/\ps.length<=c/\m≠nd/\m≠np/\b<=m
 inj:∀k k' m,zaq kvs (pK k)=some (.ref m)->zaq kvs (pK k')=some (.ref m)->k=k'
theorem Sr.congr {Q Q':BF.P->BF.P->Prop}{nd np b c:Nat}{kvs:Tb}{S:Sto}(h:Sr Q nd np b c kvs S) (e:∀p k,Q p k↔Q' p k):Sr Q' nd np b c kvs S :=
 ⟨fun k hk p hq=>h.no k hk p ((e p k).mpr hq),fun k v hk=>by
  obtain ⟨m,ps,h1,h2,h3,h4⟩:=h.yes k v hk
  exact ⟨m,ps,h1,h2,fun p=>(h3 p).trans (e p k),h4⟩,h.inj⟩
theorem Sr.mono {Q:BF.P->BF.P->Prop}{nd np b c d:Nat}{kvs:Tb}{S:Sto}(h:Sr Q nd np b c kvs S) (e:c<=d):Sr Q nd np b d kvs S :=
 ⟨h.no,fun k v hk=>by
  obtain ⟨m,ps,h1,h2,h3,h4,h5⟩:=h.yes k v hk
  exact ⟨m,ps,h1,h2,h3,by omega,h5⟩,h.inj⟩
theorem yed {Q:BF.P->BF.P->Prop}{nd np b c:Nat}{kvs:Tb}{S0 S:Sto}{l:Lo}{p k:BF.P}{QS:D->Sto->Prop}(h:Sr Q nd np b c kvs S) (h3:l[3]? = some (some (.ref nd))) (h8:l[8]? = some (some (pD k))) (h4:l[4]? = some (some (.int (p.1:Int)))) (h5:l[5]? = some (some (.int (p.2:Int)))) (hnd:S[nd]? = some (.tdct kvs)) (hkl:kvs.length<100000) (hc:c<100000) (g:Gr S0 S) (hb:b=S0.length) (hbd:b<=nd) (hnp:np<S.length) (hnn:nd≠np)
  (q:∀v kvs' S',S'[nd]? = some (.tdct kvs')->kvs'.length<=kvs.length+1->(∀o,S[np]? = some o->S'[np]? = some o)->Gr S0 S'->Sr (fun p' k'=>Q p' k'∨(p' = p/\k' = k)) nd np b (c+1) kvs' S'->QS v S') :
  We (zb0 zce (zfr (zaa 3) (zaa 8) (zaf zbw (zae))) (zac (zaf za2 (zac (zaa 4) (zac (zaa 5) (zae)))) zae)) l S QS:=by
 have sz:=zb6
 have v3:zaa 3 l S=some (.ref nd,S):=by unfold zaa;rw [h3]
 have v8:zaa 8 l S=some (pD k,S):=by unfold zaa;rw [h8]
 have vl:zaf zbw zae l S=some (.ref S.length,S++[.lst []]):=rfl
 have hdl:nd<S.length:=(qlt hnd)
 have hnd2:(S++[.lst []])[nd]? = some (.tdct kvs):=zb3 hnd
 have tup:∀(T:Sto) (R:List D->Sto->Prop),R [pD p] T->Wa (zac (zaf za2 (zac (zaa 4) (zac (zaa 5) (zae)))) zae) l T R:=fun T R hR=>by
  simp only [zba,za7,zbd,zap,h4,h5,zbb,zdq,List.length_cons,List.length_nil]
  exact ⟨by omega,hR⟩
 rw [zc1]
 cases hg:zaq kvs (pK k) with
 | some v =>
  obtain ⟨m,ps,rfl,hm,hps,hpl,m1,m2,m3⟩:=h.yes k v hg
  have hml:m<S.length:=(qlt hm)
  have hm2:(S++[.lst []])[m]? = some (.lst (ps.map pD)):=zb3 hm
  refine yeb v3 (zms hnd) v8 vl hnd2 (zde k) (by omega) hg ⟨⟨_,zdv hm2⟩,tup _ _ ?_⟩
  rw [zem hm2 (by rw [List.length_map];omega)]
  refine q _ kvs _ (zbc hnd2 m1) (by omega) (fun o ho=>zbc (zb3 ho) m2) ((g.trans ⟨_,rfl⟩).set (by omega) _) ⟨fun k' hk' p'=>?_,fun k' v hk'=>?_,h.inj⟩
  ·rintro (z|⟨_,z⟩)
   ·exact h.no k' hk' p' z
   ·rw [z,hg] at hk';cases hk'
  ·by_cases e:k' = k
   ·subst e
    rw [hg] at hk';cases hk'
    refine ⟨m,ps++[p],rfl,by rw [zcj hm2];simp,fun p'=>?_,by simp;omega,m1,m2,m3⟩
    rw [List.mem_append,hps]
    simp
   ·obtain ⟨m',ps',e1,e2,e3,e4,e5⟩:=h.yes k' v hk'
    subst e1
    have:m≠m':=fun z=>e (h.inj k' k m' hk' (by rw [hg,z]))
    refine ⟨m',ps',rfl,zbc (zb3 e2) this,fun p'=>?_,by omega,e5⟩
    rw [e3]
    exact ⟨.inl,fun z=>z.elim id fun z=>absurd z.2 e⟩
 | none =>
  have hpl:=zqn kvs (pK k) (.ref S.length)
  have hnS:S.length≠nd:=by omega
  have hS:((S++[Ob.lst []]).set nd (.tdct (zb5 kvs (pK k) (.ref S.length))))[S.length]? = some (.lst []):=zbc zbz (Ne.symm hnS)
  refine yec v3 (zms hnd) v8 vl hnd2 (zde k) (by omega) hg ⟨⟨_,zdv hS⟩,tup _ _ ?_⟩
  rw [zem hS (by simp;omega)]
  have gl:=g.len
  refine q _ (zb5 kvs (pK k) (.ref S.length)) _ (zbc (zcj hnd2) hnS) hpl (fun o ho=>zbc (zbc (zb3 ho) hnn) (by omega)) (((g.trans ⟨_,rfl⟩).set (by omega) _).set (by omega) _) ⟨fun k' hk' p'=>?_,fun k' v hk'=>?_,fun k1 k2 m e1 e2=>?_⟩
  ·rw [zjy] at hk'
   by_cases e:pK k' = pK k
   ·rw [if_pos e] at hk';cases hk'
   ·rw [if_neg e] at hk'
    rintro (z|⟨_,z⟩)
    ·exact h.no k' hk' p' z
    ·exact e (by rw [z])
  ·rw [zjy] at hk'
   by_cases e:pK k' = pK k
   ·rw [if_pos e] at hk';cases hk'
    have ek:=zg0 e
    subst ek
    refine ⟨S.length,[p],rfl,by rw [zcj hS];rfl,fun p'=>?_,by simp,hnS,by omega,by omega⟩
    have:=h.no k' hg p'
    simp [this]
   ·rw [if_neg e] at hk'
    obtain ⟨m',ps',e1,e2,e3,e4,e5,e6,e7⟩:=h.yes k' v hk'
    have hml:m' < S.length:=(qlt e2)
    refine ⟨m',ps',e1,zbc (zbc (zb3 e2) (Ne.symm e5)) (by omega),fun p'=>?_,by omega,e5,e6,e7⟩
    rw [e3]
    exact ⟨.inl,fun z=>z.elim id fun z=>absurd (by rw [z.2]) e⟩
  ·have fresh:∀k',zaq kvs (pK k')≠some (.ref S.length):=fun k' z=>by
    obtain ⟨m',ps',e1,e2,_⟩:=h.yes k' _ z
    cases e1
    have:=(qlt e2)
    omega
   rw [zjy] at e1 e2
   by_cases c1:pK k1=pK k
   ·by_cases c2:pK k2=pK k
    ·rw [zg0 c1,zg0 c2]
    ·rw [if_pos c1] at e1;cases e1
     rw [if_neg c2] at e2
     exact absurd e2 (fresh k2)
   ·rw [if_neg c1] at e1
    by_cases c2:pK k2=pK k
    ·rw [if_pos c2] at e2;cases e2
     exact absurd e1 (fresh k1)
    ·rw [if_neg c2] at e2
     exact h.inj k1 k2 m e1 e2
noncomputable def Ld (rs:List (List Cl)) (j:Nat) (p k:BF.P):Prop:=∃a q,a<j/\nxt rs p a=some q/\srt q=k
theorem Ld.succ_some {rs:List (List Cl)}{j:Nat}{p q k:BF.P}(h:nxt rs p j=some q):Ld rs (j+1) p k↔(Ld rs j p k∨srt q=k):=by
 constructor
 ·rintro ⟨a,q',h1,h2,h3⟩
  by_cases e:a=j
  ·subst e;rw [h] at h2;cases h2;exact .inr h3
  ·exact .inl ⟨a,q',by omega,h2,h3⟩
 ·rintro (⟨a,q',h1,h2,h3⟩|h3)
  ·exact ⟨a,q',by omega,h2,h3⟩
  ·exact ⟨j,q,by omega,h,h3⟩
theorem Ld.succ_none {rs:List (List Cl)}{j:Nat}{p k:BF.P}(h:nxt rs p j=none):Ld rs (j+1) p k↔Ld rs j p k:=by
 constructor
 ·rintro ⟨a,q',h1,h2,h3⟩
  by_cases e:a=j
  ·subst e;rw [h] at h2;cases h2
  ·exact ⟨a,q',by omega,h2,h3⟩
 ·rintro ⟨a,q',h1,h2,h3⟩
  exact ⟨a,q',by omega,h2,h3⟩
theorem yee {asks:Nat}{rs:List (List Cl)}{S:Sto}(h:OkM asks rs):Wo (zgs [mD asks rs] S) fun v S'=>∃nd np c kvs,v=.ref nd/\S'[nd]? = some (.tdct kvs)/\Gr S S'/\S.length<=nd/\Sr (fun p k=>InP rs p/\Ld rs asks p k) nd np S.length c kvs S':=by
 have sz:=zb6
 have r24:=h.r24
 have a4:=h.a4
 have hlen:=zj1 rs.length
 have h2:rs.length*rs.length<=24*24:=Nat.mul_le_mul r24 r24
 unfold zgs zro
 simp only [zb2,List.map_cons,List.map_nil,List.length_cons,List.length_nil,Nat.reduceAdd,Nat.reduceSub,List.replicate,List.cons_append,List.nil_append]
 refine zaw (l':=[some (mD asks rs),some (.int (asks:Int)),some (.tup (rs.map rD)),none,none,none,none,none,none]) (S':=S) ?_ ?_
 ·unfold mD
  simp! only [and_self]
 refine zaw (l':=[some (mD asks rs),some (.int (asks:Int)),some (.tup (rs.map rD)),some (.ref S.length),none,none,none,none,none]) (S':=S++[.tdct []]) (by simp! only [and_self]) ?_
 obtain ⟨nd,hnd⟩:∃nd,nd=S.length:=⟨_,rfl⟩
 obtain ⟨np,hnp⟩:∃np,np=S.length+1:=⟨_,rfl⟩
 have hcall:zaf zdd (zac (zaa 0) (zae)) [some (mD asks rs),some (.int (asks:Int)),some (.tup (rs.map rD)),some (.ref S.length),none,none,none,none,none] (S++[.tdct []])=some (.ref np,S++[.tdct []]++[.lst ((apL rs.length).map pD)]):=by
  have:=zsl (f:=zdd) (i:=0) (l:=[some (mD asks rs),some (.int (asks:Int)),some (.tup (rs.map rD)),some (.ref S.length),none,none,none,none,none]) rfl (zsk (S:=S++[.tdct []]) h)
  rw [this];simp [hnp]
 have e0:(S++[.tdct []]++[.lst ((apL rs.length).map pD)])[nd]? = some (.tdct []):=by rw [hnd];exact zb3 zbz
 have e1:(S++[.tdct []]++[.lst ((apL rs.length).map pD)])[np]? = some (.lst ((apL rs.length).map pD)):=by
  have:(S++[Ob.tdct []]).length=np:=by simp [hnp]
  rw [←this];exact zbz
 rw [←hnd] at hcall ⊢
 refine za1 (fun l S'=>∃x4 x5 x6 x7 x8 kvs c,l=[some (mD asks rs),some (.int (asks:Int)),some (.tup (rs.map rD)),some (.ref nd),x4,x5,x6,x7,x8]/\S'[nd]? = some (.tdct kvs)/\Gr S S'/\Sr (fun p k=>InP rs p/\Ld rs asks p k) nd np S.length c kvs S') ?_ ?_
 ·refine zh8 (n:=np) ((apL rs.length).map pD) (fun i l S'=>∃x4 x5 x6 x7 x8 kvs,l=[some (mD asks rs),some (.int (asks:Int)),some (.tup (rs.map rD)),some (.ref nd),x4,x5,x6,x7,x8]/\S'[nd]? = some (.tdct kvs)/\S'[np]? = some (.lst ((apL rs.length).map pD))/\Gr S S'/\kvs.length<=4*i/\Sr (fun p k=>p∈(apL rs.length).take i/\Ld rs asks p k) nd np S.length (4*i) kvs S') (fun _ _=>False) hcall
   ⟨_,_,_,_,_,[],rfl,e0,e1,⟨[.tdct [],.lst ((apL rs.length).map pD)],by simp⟩,Nat.zero_le _,⟨fun k _ p hq=>(by simp at hq),fun k v hk=>(by cases hk),fun k k' m hk=>(by cases hk)⟩⟩ (fun i l S' ⟨_,_,_,_,_,_,_,_,hp,_⟩=>zcg hp) ?_ ?_ (fun d l' S' z=>z.elim)
  ·rintro i x l S3 hx ⟨x4,x5,x6,x7,x8,kvs,rfl,hd3,hp3,g3,hk3,sr⟩
   rw [List.getElem?_map] at hx
   obtain ⟨p,hp,rfl⟩:=Option.map_eq_some_iff.mp hx
   have hpm:=mem_ap.mp (List.mem_of_getElem? hp)
   have hpi:p.1<rs.length/\p.2<rs.length:=⟨by omega,hpm.2⟩
   have hi:i<(apL rs.length).length:=(qlt hp)
   unfold pD
   simp only [zew,zey,zex,za0,List.length_cons,List.length_nil,qs0,qs1]
   refine ⟨by first|rfl|trivial,?_⟩
   refine zh7 (fun j l S'=>∃x6 x7 x8 kvs,l=[some (mD asks rs),some (.int (asks:Int)),some (.tup (rs.map rD)),some (.ref nd),some (.int (p.1:Int)),some (.int (p.2:Int)),x6,x7,x8]/\S'[nd]? = some (.tdct kvs)/\S'[np]? = some (.lst ((apL rs.length).map pD))/\Gr S S'/\kvs.length<=4*i+j/\Sr (fun p' k=>(p'∈(apL rs.length).take i/\Ld rs asks p' k)∨(p' = p/\Ld rs j p' k)) nd np S.length (4*i+j) kvs S') (fun _ _=>False) (n:=asks) rfl (by omega)
    ⟨_,_,_,kvs,rfl,hd3,hp3,g3,by omega,sr.congr fun p' k=>⟨.inl,fun z=>z.elim id fun z=>(by obtain ⟨_,a,q,h1,_⟩:=z;omega)⟩⟩ ?_ ?_ (fun d l' S' z=>z.elim)
   ·rintro j l S4 hj ⟨x6,x7,x8,kvs,rfl,hd4,hp4,g4,hk4,sr⟩
    simp only [za0,qs0,qs1]
    obtain ⟨cs1,c1,c2⟩:=zeo h hpi.1 hj
    obtain ⟨cs2,c3,c4⟩:=zeo h hpi.2 hj
    refine zaw (l':=[some (mD asks rs),some (.int (asks:Int)),some (.tup (rs.map rD)),some (.ref nd),some (.int (p.1:Int)),some (.int (p.2:Int)),some (.int (j:Int)),some (.tup [oD (cell rs p.1 j).1,oD (cell rs p.2 j).1]),x8]) (S':=S4) ?_ ?_
    ·simp! only [c1,c2,c3,c4]
     exact ⟨by omega,(by first|rfl|trivial),(by first|rfl|trivial)⟩
    refine zc3 (fun b S'=>b=(both (cell rs p.1 j).1 (cell rs p.2 j).1).isSome/\S' = S4) ?_ ?_ ?_
    ·simp only [zd5,zdp,zd4,zap,qg0,qg1,zbb,zjw,if_true,zjq]
     first|exact ⟨(by first|rfl|trivial),(by first|rfl|trivial)⟩|exact ⟨(by first|rfl|trivial)⟩
    ·rintro S' ⟨hb,rfl⟩
     obtain ⟨q,hq⟩:=Option.isSome_iff_exists.mp hb.symm
     have hn:nxt rs p j=some q:=hq
     rw [zjx hq]
     refine zaw (l':=[some (mD asks rs),some (.int (asks:Int)),some (.tup (rs.map rD)),some (.ref nd),some (.int (p.1:Int)),some (.int (p.2:Int)),some (.int (j:Int)),some (pD q),some (pD (srt q))]) (S':=S') ?_ ?_
     ·simp only [zby,zbd,zba,za7,zap,qg0,qg1,zbb]
      unfold pD
      simp only [yd8,yd9,zdq,List.length_cons,List.length_nil,za0,qs0,qs1]
      refine ⟨by omega,(by first|rfl|trivial),?_,(by first|rfl|trivial)⟩
      rw [yea];rfl
     rw [zc9]
     refine yed (p:=p) (k:=srt q) (S0:=S) sr rfl rfl rfl rfl hd4 (by omega) (by omega) g4 rfl (by omega) (qlt hp4) (by omega) fun v kvs' S7 h7 hk7 hp7 g7 sr7=>?_
     refine .inl ⟨(by first|exact .inl rfl|exact .inl trivial|trivial),_,_,_,kvs',rfl,h7,hp7 _ hp4,g7,by omega,(sr7.congr fun p' k=>?_).mono (by omega)⟩
     constructor
     ·rintro ((z|⟨z1,z2⟩)|⟨z1,z2⟩)
      ·exact .inl z
      ·exact .inr ⟨z1,by rw [z1] at z2 ⊢;exact (Ld.succ_some hn).mpr (.inl z2)⟩
      ·exact .inr ⟨z1,by rw [z1];exact (Ld.succ_some hn).mpr (.inr z2.symm)⟩
     ·rintro (z|⟨z1,z2⟩)
      ·exact .inl (.inl z)
      ·rw [z1] at z2
       rcases (Ld.succ_some hn).mp z2 with z|z
       ·exact .inl (.inr ⟨z1,by rw [z1];exact z⟩)
       ·exact .inr ⟨z1,z.symm⟩
    ·rintro S' ⟨hb,rfl⟩
     have hn:nxt rs p j=none:=by
      cases e:both (cell rs p.1 j).1 (cell rs p.2 j).1 with
      | none=>exact e
      | some q=>rw [e] at hb;cases hb
     rw [zc8]
     refine .inl ⟨.inl rfl,_,_,_,kvs,rfl,hd4,hp4,g4,by omega,(sr.congr fun p' k=>?_).mono (by omega)⟩
     constructor
     ·rintro (z|⟨z1,z2⟩)
      ·exact .inl z
      ·exact .inr ⟨z1,by rw [z1] at z2 ⊢;exact (Ld.succ_none hn).mpr z2⟩
     ·rintro (z|⟨z1,z2⟩)
      ·exact .inl z
      ·exact .inr ⟨z1,by rw [z1] at z2 ⊢;exact (Ld.succ_none hn).mp z2⟩
   ·rintro l' S' ⟨x6,x7,x8,kvs,rfl,hd4,hp4,g4,hk4,sr⟩
    refine .inl ⟨.inl rfl,_,_,_,_,_,kvs,rfl,hd4,hp4,g4,by omega,(sr.congr fun p' k=>?_).mono (by omega)⟩
    rw [List.take_add_one,hp,List.mem_append]
    constructor
    ·rintro (⟨z1,z2⟩|⟨z1,z2⟩)
     ·exact ⟨.inl z1,z2⟩
     ·exact ⟨.inr (by simp [z1]),z2⟩
    ·rintro ⟨z1|z1,z2⟩
     ·exact .inl ⟨z1,z2⟩
     ·exact .inr ⟨by simpa using z1,z2⟩
  ·rintro l' S' ⟨x4,x5,x6,x7,x8,kvs,rfl,hd4,hp4,g4,hk4,sr⟩
   refine ⟨rfl,_,_,_,_,_,kvs,_,rfl,hd4,g4,sr.congr fun p k=>?_⟩
   rw [List.length_map,List.take_length]
   exact ⟨fun z=>⟨mem_ap.mp z.1,z.2⟩,fun z=>⟨mem_ap.mpr z.1,z.2⟩⟩
 rintro l S3 ⟨x4,x5,x6,x7,x8,kvs,c,rfl,hd3,g3,sr⟩
 simp! only [zap]
 subst hnd
 exact ⟨_,_,c,kvs,rfl,hd3,g3,Nat.le_refl _,sr⟩
noncomputable def fT (F:List BF.P):Tb:=F.map fun p=>(pK p,D.bl true)
theorem zsm (F:List BF.P) (p:BF.P):((fT F).any fun kv=>decide (kv.1=pK p))=decide (p∈F):=by
 rw [Bool.eq_iff_iff,List.any_eq_true,decide_eq_true_eq]
 constructor
 ·rintro ⟨kv,h1,h2⟩
  obtain ⟨q,hq,rfl⟩:=List.mem_map.mp h1
  rw [←zg0 (of_decide_eq_true h2)];exact hq
 ·exact fun h=>⟨_,List.mem_map.mpr ⟨p,h,rfl⟩,decide_eq_true rfl⟩
theorem yef (F:List BF.P) (p:BF.P):(zaq (fT F) (pK p)).isSome=decide (p∈F):=by
 rw [←zsm]
 unfold zaq
 rw [Option.isSome_map,Bool.eq_iff_iff,List.find?_isSome,List.any_eq_true]
theorem zsn {F:List BF.P}{p:BF.P}(h:p ∉ F):zb5 (fT F) (pK p) (.bl true)=fT (F++[p]):=by
 unfold zb5
 rw [zsm,if_neg (by simpa using h)]
 unfold fT;rw [List.map_append];rfl
theorem yeg (F:List BF.P):(fT F).length=F.length:=List.length_map _
noncomputable def prT (p:BF.P):D:=.tup [pD p,.bl true]
theorem zso:∀(W F:List BF.P),(F++W).Nodup->zgm (W.map prT) (fT F)=some (fT (F++W))
 | [],F,_=>by rw [List.append_nil];rfl
 | p :: W,F,nd=>by
  have hn:p ∉ F:=fun h=>by
   have:=(List.nodup_append.mp nd).2.2 p h p (List.mem_cons_self ..)
   exact this rfl
  show (zcp (pD p)).bind _=_
  rw [zde]
  show zgm (W.map prT) (zb5 (fT F) (pK p) (.bl true))=_
  rw [zsn hn,zso W (F++[p]) (by simpa using nd)]
  simp
theorem yeh {l:Lo}{S:Sto}{n:Nat}{W:List BF.P}{Q:D->Sto->Prop}(h:l[1]? = some (some (.ref n))) (hn:S[n]? = some (.lst (W.map pD))) (nd:W.Nodup) (hl:W.length<=1000) (q:Q (.ref S.length) (S++[.tdct (fT W)])) :
  We (zhx (zcn (zaa 1)) [none] (zag 0) (zay) (zaa 0) (eC (.bl true))) l S Q:=by
 have sz:=zb6
 have hv:zaa 1 l S=some (.ref n,S):=by unfold zaa;rw [h]
 have hls:=zcg hn
 obtain ⟨ys,S',e,q1,q2⟩:∃ys S',zbq (itL n) (zag 0) zay (zfm (zaa 0) (eC (.bl true))) ((W.map pD).length+1) 0 [none] S=some (ys,S')/\ys=W.map prT/\S' = S:=by
  obtain ⟨ys,S',l',e,h1,h2,_⟩:=zjr (it:=itL n) (g:=zag 0) (t:=zay) (e:=zfm (zaa 0) (eC (.bl true))) (W.map pD) (fun i acc l S'=>acc=(W.map prT).take i/\S' = S/\∃x,l=[x]) (fun i acc l S' hx2_=>by obtain ⟨_,h,_⟩:=hx2_;subst h;exact zml hls) (by
   rintro i x acc l S' hx ⟨rfl,rfl,u,rfl⟩
   rw [List.getElem?_map] at hx
   obtain ⟨p,hp,rfl⟩:=Option.map_eq_some_iff.mp hx
   simp only [za0,qs0]
   rw [zps,if_pos rfl]
   refine ⟨prT p,S',rfl,?_,rfl,_,rfl⟩
   rw [List.take_add_one,List.getElem?_map,hp];rfl) (W.map pD).length 0 [] [none] S rfl ⟨rfl,rfl,_,rfl⟩
  rw [List.nil_append] at h1
  have:(W.map prT).take (W.map pD).length=W.map prT:=List.take_of_length_le (by simp)
  rw [this] at h1
  exact ⟨ys,S',e,h1,h2⟩
 subst q1 q2
 refine ⟨_,_,?_,q⟩
 unfold zhx
 rw [zmk hv hls]
 show (zbq (itL n) _ zay (zfm (zaa 0) (eC (.bl true))) ((W.map pD).length+1) 0 [none] S').bind _=_
 rw [e]
 show (if (W.map prT).length<=sizeLine then _ else _)=_
 have hf:=zso W [] (by simpa using nd)
 rw [List.nil_append] at hf
 rw [if_pos (by rw [List.length_map];omega),show ([]:Tb)=fT [] from rfl,hf]
 rfl
theorem yei {i n:Nat}{l:Lo}{S:Sto}{xs:List D}{QB:Bool->Sto->Prop}(h:l[i]? = some (some (.ref n))) (hn:S[n]? = some (.lst xs)) (q:QB (!xs.isEmpty) S):Wt (tL (zaa i)) l S QB:=by
 refine ⟨_,_,?_,q⟩
 unfold tL zaa
 rw [h]
 show (lstOf S n).bind _=_
 rw [zcg hn];rfl
theorem yej {n:Nat}{S:Sto}{xs:List D}{x:D}{Q:D->Sto->Prop}(hn:S[n]? = some (.lst (xs++[x]))) (q:Q x (S.set n (.lst xs))):Wo (zfg (.ref n) [] S) Q:=by
 refine ⟨_,_,?_,q⟩
 unfold zfg
 dsimp only
 rw [hn]
 simp
theorem zmz (N:Nat):(apL N).Nodup:=by
 unfold apL
 have:∀(l:List Nat),l.Nodup->(l.flatMap (apR N)).Nodup:=by
  intro l
  induction l with
  | nil=>intro _;exact List.nodup_nil
  | cons i l ih =>
   intro nd
   have nd':=List.nodup_cons.mp nd
   rw [List.flatMap_cons,List.nodup_append]
   refine ⟨?_,ih nd'.2,?_⟩
   ·unfold apR
    refine List.Pairwise.map _ ?_ (List.nodup_range (n:=N-(i+1)))
    intro a b hab e
    exact hab (by have:=congrArg Prod.snd e;simp at this;omega)
   ·intro a ha b hb e
    subst e
    obtain ⟨j,hj,h2⟩:=List.mem_flatMap.mp hb
    have e1:a.1=i:=by obtain ⟨k,_,rfl⟩:=List.mem_map.mp ha;rfl
    have e2:a.1=j:=by obtain ⟨k,_,rfl⟩:=List.mem_map.mp h2;rfl
    exact nd'.1 (by rw [←e1,e2];exact hj)
 exact this _ List.nodup_range
structure Pd (asks:Nat) (rs:List (List Cl)) (E:BF.P->Prop) (W F:List BF.P):Prop where
 nd:F.Nodup
 pt:∀p∈F,InP rs p/\Pt asks rs p
 once:∀p,InP rs p->f1 asks rs p=true->p∈F
 w:∀p∈W,p∈F
 cl:∀k∈F,k ∉ W->E k∨∀p,InP rs p->Ld rs asks p k->p∈F
theorem Pd.add {asks:Nat}{rs:List (List Cl)}{E:BF.P->Prop}{W F:List BF.P}{p:BF.P}(h:Pd asks rs E W F) (hn:p ∉ F) (h1:InP rs p) (h2:Pt asks rs p):Pd asks rs E (W++[p]) (F++[p]):=by
 refine ⟨?_,?_,fun q a b=>List.mem_append_left _ (h.once q a b),?_,?_⟩
 ·rw [List.nodup_append]
  refine ⟨h.nd,by simp,fun a ha b hb e=>?_⟩
  rw [List.mem_singleton] at hb
  subst hb;subst e;exact hn ha
 ·intro q hq
  rcases List.mem_append.mp hq with z|z
  ·exact h.pt q z
  ·rw [List.mem_singleton.mp z];exact ⟨h1,h2⟩
 ·intro q hq
  rcases List.mem_append.mp hq with z|z
  ·exact List.mem_append_left _ (h.w q z)
  ·exact List.mem_append_right _ z
 ·intro k hk hw
  rcases List.mem_append.mp hk with z|z
  ·rcases h.cl k z (fun z=>hw (List.mem_append_left _ z)) with e|e
   ·exact .inl e
   ·exact .inr fun p a b=>List.mem_append_left _ (e p a b)
  ·exact absurd (List.mem_append_right _ z) hw
theorem Pd.pop {asks:Nat}{rs:List (List Cl)}{W F:List BF.P}{k:BF.P}(h:Pd asks rs (fun _=>False) (W++[k]) F):Pd asks rs (fun j=>j=k) W F :=
 ⟨h.nd,h.pt,h.once,fun p hp=>h.w p (List.mem_append_left _ hp),fun j hj hw=>by
  by_cases e:j=k
  ·exact .inl e
  ·rcases h.cl j hj (fun z=>by
    rcases List.mem_append.mp z with z|z
    ·exact hw z
    ·exact e (List.mem_singleton.mp z)) with z|z
   ·exact z.elim
   ·exact .inr z⟩
theorem Pd.done {asks:Nat}{rs:List (List Cl)}{W F:List BF.P}{k:BF.P}(h:Pd asks rs (fun j=>j=k) W F) (hk:∀p,InP rs p->Ld rs asks p k->p∈F):Pd asks rs (fun _=>False) W F :=
 ⟨h.nd,h.pt,h.once,h.w,fun j hj hw=>.inr (by
  rcases h.cl j hj hw with z|z
  ·rw [z];exact hk
  ·exact z)⟩
theorem Pd.len {asks:Nat}{rs:List (List Cl)}{E:BF.P->Prop}{W F:List BF.P}(h:Pd asks rs E W F) (ok:OkM asks rs):F.length<=576 :=
 Nat.le_trans (BF.few2 F h.nd fun p hp=>(h.pt p hp).1.both) (Nat.mul_le_mul ok.r24 ok.r24)
theorem Pd.all {asks:Nat}{rs:List (List Cl)}{F:List BF.P}(h:Pd asks rs (fun _=>False) [] F) (ok:OkM asks rs) (p:BF.P):p∈F↔InP rs p/\Pt asks rs p:=by
 refine ⟨h.pt p,fun ⟨h1,w,h2⟩=>zsh ok (fun p=>p∈F) h.once (fun p q a hp ha hs hq=>?_) w p h1 h2⟩
 rcases h.cl (srt q) hq (by simp) with z|z
 ·exact z.elim
 ·exact z p hp ⟨a,q,ha,hs,rfl⟩
noncomputable def Kp (m1 m3:Nat) (A T:Sto):Prop:=∀n o,n≠m1->n≠m3->A[n]? = some o->T[n]? = some o
theorem Kp.push {m1 m3:Nat}{A T:Sto}(h:Kp m1 m3 A T) (o:Ob):Kp m1 m3 A (T++[o]):=fun n x h1 h3 hx=>zb3 (h n x h1 h3 hx)
theorem Kp.set1 {m1 m3:Nat}{A T:Sto}(h:Kp m1 m3 A T) (o:Ob):Kp m1 m3 A (T.set m1 o):=fun n x h1 h3 hx=>zbc (h n x h1 h3 hx) (Ne.symm h1)
theorem Kp.set3 {m1 m3:Nat}{A T:Sto}(h:Kp m1 m3 A T) (o:Ob):Kp m1 m3 A (T.set m3 o):=fun n x h1 h3 hx=>zbc (h n x h1 h3 hx) (Ne.symm h3)
theorem yek {asks:Nat}{rs:List (List Cl)}{A T:Sto}{nd np b c m1 m3:Nat}{kvs:Tb}{l:Lo}{k:BF.P}(sr:Sr (fun p k=>InP rs p/\Ld rs asks p k) nd np b c kvs A) (hnd:A[nd]? = some (.tdct kvs)) (hb:m1<b) (d1:nd≠m1) (hA:A.length=m3) (h1:m1<T.length) (h3:m3<T.length) (kp:Kp m1 m3 A T) (l2:l[2]? = some (some (.ref nd))) (l4:l[4]? = some (some (pD k))) :
  ∃(m:Nat) (ps:List BF.P),zgj (zaa 2) (zaa 4) (zaf zbw (zae)) l T=some (.ref m,T++[.lst []])/\(T++[.lst []])[m]? = some (.lst (ps.map pD))/\(∀p,p∈ps↔InP rs p/\Ld rs asks p k)/\m≠m1/\m≠m3:=by
 have ndl:nd<A.length:=(qlt hnd)
 have hT:T[nd]? = some (.tdct kvs):=kp nd _ d1 (by omega) hnd
 have v2:zaa 2 l T=some (.ref nd,T):=by unfold zaa;rw [l2]
 have v4:zaa 4 l T=some (pD k,T):=by unfold zaa;rw [l4]
 have vl:zaf zbw zae l T=some (.ref T.length,T++[.lst []]):=rfl
 have e:zgj (zaa 2) (zaa 4) (zaf zbw (zae)) l T=some ((zaq kvs (pK k)).getD (.ref T.length),T++[.lst []]):=by
  unfold zgj
  rw [v2]
  dsimp only [Option.bind_some]
  rw [zms hT]
  dsimp only [Option.bind_some]
  rw [v4]
  dsimp only [Option.bind_some]
  rw [vl]
  dsimp only [Option.bind_some]
  rw [zjt (zb3 hT) (zde k)];rfl
 cases hg:zaq kvs (pK k) with
 | none =>
  rw [hg] at e
  exact ⟨_,[],e,zbz,fun p=>⟨fun z=>(by cases z),fun z=>absurd z (sr.no k hg p)⟩,by omega,by omega⟩
 | some v =>
  rw [hg] at e
  obtain ⟨m,ps,rfl,s1,s2,_,s4,s5,s6⟩:=sr.yes k v hg
  have ml:m<A.length:=(qlt s1)
  exact ⟨m,ps,e,zb3 (kp m _ (by omega) (by omega) s1),s2,by omega,by omega⟩
theorem yel {asks:Nat}{rs:List (List Cl)}{S A T:Sto}{nd np b c m1 m3:Nat}{kvs:Tb}{W F:List BF.P}{x4 x5:Option D}{QS:Fl->Lo->Sto->Prop}(ok:OkM asks rs) (sr:Sr (fun p k=>InP rs p/\Ld rs asks p k) nd np b c kvs A) (hnd:A[nd]? = some (.tdct kvs)) (hb:m1<b) (d1:nd≠m1) (hA:A.length=m3) (d13:m1<m3) (hS:S.length<=m1)
  (h1:T[m1]? = some (.lst (W.map pD))) (h3:T[m3]? = some (.tdct (fT F))) (kp:Kp m1 m3 A T) (g:Gr S T) (pd:Pd asks rs (fun _=>False) W F) (hW:W.length<=1000)
  (q:∀x4 x5 F T',T'[m3]? = some (.tdct (fT F))->Gr S T'->Pd asks rs (fun _=>False) [] F->QS .nx [some (mD asks rs),some (.ref m1),some (.ref nd),some (.ref m3),x4,x5] T') :
  Ws (whl (tL (zaa 1)) (zai (zam (zb0 zfg (zaa 1) zae) (zag 4)) (zc0 (zgj (zaa 2) (zaa 4) (zaf zbw (zae))) (zag 5) (sIf (tE (eOp (zct true) (zaa 5) (zaa 3))) (zai (zam (eC (.bl true)) (zgk (zaa 3) (zaa 5))) (zch (zb0 zce (zaa 1) (zac (zaa 5) zae)))) (zbj)))) zej) [some (mD asks rs),some (.ref m1),some (.ref nd),some (.ref m3),x4,x5] T QS:=by
 have sz:=zb6
 refine zmt (fun n l T=>∃x4 x5 W F,l=[some (mD asks rs),some (.ref m1),some (.ref nd),some (.ref m3),x4,x5]/\T[m1]? = some (.lst (W.map pD))/\T[m3]? = some (.tdct (fT F))/\Kp m1 m3 A T/\Gr S T/\Pd asks rs (fun _=>False) W F/\2*(1000-F.length)+W.length<=n/\n<=3000) (fun _ _=>False) (fun l T=>∃x4 x5 F,l=[some (mD asks rs),some (.ref m1),some (.ref nd),some (.ref m3),x4,x5]/\T[m3]? = some (.tdct (fT F))/\Gr S T/\Pd asks rs (fun _=>False) [] F) 3000 (by omega)
  ⟨x4,x5,W,F,rfl,h1,h3,kp,g,pd,by omega,by omega⟩ ?_ ?_ (fun d l' S' z=>z.elim)
 ·rintro n l T ⟨x4,x5,W,F,rfl,h1,h3,kp,g,pd,hm,hn⟩
  refine yei rfl h1 ?_
  have hWc:=List.eq_nil_or_concat W
  simp only [List.concat_eq_append] at hWc
  rcases hWc with rfl|⟨W',k,rfl⟩
  ·exact ⟨_,_,F,rfl,h3,g,pd⟩
  ·have hlen:=pd.len ok
   rw [List.length_append] at hm
   have hm':2*(1000-F.length)+(W'.length+1)<=n:=hm
   rw [if_pos (by simp)]
   have h1l:m1<T.length:=(qlt h1)
   have h3l:m3<T.length:=(qlt h3)
   refine zaw (l':=[some (mD asks rs),some (.ref m1),some (.ref nd),some (.ref m3),some (pD k),x5]) (S':=T.set m1 (.lst (W'.map pD))) ?_ ?_
   ·simp only [zby,zc1,za7,zap,qg0,qg1,zbb]
    refine ⟨⟨_,zdv h1⟩,yej (x:=pD k) (by rw [h1,List.map_append];rfl) ?_⟩
    simp only [za0,qs0,qs1]
    first|exact ⟨(by first|rfl|trivial),(by first|rfl|trivial),(by first|rfl|trivial)⟩|exact ⟨(by first|rfl|trivial),(by first|rfl|trivial)⟩
   obtain ⟨m,ps,he,hms,hps,hm1,hm3⟩:=yek (l:=[some (mD asks rs),some (.ref m1),some (.ref nd),some (.ref m3),some (pD k),x5]) (T:=T.set m1 (.lst (W'.map pD))) sr hnd hb d1 hA (by rw [List.length_set];exact h1l) (by rw [List.length_set];exact h3l) (kp.set1 _) rfl rfl
   refine zh8 (n:=m) (ps.map pD) (fun i l T'=>∃x5 W2 F2,l=[some (mD asks rs),some (.ref m1),some (.ref nd),some (.ref m3),some (pD k),x5]/\T'[m1]? = some (.lst (W2.map pD))/\T'[m3]? = some (.tdct (fT F2))/\T'[m]? = some (.lst (ps.map pD))/\Kp m1 m3 A T'/\Gr S T'/\Pd asks rs (fun j=>j=k) W2 F2/\(∀p∈ps.take i,p∈F2)/\(∀p∈F,p∈F2)/\2*(1000-F2.length)+W2.length<=2*(1000-F.length)+W'.length) (fun _ _=>False) he
    ⟨_,W',F,rfl,zb3 (zcj h1),zb3 (zbc h3 (by omega)),hms,(kp.set1 _).push _,(g.set hS _).trans ⟨_,rfl⟩,pd.pop,(fun p hp=>by simp at hp),(fun p hp=>hp),Nat.le_refl _⟩ (fun i l S' ⟨_,_,_,_,_,_,hp,_⟩=>zcg hp) ?_ ?_ (fun d l' S' z=>z.elim)
   ·rintro i x l T2 hx ⟨x5,W2,F2,rfl,g1,g3,gm,kp2,gr2,pd2,ht,hF,hm2⟩
    rw [List.getElem?_map] at hx
    obtain ⟨p,hp,rfl⟩:=Option.map_eq_some_iff.mp hx
    obtain ⟨hpi,hld⟩:=(hps p).mp (List.mem_of_getElem? hp)
    have hkF:k∈F:=pd.w k (by simp)
    have hptp:Pt asks rs p:=by
     obtain ⟨a,r,ha,hs,hr⟩:=hld
     exact yd1 ha hs (by rw [hr];exact (pd.pt k hkF).2)
    have hlen2:=pd2.len ok
    simp only [za0,qs0,qs1]
    try refine ⟨by first|rfl|trivial,?_⟩
    refine zc3 (fun b S'=>b = !decide (p∈F2)/\S' = T2) ?_ ?_ ?_
    ·simp only [zd5,zdp,zap,qg0,qg1,zbb,zfs]
     exact ⟨_,zjt g3 (zde p),_,rfl,by rw [yef];rfl,(by first|rfl|trivial)⟩
    ·rintro S' ⟨hc,rfl⟩
     have hpF:p ∉ F2:=fun z=>by rw [decide_eq_true z] at hc;cases hc
     refine zaw (l':=[some (mD asks rs),some (.ref m1),some (.ref nd),some (.ref m3),some (pD k),some (pD p)]) (S':=S'.set m3 (.tdct (fT (F2++[p])))) ?_ ?_
     ·simp only [zby,zd4,zmr,zap,qg0,qg1,zbb]
      exact ⟨_,zre g3 (zde p) (by rw [yeg];omega),(by first|rfl|trivial),(by first|rfl|trivial),by rw [zsn hpF]⟩
     have g1':(S'.set m3 (.tdct (fT (F2++[p]))))[m1]? = some (.lst (W2.map pD)):=zbc g1 (by omega)
     simp only [zc9,zc1,zba,za7,zap,qg0,qg1,zbb]
     refine ⟨⟨_,zdv g1'⟩,?_⟩
     rw [zem g1' (by rw [List.length_map];omega)]
     refine .inl ⟨(by first|exact .inl rfl|exact .inl trivial|trivial),_,W2++[p],F2++[p],rfl,?_,zbc (zcj g3) (by omega),zbc (zbc gm (Ne.symm hm3)) (Ne.symm hm1),(kp2.set3 _).set1 _,(gr2.set (by omega) _).set hS _,pd2.add hpF hpi hptp,?_,fun p hp=>List.mem_append_left _ (hF p hp),?_⟩
     ·rw [zcj g1',List.map_append];rfl
     ·intro r hr
      rw [List.take_add_one,hp] at hr
      rcases List.mem_append.mp hr with z|z
      ·exact List.mem_append_left _ (ht r z)
      ·exact List.mem_append_right _ (by simpa using z)
     ·rw [List.length_append,List.length_append]
      show 2*(1000-(F2.length+1))+(W2.length+1)<=_
      omega
    ·rintro S' ⟨hc,rfl⟩
     have hpF:p∈F2:=by
      by_cases z:p∈F2
      ·exact z
      ·rw [decide_eq_false z] at hc;cases hc
     rw [zc8]
     refine .inl ⟨.inl rfl,_,W2,F2,rfl,g1,g3,gm,kp2,gr2,pd2,?_,hF,hm2⟩
     intro r hr
     rw [List.take_add_one,hp] at hr
     rcases List.mem_append.mp hr with z|z
     ·exact ht r z
     ·have:r=p:=by simpa using z
      rw [this];exact hpF
   ·rintro l' T2 ⟨x5,W2,F2,rfl,g1,g3,gm,kp2,gr2,pd2,ht,hF,hm2⟩
    refine .inl ⟨.inl rfl,_,by omega,_,_,W2,F2,rfl,g1,g3,kp2,gr2,pd2.done fun p a b=>ht p ?_,Nat.le_refl _,by omega⟩
    rw [List.length_map,List.take_length]
    exact (hps p).mpr ⟨a,b⟩
 ·rintro l' T' ⟨x4,x5,F,rfl,a,b,d⟩
  exact q x4 x5 F T' a b d
theorem yem {asks:Nat}{rs:List (List Cl)}{S:Sto}(h:OkM asks rs):Wo (zgu [mD asks rs] S) fun v S'=>∃m F,v=.ref m/\S'[m]? = some (.tdct (fT F))/\Gr S S'/\S.length<=m/\F.Nodup/\∀p,p∈F↔InP rs p/\Pt asks rs p:=by
 have sz:=zb6
 have hlen:=zj1 rs.length
 have h2:rs.length*rs.length<=24*24:=Nat.mul_le_mul h.r24 h.r24
 have hfl:((apL rs.length).filter (f1 asks rs)).length<=(apL rs.length).length:=List.length_filter_le _ _
 unfold zgu zrq
 simp only [zb2,List.map_cons,List.map_nil,List.length_cons,List.length_nil,Nat.reduceAdd,Nat.reduceSub,List.replicate,List.cons_append,List.nil_append]
 refine za1 (fun l S'=>∃m1,l=[some (mD asks rs),some (.ref m1),none,none,none,none]/\S'[m1]? = some (.lst (((apL rs.length).filter (f1 asks rs)).map pD))/\Gr S S'/\S.length<=m1) ?_ ?_
 ·simp only [zby,zbd,zba,za7,zap,qg0,qg1,zbb]
  refine Wo.mono (yd7 h) ?_
  rintro v S' ⟨m,rfl,a,b,c⟩
  simp only [za0,qs0,qs1]
  first|exact ⟨(by first|rfl|trivial),m,rfl,a,b,c⟩|exact ⟨m,rfl,a,b,c⟩
 rintro l S1 ⟨m1,rfl,s1,g1,b1⟩
 have m1l:m1<S1.length:=(qlt s1)
 refine za1 (fun l S'=>∃nd np c kvs,l=[some (mD asks rs),some (.ref m1),some (.ref nd),none,none,none]/\S'[nd]? = some (.tdct kvs)/\Gr S1 S'/\S1.length<=nd/\Sr (fun p k=>InP rs p/\Ld rs asks p k) nd np S1.length c kvs S') ?_ ?_
 ·simp only [zby,zbd,zba,za7,zap,qg0,qg1,zbb]
  refine Wo.mono (yee h) ?_
  rintro v S' ⟨nd,np,c,kvs,rfl,a,b,d,e⟩
  simp only [za0,qs0,qs1]
  first|exact ⟨(by first|rfl|trivial),nd,np,c,kvs,rfl,a,b,d,e⟩|exact ⟨nd,np,c,kvs,rfl,a,b,d,e⟩
 rintro l S2 ⟨nd,np,c,kvs,rfl,s2,g2,b2,sr⟩
 have s1':=g2.get s1
 have m1l2:m1<S2.length:=(qlt s1')
 refine zaw (l':=[some (mD asks rs),some (.ref m1),some (.ref nd),some (.ref S2.length),none,none]) (S':=S2++[.tdct (fT ((apL rs.length).filter (f1 asks rs)))]) ?_ ?_
 ·rw [zby]
  refine yeh rfl s1' ((zmz _).filter _) (by omega) ?_
  simp only [za0,qs0,qs1]
  first|exact ⟨(by first|rfl|trivial),(by first|rfl|trivial),(by first|rfl|trivial)⟩|exact ⟨(by first|rfl|trivial),(by first|rfl|trivial)⟩
 refine za1 (fun l S'=>∃x4 x5 F,l=[some (mD asks rs),some (.ref m1),some (.ref nd),some (.ref S2.length),x4,x5]/\S'[S2.length]? = some (.tdct (fT F))/\Gr S S'/\Pd asks rs (fun _=>False) [] F) ?_ ?_
 ·refine yel (S:=S) (W:=(apL rs.length).filter (f1 asks rs)) (F:=(apL rs.length).filter (f1 asks rs)) h sr s2 m1l (by omega) rfl m1l2 b1 (zb3 s1') zbz (fun n o _ _ z=>zb3 z) ((g1.trans g2).trans ⟨_,rfl⟩) ⟨(zmz _).filter _,?_,?_,fun p hp=>hp,fun k hk hw=>absurd hk hw⟩ (by omega) fun x4 x5 F T' a b d=>⟨rfl,x4,x5,F,rfl,a,b,d⟩
  ·intro p hp
   have:=List.mem_filter.mp hp
   exact ⟨mem_ap.mp this.1,yd0 this.2⟩
  ·exact fun p hp hf=>List.mem_filter.mpr ⟨mem_ap.mpr hp,hf⟩
 rintro l S4 ⟨x4,x5,F,rfl,a,b,d⟩
 simp! only [zap]
 have:=g2.len
 have:=g1.len
 exact ⟨S2.length,F,rfl,a,b,by omega,d.nd,d.all h⟩
noncomputable def zP (p:BF.P):SP.Pr:=((p.1:Int),(p.2:Int))
theorem yen {p q:BF.P}(h:zP p=zP q):p=q:=by
 have h1:=congrArg Prod.fst h
 have h2:=congrArg Prod.snd h
 have h1:(p.1:Int)=(q.1:Int):=h1
 have h2:(p.2:Int)=(q.2:Int):=h2
 exact Prod.ext (by omega) (by omega)
noncomputable def ptL (asks:Nat) (rs:List (List Cl)):List BF.P:=(apL rs.length).filter fun p=>@decide (Pt asks rs p) (Classical.propDecidable _)
theorem mem_pt {asks:Nat}{rs:List (List Cl)}{p:BF.P}:p∈ptL asks rs↔InP rs p/\Pt asks rs p:=by
 unfold ptL
 rw [List.mem_filter,mem_ap]
 exact ⟨fun h=>⟨h.1,@of_decide_eq_true _ (Classical.propDecidable _) h.2⟩,fun h=>⟨h.1,@decide_eq_true _ (Classical.propDecidable _) h.2⟩⟩
theorem yeo (asks:Nat) (rs:List (List Cl)):(ptL asks rs).Nodup:=(zmz _).filter _
theorem yep {N:Nat}(h:N<=10):(apL N).length<=45:=by
 have:∀N,N<11->(apL N).length<=45:=by decide +kernel
 exact this N (by omega)
theorem zm0 {asks:Nat}{rs:List (List Cl)}(h:rs.length<=10):(ptL asks rs).length<=45:=Nat.le_trans (List.length_filter_le _ _) (yep h)
theorem zm1 {asks:Nat}{rs:List (List Cl)}{F:List BF.P}(nd:F.Nodup) (h:∀p,p∈F↔InP rs p/\Pt asks rs p):F.Perm (ptL asks rs) :=
 (List.perm_ext_iff_of_nodup nd (yeo asks rs)).mpr fun p=>(h p).trans mem_pt.symm
noncomputable def sL (asks:Nat) (rs:List (List Cl)):List SP.Pr:=SP.sortP ((ptL asks rs).map zP)
theorem zsp {asks:Nat}{rs:List (List Cl)}{F:List BF.P}(nd:F.Nodup) (h:∀p,p∈F↔InP rs p/\Pt asks rs p):SP.sortP (F.map zP)=sL asks rs:=SP.sortP_eq ((zm1 nd h).map _)
theorem zsq {asks:Nat}{rs:List (List Cl)}(h:rs.length<=10):(sL asks rs).length<=45:=by
 unfold sL
 rw [(SP.sortP_perm _).length_eq,List.length_map]
 exact zm0 h
theorem zsr {asks:Nat}{rs:List (List Cl)}{z:SP.Pr}(h:z∈sL asks rs):∃p,z=zP p/\InP rs p:=by
 have:=(SP.sortP_perm _).mem_iff.mp h
 obtain ⟨p,hp,rfl⟩:=List.mem_map.mp this
 exact ⟨p,rfl,(mem_pt.mp hp).1⟩
theorem zss:∀F:List BF.P,zgo ((fT F).map (·.1))=some (F.map zP)
 | []=>rfl
 | p :: F=>by
  show (kPr (pK p)).bind _=_
  show (zgo ((fT F).map (·.1))).bind _=_
  rw [zss F];rfl
theorem zm2 {asks:Nat}{rs:List (List Cl)}{S:Sto}(h:OkM asks rs) (hN:rs.length<=10):Wo (zen [mD asks rs] S) fun v S'=>∃m,v=.ref m/\S'[m]? = some (.lst ((sL asks rs).map L3.pD))/\Gr S S'/\S.length<=m:=by
 unfold zen zrr
 simp only [zb2,List.map_cons,List.map_nil,List.length_cons,List.length_nil,Nat.reduceAdd,Nat.reduceSub,List.replicate,List.cons_append,List.nil_append]
 simp only [zho,zbd,zba,za7,zap,qg0,qg1,zbb]
 refine Wo.mono (yem h) ?_
 rintro v S1 ⟨m,F,rfl,h1,g,hm,nd,hF⟩
 have hl:F.length<=45:=by rw [(zm1 nd hF).length_eq];exact zm0 hN
 refine ⟨.ref S1.length,S1++[.lst ((sL asks rs).map L3.pD)],?_,_,rfl,zbz,g.trans ⟨_,rfl⟩,g.len⟩
 unfold zh0
 dsimp only
 rw [h1]
 dsimp only
 rw [zss]
 show (if (F.map zP).length<64 then _ else _)=_
 rw [if_pos (by rw [List.length_map];omega),zsp nd hF]
noncomputable def Tl (asks:Nat) (rs:List (List Cl)):Nat->List Nat->Nat->Prop
 | _,[],_=>False
 | r,a :: w,o=>r<rs.length/\a<asks/\((w=[]/\(cell rs r a).2=some o)∨(w≠[]/\∃r',(cell rs r a).1=some r'/\Tl asks rs r' w o))
theorem zst {asks:Nat}{rs:List (List Cl)}(ok:OkM asks rs):∀(w:List Nat) (p:BF.P),p.1<rs.length/\p.2<rs.length->BF.Fails asks (nxt rs) (fl rs) p w->∃x y,x≠y/\Tl asks rs p.1 w x/\Tl asks rs p.2 w y
 | [],p,_,h=>absurd h BF.fails_ne
 | a :: w,p,hp,h=>by
  rcases BF.fails_inv h with ⟨e,ha,hf⟩|⟨q,ha,hs,hq⟩
  ·subst e
   unfold fl unl at hf
   cases c1:(cell rs p.1 a).2 with
   | none=>rw [c1] at hf;simp at hf
   | some x =>
    cases c2:(cell rs p.2 a).2 with
    | none=>rw [c1,c2] at hf;simp at hf
    | some y =>
     rw [c1,c2] at hf
     refine ⟨x,y,fun e=>?_,⟨hp.1,ha,.inl ⟨rfl,c1⟩⟩,⟨hp.2,ha,.inl ⟨rfl,c2⟩⟩⟩
     subst e;simp at hf
  ·obtain ⟨x,y,hne,h1,h2⟩:=zst ok w q (zib ok hp ha hs) hq
   have hw:w≠[]:=fun e=>by subst e;exact BF.fails_ne hq
   unfold nxt both at hs
   cases c1:(cell rs p.1 a).1 with
   | none=>rw [c1] at hs;cases hs
   | some r1 =>
    cases c2:(cell rs p.2 a).1 with
    | none=>rw [c1,c2] at hs;cases hs
    | some r2 =>
     rw [c1,c2] at hs;cases hs
     exact ⟨x,y,hne,⟨hp.1,ha,.inr ⟨hw,r1,c1,h1⟩⟩,⟨hp.2,ha,.inr ⟨hw,r2,c2,h2⟩⟩⟩
theorem zsu {asks:Nat}{rs:List (List Cl)}{i o:Nat}{w:List Nat}{S:Sto}(h:OkM asks rs) (ht:Tl asks rs i w o) (hw:w.length<=1000):Wo (zft [mD asks rs,.int (i:Int),wD w] S) fun v S'=>∃n x as,v=.tup [.ref n,x]/\S'[n]? = some (.lst (as++[.int (o:Int)]))/\as.length+1=w.length/\Gr S S':=by
 have sz:=zb6
 unfold zft zrg
 simp only [zb2,List.map_cons,List.map_nil,List.length_cons,List.length_nil,Nat.reduceAdd,Nat.reduceSub,List.replicate,List.cons_append,List.nil_append]
 refine zaw (l':=[some (mD asks rs),some (.int (i:Int)),some (wD w),some (.ref S.length),none]) (S':=S++[.lst []]) (by simp! only [and_self];exact ⟨Nat.zero_le _,trivial⟩) ?_
 refine za1 (fun l S'=>∃x1 x4 as,l=[some (mD asks rs),some x1,some (wD w),some (.ref S.length),x4]/\S'[S.length]? = some (.lst (as++[.int (o:Int)]))/\as.length+1=w.length/\Gr S S') ?_ ?_
 ·refine yb6 (w.map fun (a:Nat)=>D.int (a:Int)) (fun k l S'=>∃x1 x4 as,l=[some (mD asks rs),some x1,some (wD w),some (.ref S.length),x4]/\S'[S.length]? = some (.lst as)/\as.length=k/\Gr S S'/\(k<w.length->∃r:Nat,x1=.int (r:Int)/\Tl asks rs r (w.drop k) o)/\(k=w.length->∃as',as=as'++[.int (o:Int)])) (fun _ _=>False) (S1:=S++[.lst []]) rfl ⟨_,_,[],rfl,zbz,rfl,⟨_,rfl⟩,fun _=>⟨i,rfl,ht⟩,fun e=>?_⟩ ?_ ?_ (fun d l' S' z=>z.elim)
  ·cases w with
   | nil=>exact ht.elim
   | cons a w=>cases e
  ·rintro k x l S2 hx ⟨x1,x4,as,rfl,s3,hk,g,hlt,_⟩
   rw [List.getElem?_map] at hx
   obtain ⟨a,ha,rfl⟩:=Option.map_eq_some_iff.mp hx
   have hkl:=(qlt ha)
   obtain ⟨r,rfl,htl⟩:=hlt hkl
   rw [List.drop_eq_getElem_cons hkl,(List.getElem?_eq_some_iff.mp ha).2] at htl
   obtain ⟨hr,haa,hor⟩:=htl
   obtain ⟨cs,c1,c2⟩:=zeo h hr haa
   simp only [za0,qs0,qs1]
   try refine ⟨by first|rfl|trivial,?_⟩
   refine zaw (l':=[some (mD asks rs),some (.int (r:Int)),some (wD w),some (.ref S.length),some (.int (a:Int))]) (S':=S2) ?_ ?_
   ·simp! only [zdl,Bool.false_eq_true,if_false,and_self]
   refine zaw (l':=[some (mD asks rs),some (.int (r:Int)),some (wD w),some (.ref S.length),some (.int (a:Int))]) (S':=S2.set S.length (.lst (as++[oD (cell rs r a).2]))) ?_ ?_
   ·rw [zc9,zc1]
    unfold mD
    simp_all! only [c1,c2,zdv s3,zfy,true_and]
    rw [zem s3 (by omega)]
    first|done|trivial|rfl|exact And.intro (by first|rfl|trivial) (by first|rfl|trivial)
   have e:Ws (zam (eOp zaj (eOp zaj (eOp zaj (eOp zaj (zaa 0) (eC (.int 1))) (zaa 1)) (zaa 4)) (eC (.int 0))) (zag 1)) [some (mD asks rs),some (.int (r:Int)),some (wD w),some (.ref S.length),some (.int (a:Int))] (S2.set S.length (.lst (as++[oD (cell rs r a).2]))) fun f l' S'=>f=.nx/\l' = [some (mD asks rs),some (oD (cell rs r a).1),some (wD w),some (.ref S.length),some (.int (a:Int))]/\S' = S2.set S.length (.lst (as++[oD (cell rs r a).2])):=by
    unfold mD
    simp! only [c1,c2]
    try exact ⟨(by first|rfl|trivial),(by first|rfl|trivial),(by first|rfl|trivial)⟩
   refine Wr.mono e ?_
   rintro f l' S' ⟨rfl,rfl,rfl⟩
   refine .inl ⟨.inl rfl,_,_,_,rfl,zcj s3,by simp [hk],g.set (Nat.le_refl _) _,fun hlt'=>?_,fun he=>?_⟩
   ·rcases hor with ⟨hnil,_⟩|⟨_,r',hr',ht'⟩
    ·have:=congrArg List.length hnil
     rw [List.length_drop,List.length_nil] at this;omega
    ·exact ⟨r',by rw [hr'];rfl,ht'⟩
   ·rcases hor with ⟨_,ho⟩|⟨hnil,_⟩
    ·exact ⟨as,by rw [ho];rfl⟩
    ·exact absurd (List.drop_of_length_le (by omega)) hnil
  ·rintro l' S' ⟨x1,x4,as,rfl,s3,hk,g,_,hlast⟩
   rw [List.length_map] at hk hlast
   obtain ⟨as',rfl⟩:=hlast rfl
   exact ⟨rfl,_,_,as',rfl,s3,by simpa using hk,g⟩
 rintro l S2 ⟨x1,x4,as,rfl,s3,hl,g⟩
 simp! only [zap]
 try refine ⟨by omega,?_⟩
 exact ⟨_,_,as,rfl,s3,hl,g⟩
theorem zsv {asks:Nat}{rs:List (List Cl)}:∀{w:List Nat}{r o:Nat},Tl asks rs r w o->∀a∈w,a<asks
 | [],_,_,h,_,_=>h.elim
 | b :: w,r,o,⟨_,hb,hor⟩,a,ha=>by
  rcases List.mem_cons.mp ha with rfl|ha
  ·exact hb
  ·rcases hor with ⟨rfl,_⟩|⟨_,r',_,ht⟩
   ·cases ha
   ·exact zsv ht a ha
theorem yeq {asks:Nat}{rs:List (List Cl)}{w:List Nat}{r o:Nat}(h:Tl asks rs r w o):w≠[]:=fun e=>by subst e;exact h
noncomputable def pyW (w:List Nat):List PyData:=w.map fun (a:Nat)=>PyData.int (a:Int)
theorem zm3 {S:Sto}{k:Nat}:∀{w:List Nat},(∀a∈w,a<1000)->zb9 S (k+1) (w.map fun (a:Nat)=>D.int (a:Int))=some (pyW w)
 | [],_=>by unfold zb9;rfl
 | a :: w,h=>by
  rw [List.map_cons]
  unfold zb9
  have e:zax S (k+1) (D.int (a:Int))=some (PyData.int (a:Int)):=by
   unfold zax
   rw [if_pos (zq9 (by have:=h a List.mem_cons_self;omega))]
  show (zax S (k+1) (D.int (a:Int))).bind _=_
  rw [e]
  show (zb9 S (k+1) (w.map fun (a:Nat)=>D.int (a:Int))).bind _=_
  rw [zm3 (fun b hb=>h b (List.mem_cons_of_mem _ hb))];rfl
theorem zm4:∀w:List Nat,PyData.canLayAll0 (pyW w)=true
 | []=>by simp [pyW,PyData.canLayAll0]
 | a :: w=>by
  show PyData.canLayAll0 (PyData.int (a:Int) :: pyW w)=true
  simp only [PyData.canLayAll0,PyData.canLay0,Bool.true_and];exact zm4 w
theorem yer {S:Sto}{w:List Nat}{Q:D->Sto->Prop}(h:∀a∈w,a<1000) (hn:w≠[]):Wo (zgf (wD w) (.tup []) S) Q=Q (.bl false) S:=by
 have h1:zax S 60 (wD w)=some (.tuple (pyW w)):=by
  unfold wD zax
  rw [zm3 h];rfl
 have h2:zax S 60 (.tup [])=some (.tuple []):=by
  unfold zax zb9;rfl
 have c1:(PyData.tuple (pyW w)).canLay0=true:=by rw [PyData.canLay0];exact zm4 w
 have c2:(PyData.tuple []).canLay0=true:=by rw [PyData.canLay0];exact zm4 []
 have e:(PyData.tuple (pyW w)).eqv (.tuple [])=false:=by
  cases w with
  | nil=>exact absurd rfl hn
  | cons a w =>
   show (PyData.tuple (PyData.int (a:Int) :: pyW w)).eqv (.tuple [])=false
   simp [PyData.eqv,PyData.eqvAll]
 have:zgf (wD w) (.tup []) S=some (.bl false,S):=by
  unfold zgf;rw [h1];show (zax S 60 (.tup [])).bind _=_;rw [h2];show (if _ then _ else _)=_;rw [if_pos ⟨c1,c2⟩,e]
 rw [this,zbu]
theorem zsw {as:List D}{x:D}:L2.atI (as++[x]) (-1)=some x:=by
 unfold L2.atI
 have:L2.ixN (as++[x]).length (-1)=some as.length:=by
  unfold L2.ixN
  simp
  try omega
 rw [this]
 simp
theorem zsx {i:Int}{S:Sto}{Q:D->Sto->Prop}:Wo (zgg (.int i) S) Q=Q (.int (-i)) S:=zbu
theorem yet {asks:Nat}{rs:List (List Cl)}{i j x y:Nat}{w:List Nat}{S:Sto}(h:OkM asks rs) (hx:Tl asks rs i w x) (hy:Tl asks rs j w y) (hne:x≠y) (hw:w.length<=1000):Wo (zfu [mD asks rs,.int (i:Int),.int (j:Int),wD w] S) fun v S'=>v=.bl true/\Gr S S':=by
 have sz:=zb6
 have a4:=h.a4
 have hlt:∀a∈w,a<1000:=fun a ha=>by have:=zsv hx a ha;omega
 unfold zfu zrh
 simp only [zb2,List.map_cons,List.map_nil,List.length_cons,List.length_nil,Nat.reduceAdd,Nat.reduceSub,List.replicate,List.cons_append,List.nil_append]
 refine zaw (l':=[some (mD asks rs),some (.int (i:Int)),some (.int (j:Int)),some (wD w),none,none]) (S':=S) ?_ ?_
 ·refine zc3 (fun b S'=>b=false/\S' = S) ?_ (fun S1 z=>absurd z.1 (by simp)) ?_
  ·rw [zgc,zgd]
   have hisT:Wt (tE (eUn (zeu "tuple") (zaa 3))) [some (mD asks rs),some (.int (i:Int)),some (.int (j:Int)),some (wD w),none,none] S fun k S1=>k=true/\S1=S:=by
    unfold wD
    simp_all! only [zap]
    first|exact ⟨(by first|rfl|trivial),(by first|rfl|trivial)⟩|exact ⟨(by first|rfl|trivial)⟩
   obtain ⟨k,S1,e,rfl,rfl⟩:=hisT
   refine ⟨_,_,e,?_⟩
   show if (!true)=true then _ else _
   rw [if_neg (by simp)]
   simp only [zd5,zdp,zbd,za7,zap,qg0,qg1,zbb,zdq,List.length_nil]
   refine ⟨Nat.zero_le _,?_⟩
   rw [yer hlt (yeq hx)]
   exact ⟨_,rfl,(by first|rfl|trivial),(by first|rfl|trivial)⟩
  ·rintro S1 ⟨_,rfl⟩
   rw [zc8]
   first|exact ⟨(by first|rfl|trivial),(by first|rfl|trivial),(by first|rfl|trivial)⟩|exact ⟨(by first|rfl|trivial),(by first|rfl|trivial)⟩
 refine za1 (fun l S'=>∃n as,l=[some (mD asks rs),some (.int (i:Int)),some (.int (j:Int)),some (wD w),some (.ref n),none]/\S'[n]? = some (.lst (as++[.int (x:Int)]))/\as.length+1=w.length/\Gr S S') ?_ ?_
 ·simp only [zby,zdp,zbd,zba,za7,zap,zd4,qg0,qg1,zbb]
  refine Wo.mono (zsu h hx hw) ?_
  rintro v S' ⟨n,z,as,rfl,s,hl,g⟩
  simp_all! only [zap]
  first|exact ⟨(by first|rfl|trivial),n,as,rfl,s,hl,g⟩|exact ⟨n,as,rfl,s,hl,g⟩
 rintro l S1 ⟨n1,as,rfl,s1,hl1,g1⟩
 refine za1 (fun l S'=>∃n bs,l=[some (mD asks rs),some (.int (i:Int)),some (.int (j:Int)),some (wD w),some (.ref n1),some (.ref n)]/\S'[n]? = some (.lst (bs++[.int (y:Int)]))/\bs.length+1=w.length/\Gr S1 S') ?_ ?_
 ·simp only [zby,zdp,zbd,zba,za7,zap,zd4,qg0,qg1,zbb]
  refine Wo.mono (zsu h hy hw) ?_
  rintro v S' ⟨n,z,as,rfl,s,hl,g⟩
  simp_all! only [zap]
  first|exact ⟨(by first|rfl|trivial),n,as,rfl,s,hl,g⟩|exact ⟨n,as,rfl,s,hl,g⟩
 rintro l S2 ⟨n2,bs,rfl,s2,hl2,g2⟩
 have s1':=g2.get s1
 have q1:=zcg s1'
 have q2:=zcg s2
 have e1:((as.length:Int)+1=(w.length:Int)):=by omega
 have e2:((bs.length:Int)+1=(w.length:Int)):=by omega
 refine zaw (l':=[some (mD asks rs),some (.int (i:Int)),some (.int (j:Int)),some (wD w),some (.ref n1),some (.ref n2)]) (S':=S2) ?_ ?_
 ·refine zc3 (fun b S'=>b=false/\S' = S2) ?_ (fun S1 z=>absurd z.1 (by simp)) ?_
  ·have sz2:2<=sizeLine:=by omega
   unfold wD
   simp_all! only [q1,q2,List.length_append,List.length_map,List.length_cons,List.length_nil,hl1,hl2,zsx,zsw,sz2,true_and,decide_true,Bool.not_true,Bool.false_eq_true,if_false,ne_eq,not_true,decide_false]
   have:∀Q:D->Sto->Prop,Wo (dIn false .non (.tup [.int (x:Int),.int (y:Int)]) S2) Q=Q (.bl false) S2:=fun Q=>zjw (x:=some x) (y:=some y) (neg:=false)
   simp only [Nat.zero_add,hl1,hl2,this]
   exact ⟨false,rfl,(by first|rfl|trivial),(by first|rfl|trivial)⟩
  ·rintro S1 ⟨_,rfl⟩
   rw [zc8]
   first|exact ⟨(by first|rfl|trivial),(by first|rfl|trivial),(by first|rfl|trivial)⟩|exact ⟨(by first|rfl|trivial),(by first|rfl|trivial)⟩
 have hxy:¬((x:Int)=(y:Int)):=by omega
 simp! only [q1,q2,zsx,zsw,hxy,decide_false,Bool.not_false]
 first|exact ⟨(by first|rfl|trivial),g1.trans g2⟩|exact ⟨g1.trans g2⟩
theorem zj3 {asks:Nat}{rs:List (List Cl)}{kvs:Tb}(F:FarOk asks rs kvs) {p:BF.P}(hp:p.1<rs.length/\p.2<rs.length):(zaq kvs (pK p)).isSome=true↔Pt asks rs p:=by
 rw [pt_iff]
 constructor
 ·intro h
  apply Classical.byContradiction
  intro hn
  rw [F.no p hp fun m d=>hn ⟨m,d⟩] at h
  cases h
 ·rintro ⟨m,d⟩
  rw [(F.yes p m hp d).1];rfl
noncomputable def upF:D->Option D
 | .tup [.int a,.int b]=>if a<b then some (.tup [.int a,.int b]) else none
 | _=>none
theorem zm5 (p:BF.P):upF (pD p)=if p.1<p.2 then some (pD p) else none:=by
 show (if (p.1:Int)<(p.2:Int) then _ else _)=_
 by_cases c:p.1<p.2
 ·rw [if_pos c,if_pos (by omega)];rfl
 ·rw [if_neg c,if_neg (by omega)]
theorem yeu (ps:List BF.P):(ps.map pD).filterMap upF=(ps.filter fun p=>decide (p.1<p.2)).map pD:=by
 induction ps with
 | nil=>rfl
 | cons p ps ih =>
  rw [List.map_cons]
  by_cases c:p.1<p.2
  ·rw [List.filterMap_cons_some (by rw [zm5,if_pos c]),List.filter_cons_of_pos (by simpa using c),List.map_cons,ih]
  ·rw [List.filterMap_cons_none (by rw [zm5,if_neg c]),List.filter_cons_of_neg (by simpa using c),ih]
theorem zsy:∀ps:List BF.P,zhy (ps.map pD)=some (ps.map zP)
 | []=>rfl
 | p :: ps=>by
  show (dPr (pD p)).bind _=_
  show (zhy (ps.map pD)).bind _=_
  rw [zsy ps];rfl
theorem yev {asks:Nat}{rs:List (List Cl)}{S:Sto}{n:Nat}{kvs:Tb}{ks:List BF.P}{l:Lo}{Q:D->Sto->Prop}(h:OkM asks rs) (hN:rs.length<=10) (l3:l[3]? = some (some (.ref n))) (hn:S[n]? = some (.tdct kvs)) (F:FarOk asks rs kvs) (hk:Ks rs.length kvs ks)
  (q:∀m S',S'[m]? = some (.lst ((sL asks rs).map L3.pD))->Gr (S.set n (.ftdct kvs)) S'->Q (.ref m) S') :
  We (zaf zgn (zac (zbo (zhz (zaa 3)) [none] (zag 0) (tE (eOp dLt (eOp zaj (zaa 0) (eC (.int 0))) (eOp zaj (zaa 0) (eC (.int 1))))) (zaa 0)) (zae))) l S Q:=by
 have sz:=zb6
 have hks:=BF.few2 ks hk.nd hk.inn
 have h2:rs.length*rs.length<=10*10:=Nat.mul_le_mul hN hN
 have hkl:=hk.len
 have ek:(kvs.map fun q=>tD q.1)=ks.map pD:=by
  have:(kvs.map (·.1)).map tD=(ks.map pK).map tD:=by rw [hk.e]
  rw [List.map_map,List.map_map] at this
  exact this
 have him:zhz (zaa 3) l S=some (itX (ks.map pD),(ks.map pD).length+1,S.set n (.ftdct kvs)):=by
  have v3:zaa 3 l S=some (.ref n,S):=by unfold zaa;rw [l3]
  unfold zhz
  rw [v3]
  dsimp only [Option.bind_some]
  rw [hn]
  dsimp only
  rw [ek,List.length_map,hkl]
 simp only [zbd,zba,za7]
 refine zmj (ks.map pD) upF (fun T=>T=S.set n (.ftdct kvs)) (fun l=>∃x0,l=[x0]) him rfl ⟨none,rfl⟩ (fun i T _=>rfl) (by rw [List.length_map];omega) ?_ ?_
 ·rintro x l T hx ⟨x0,rfl⟩ hT
  obtain ⟨p,hp,rfl⟩:=List.mem_map.mp hx
  simp only [za0,qs0]
  refine ⟨⟨_,rfl⟩,?_⟩
  rw [zm5]
  have e:Wt (tE (eOp dLt (eOp zaj (zaa 0) (eC (.int 0))) (eOp zaj (zaa 0) (eC (.int 1))))) [some (pD p)] T fun b S3=>b=decide (p.1<p.2)/\S3=T:=by
   unfold pD
   simp_all! only [zap]
   refine ⟨?_,(by first|rfl|trivial)⟩
   by_cases c:p.1<p.2
   ·rw [decide_eq_true c,decide_eq_true (by omega)]
   ·rw [decide_eq_false c,decide_eq_false (by omega)]
  obtain ⟨b,S3,e1,rfl,rfl⟩:=e
  refine ⟨_,_,e1,hT,fun hb=>?_,fun hb=>?_⟩
  ·rw [if_neg (of_decide_eq_false hb)]
  ·rw [if_pos (of_decide_eq_true hb)]
   exact ⟨_,_,rfl,rfl,hT⟩
 ·rintro T rfl
  rw [yeu]
  have hnd:(ks.filter fun p=>decide (p.1<p.2)).Nodup:=hk.nd.filter _
  have hmem:∀p,p∈(ks.filter fun p=>decide (p.1<p.2))↔InP rs p/\Pt asks rs p:=fun p=>by
   rw [List.mem_filter]
   have hg:=hk.get p
   constructor
   ·rintro ⟨h1,h3⟩
    have hin:=hk.inn p h1
    refine ⟨⟨of_decide_eq_true h3,hin.2⟩,(zj3 F hin).mp ?_⟩
    rw [hg];exact decide_eq_true h1
   ·rintro ⟨h1,h3⟩
    have:=(zj3 F h1.both).mpr h3
    rw [hg] at this
    exact ⟨of_decide_eq_true this,decide_eq_true h1.1⟩
  have hl:(ks.filter fun p=>decide (p.1<p.2)).length<=45:=by rw [(zm1 hnd hmem).length_eq];exact zm0 hN
  obtain ⟨T2,hT2⟩:∃T2:Sto,T2=(S.set n (.ftdct kvs))++[.lst ((ks.filter fun p=>decide (p.1<p.2)).map pD)]:=⟨_,rfl⟩
  have hq2:lstOf T2 (S.set n (.ftdct kvs)).length=some ((ks.filter fun p=>decide (p.1<p.2)).map pD):=by rw [hT2];exact zdu
  rw [←hT2]
  refine ⟨.ref T2.length,T2++[.lst ((sL asks rs).map L3.pD)],?_,q _ _ zbz (Gr.trans (B:=T2) ⟨_,hT2⟩ ⟨_,rfl⟩)⟩
  unfold zgn
  dsimp only
  rw [hq2]
  dsimp only [Option.bind_some]
  rw [zsy]
  dsimp only [Option.bind_some]
  have hz:((ks.filter fun p=>decide (p.1<p.2)).map zP).Nodup:=List.Pairwise.map _ (fun a b hab e=>hab (yen e)) hnd
  rw [if_pos ⟨hz,by rw [List.length_map];omega⟩,zsp hnd hmem]
theorem Pn.gr {ns:List Int}{rest:Sto}{k:Int}{S S':Sto}(h:Pn ns rest k S) (g:Gr S S'):Pn ns rest k S':=by
 obtain ⟨a,r,ex,rfl,h1,h2,h3⟩:=h
 obtain ⟨x,rfl⟩:=g
 exact ⟨a,r,ex++x,by unfold St;simp,h1,h2,h3⟩
theorem Pn.len {ns:List Int}{rest:Sto}{k:Int}{S:Sto}(h:Pn ns rest k S):2<=S.length:=by
 obtain ⟨a,r,ex,rfl,_⟩:=h
 unfold St;simp
theorem Pn.hold {ns:List Int}{rest:Sto}{k:Int}{S:Sto}(h:Pn ns rest k S):∃R,Pn ns R k S/\(∀k' S',Pn ns R k' S'->Pn ns rest k' S')/\∀k' S',Pn ns R k' S'->∀n o,2<=n->S[n]? = some o->S'[n]? = some o:=by
 obtain ⟨a,r,ex,rfl,h1,h2,h3⟩:=h
 refine ⟨rest++ex,⟨a,r,[],by simp,h1,h2,h3⟩,fun k' S' p=>p.start,?_⟩
 rintro k' S' ⟨a',r',ex',rfl,_⟩ n o hn ho
 obtain ⟨m,rfl⟩:∃m,n=m+2:=⟨n-2,by omega⟩
 have ho:(rest++ex)[m]? = some o:=ho
 show ((rest++ex)++ex')[m]? = some o
 rw [List.getElem?_append_left (qlt ho)];exact ho
theorem yew {n:Nat}{S:Sto}{xs:List D}{Q:D->Sto->Prop}(h:S[n]? = some (.lst xs)):Wo (zeu "list" (.ref n) S) Q=Q (.bl true) S:=by
 have:zeu "list" (.ref n) S=some (.bl true,S):=by
  unfold zeu tyD;simp only [h];rfl
 rw [this];exact zbu
theorem yex {n:Nat}{S:Sto}{xs:List D}{Q:D->Sto->Prop}(h1:S[n]? = some (.lst xs)):Wo (zff (.ref n) [] S) Q=Q .non (S.set n (.lst xs.reverse)):=by
 have:zff (.ref n) [] S=some (.non,S.set n (.lst xs.reverse)):=by unfold zff;dsimp only;rw [h1]
 rw [this,zbu]
theorem yey {asks:Nat}{rs:List (List Cl)}{S:Sto}{j:Nat}(hN:rs.length<=10) (h:S[j]? = some (.lst ((sL asks rs).map L3.pD))):Sh S 140 13000 (.ref j):=by
 have hl:=zsq (asks:=asks) hN
 refine (yca (k:=139) (B:=30) (n:=45) (zcg h) (fun x hx=>?_) (by rw [List.length_map];omega)).le (by decide)
 obtain ⟨z,hz,rfl⟩:=List.mem_map.mp hx
 obtain ⟨p,rfl,hp⟩:=zsr hz
 have hp1:=hp.1
 have hp2:=hp.2
 refine (yb9 (k:=138) (B:=10) (n:=2) (xs:=[.int (p.1:Int),.int (p.2:Int)]) (fun x hx=>?_) (by simp)).le (by decide)
 rcases List.mem_cons.mp hx with rfl|hx
 ·exact zra (k:=137) (by omega)
 ·rcases List.mem_cons.mp hx with rfl|hx
  ·exact zra (k:=137) (by omega)
  ·cases hx
theorem zm6 {asks:Nat}{rs:List (List Cl)}{S S':Sto}{i j:Nat}(hN:rs.length<=10) (h1:S[i]? = some (.lst ((sL asks rs).map L3.pD))) (h2:S'[j]? = some (.lst ((sL asks rs).map L3.pD))):∃p:PyData,p.shown.length<=13000/\zax S 140 (.ref i)=some p/\zax S' 140 (.ref j)=some p:=by
 have e:∀(T:Sto) (zs:List SP.Pr),(∀z∈zs,∃p:BF.P,z=zP p/\p.1<1000/\p.2<1000)->zb9 T 139 (zs.map L3.pD)=some (zs.map fun z=>PyData.tuple [.int z.1,.int z.2]):=by
  intro T zs
  induction zs with
  | nil=>intro _;unfold zb9;rfl
  | cons z zs ih =>
   intro hz
   obtain ⟨p,rfl,hp1,hp2⟩:=hz z List.mem_cons_self
   rw [List.map_cons]
   unfold zb9
   have e1:zax T 139 (L3.pD (zP p))=some (.tuple [.int (p.1:Int),.int (p.2:Int)]):=by
    have:=zm3 (S:=T) (k:=137) (w:=[p.1,p.2]) (fun a ha=>by
     rcases List.mem_cons.mp ha with rfl|ha
     ·exact hp1
     ·rw [List.mem_singleton.mp ha];exact hp2)
    unfold L3.pD zP zax
    have this:zb9 T 138 [D.int (p.1:Int),D.int (p.2:Int)]=some [.int (p.1:Int),.int (p.2:Int)]:=this
    rw [this];rfl
   show (zax T 139 (L3.pD (zP p))).bind _=_
   rw [e1]
   show (zb9 T 139 (zs.map L3.pD)).bind _=_
   rw [ih fun z hz'=>hz z (List.mem_cons_of_mem _ hz')];rfl
 have hs:∀z∈sL asks rs,∃p:BF.P,z=zP p/\p.1<1000/\p.2<1000:=fun z hz=>by
  obtain ⟨p,hp,hi⟩:=zsr hz
  have:=hi.1
  have:=hi.2
  exact ⟨p,hp,by omega,by omega⟩
 obtain ⟨p,hp,hpy⟩:=yey hN h1
 have g1:zax S 140 (.ref i)=some (.list ((sL asks rs).map fun z=>PyData.tuple [.int z.1,.int z.2])):=by
  unfold zax;rw [zcg h1];dsimp only [Option.bind_some];rw [e S _ hs];rfl
 have g2:zax S' 140 (.ref j)=some (.list ((sL asks rs).map fun z=>PyData.tuple [.int z.1,.int z.2])):=by
  unfold zax;rw [zcg h2];dsimp only [Option.bind_some];rw [e S' _ hs];rfl
 refine ⟨p,hp,hpy S (Gr.refl _),?_⟩
 rw [g2,←g1];exact hpy S (Gr.refl _)
theorem zsz {asks:Nat}{rs:List (List Cl)}{kvs:Tb}{p:BF.P}{r:Option (List Nat)}(h:OkM asks rs) (F:FarOk asks rs kvs) (hp:p.1<rs.length/\p.2<rs.length) (hw:Wk asks rs rs p r):((zaq kvs (pK p)).isSome=false/\r=none)∨((zaq kvs (pK p)).isSome=true/\∃w x y,r=some w/\x≠y/\Tl asks rs p.1 w x/\Tl asks rs p.2 w y/\w.length<=1000):=by
 cases r with
 | none =>
  refine .inl ⟨?_,rfl⟩
  cases c:(zaq kvs (pK p)).isSome with
  | false=>rfl
  | true =>
   obtain ⟨w,hf⟩:=(zj3 F hp).mp c
   exact absurd hf (hw w)
 | some w =>
  have hw:BF.Least asks (nxt rs) (fl rs) p w:=hw
  obtain ⟨m,_,d⟩:=BF.Ds.of ⟨w,hw.1,rfl⟩
  have hm:=(F.yes p m hp d).2
  have hl:=hw.len d
  obtain ⟨x,y,hne,h1,h2⟩:=zst h w p hp hw.1
  exact .inr ⟨(zj3 F hp).mpr ⟨w,hw.1⟩,w,x,y,rfl,hne,h1,h2,by omega⟩
theorem yez {n:Nat}{S:Sto}{kvs:Tb}{y:D}{k:List L2.Key}(h:S[n]? = some (.ftdct kvs)) (hk:zcp y=some k):dRd S (.ref n) y=some (zaq kvs k):=by
 unfold dRd;dsimp only;rw [h];dsimp only;rw [hk];rfl
theorem ye0 {ns:List Int}{R:Sto}{k:Int}{S:Sto}{asks:Nat}{rs:List (List Cl)}{n3:Nat}{kvs:Tb}{x4 x5 x6 x7 x8 x9 x10:Option D}(ok:OkM asks rs) (hN:rs.length<=10) (p:Pn ns R k S) (hk:k<700000000) (F:FarOk asks rs kvs) (keep:∀k' S',Pn ns R k' S'->S'[n3]? = some (.ftdct kvs)) :
  Ws (zai (zam (zaf zbk (zac (zaa 0) (zac (zaa 2) (zae)))) (zag 8)) (zai (zam (zaf zbk (zac (zaa 0) (zac (zaa 2) (zae)))) (zag 9)) (zai (zam (zaf zfw (zac (zaa 1) (zac (zaa 8) (zac (zaa 9) (zae))))) (zag 10)) (zai (sIf (zck (tE (eOp (zct true) (zaf za2 (zac (zaa 8) (zac (zaa 9) (zae)))) (zaa 3))) (tE (eOp zcy (zaa 10) (eC .non)))) (za9 (eC (.bl false))) (zbj)) (sIf (zck (tE (eOp (zct false) (zaf za2 (zac (zaa 8) (zac (zaa 9) (zae)))) (zaa 3))) (zeq (tE (zaf zfu (zac (zaa 1) (zac (zaa 8) (zac (zaa 9) (zac (zaa 10) (zae))))))))) (za9 (eC (.bl false))) (zbj)))))) [some (.ref 1),some (mD asks rs),some (.int (rs.length:Int)),some (.ref n3),x4,x5,x6,x7,x8,x9,x10] S
   fun f l' S'=>f=.nx/\(∃y8 y9 y10,l' = [some (.ref 1),some (mD asks rs),some (.int (rs.length:Int)),some (.ref n3),x4,x5,x6,x7,y8,y9,y10])/\Pn ns R (k+2) S':=by
 have sz:=zb6
 have r1:=ok.r1
 have sz2:2<=sizeLine:=by omega
 refine za1 (fun l S'=>∃i:Nat,i<rs.length/\l=[some (.ref 1),some (mD asks rs),some (.int (rs.length:Int)),some (.ref n3),x4,x5,x6,x7,some (.int (i:Int)),x9,x10]/\Pn ns R (k+1) S') ?_ ?_
 ·simp only [zby,zbd,zba,za7,zap,qg0,qg1,zbb]
  refine Wo.mono (zcv ns R S k (rs.length:Int) p (by omega) (by omega) (by omega)) ?_
  rintro v S' ⟨⟨d,rfl,d0,d1⟩,p1⟩
  simp only [za0,qs0,qs1]
  have e:((d.toNat:Nat):Int)=d:=Int.toNat_of_nonneg d0
  first|exact ⟨(by first|rfl|trivial),d.toNat,by omega,by rw [e],p1⟩|exact ⟨d.toNat,by omega,by rw [e],p1⟩
 rintro l S1 ⟨i,hi,rfl,p1⟩
 refine za1 (fun l S'=>∃j:Nat,j<rs.length/\l=[some (.ref 1),some (mD asks rs),some (.int (rs.length:Int)),some (.ref n3),x4,x5,x6,x7,some (.int (i:Int)),some (.int (j:Int)),x10]/\Pn ns R (k+2) S') ?_ ?_
 ·simp only [zby,zbd,zba,za7,zap,qg0,qg1,zbb]
  refine Wo.mono (zcv ns R S1 (k+1) (rs.length:Int) p1 (by omega) (by omega) (by omega)) ?_
  rintro v S' ⟨⟨d,rfl,d0,d1⟩,p1⟩
  simp only [za0,qs0,qs1]
  have e:((d.toNat:Nat):Int)=d:=Int.toNat_of_nonneg d0
  first|exact ⟨(by first|rfl|trivial),d.toNat,by omega,by rw [e],p1.mono (by omega)⟩|exact ⟨d.toNat,by omega,by rw [e],p1.mono (by omega)⟩
 rintro l S2 ⟨j,hj,rfl,p2⟩
 refine za1 (fun l S'=>∃r,Wk asks rs rs (i,j) r/\l=[some (.ref 1),some (mD asks rs),some (.int (rs.length:Int)),some (.ref n3),x4,x5,x6,x7,some (.int (i:Int)),some (.int (j:Int)),some (zd7 r)]/\Pn ns R (k+2) S') ?_ ?_
 ·simp only [zby,zbd,zba,za7,zap,qg0,qg1,zbb]
  refine Wo.mono (ydm ok hi hj) ?_
  rintro v S' ⟨g,r,rfl,hw⟩
  simp only [za0,qs0,qs1]
  first|exact ⟨(by first|rfl|trivial),r,hw,rfl,p2.gr g⟩|exact ⟨r,hw,rfl,p2.gr g⟩
 rintro l S3 ⟨r,hw,rfl,p3⟩
 have hrd:∀T,Pn ns R (k+2) T->dRd T (.ref n3) (.tup [.int (i:Int),.int (j:Int)])=some (zaq kvs (pK (i,j))):=fun T hT=>yez (keep _ _ hT) (zde (i,j))
 have hr3:=hrd S3 p3
 refine zaw (l':=[some (.ref 1),some (mD asks rs),some (.int (rs.length:Int)),some (.ref n3),x4,x5,x6,x7,some (.int (i:Int)),some (.int (j:Int)),some (zd7 r)]) (S':=S3) ?_ ?_
 ·refine zc3 (fun b S'=>b=false/\S' = S3) ?_ (fun S1 z=>absurd z.1 (by simp)) ?_
  ·rcases zsz ok F ⟨hi,hj⟩ hw with ⟨hs,rfl⟩|⟨hs,_⟩
   ·simp_all! only [sz2,true_and,zfs,hr3,if_true,hs,Bool.not_false,zd7,zdl,Bool.not_true]
    all_goals first|trivial|exact And.intro (by first|rfl|trivial) (by first|rfl|trivial)
   ·simp_all! only [sz2,true_and,zfs,hr3,if_true,hs,Bool.not_true,Bool.false_eq_true,if_false]
    all_goals first|trivial|exact And.intro (by first|rfl|trivial) (by first|rfl|trivial)
  ·rintro S1 ⟨_,rfl⟩
   rw [zc8]
   first|exact ⟨(by first|rfl|trivial),(by first|rfl|trivial),(by first|rfl|trivial)⟩|exact ⟨(by first|rfl|trivial),(by first|rfl|trivial)⟩
 refine zc3 (fun b S'=>b=false/\Gr S3 S') ?_ (fun S1 z=>absurd z.1 (by simp)) ?_
 ·rcases zsz ok F ⟨hi,hj⟩ hw with ⟨hs,rfl⟩|⟨hs,w,x,y,rfl,hne,h1,h2,hl⟩
  ·simp_all! only [sz2,true_and,zfs,hr3,if_true,hs,Bool.false_eq_true,if_false]
   exact Gr.refl _
  ·simp_all! only [sz2,true_and,zfs,hr3,if_true,hs,Bool.false_eq_true,if_false,zd7]
   refine Wo.mono (yet ok h1 h2 hne hl) ?_
   rintro v S' ⟨rfl,g⟩
   exact ⟨true,rfl,rfl,g⟩
 ·rintro S5 ⟨_,g⟩
  rw [zc8]
  exact ⟨rfl,⟨_,_,_,rfl⟩,p3.gr g⟩
theorem ye1 {ns:List Int}{rest:Sto}{k:Int}{S:Sto}{asks:Nat}{rs:List (List Cl)}(ok:OkM asks rs) (hN:rs.length<=10) (p:Pn ns rest k S) (hk:k<600000000):Wo (zgw [.ref 1,mD asks rs] S) fun v S'=>v=.bl true/\Pn ns rest (k+12) S':=by
 have sz:=zb6
 have sz2:2<=sizeLine:=by omega
 have hSl:=p.len
 unfold zgw zrv
 simp only [zb2,List.map_cons,List.map_nil,List.length_cons,List.length_nil,Nat.reduceAdd,Nat.reduceSub,List.replicate,List.cons_append,List.nil_append]
 refine zaw (l':=[some (.ref 1),some (mD asks rs),some (.int (rs.length:Int)),none,none,none,none,none,none,none,none]) (S':=S) ?_ ?_
 ·unfold mD
  simp! only [List.length_map]
  all_goals first|trivial|exact ⟨(by first|rfl|trivial),(by first|rfl|trivial),(by first|rfl|trivial)⟩
 refine za1 (fun l S'=>∃n3 kvs ks,l=[some (.ref 1),some (mD asks rs),some (.int (rs.length:Int)),some (.ref n3),none,none,none,none,none,none,none]/\S'[n3]? = some (.tdct kvs)/\FarOk asks rs kvs/\S.length<=n3/\Ks rs.length kvs ks/\Gr S S') ?_ ?_
 ·simp only [zby,zbd,zba,za7,zap,qg0,qg1,zbb]
  refine Wo.mono (ydt ok) ?_
  rintro v S' ⟨g,n3,kvs,rfl,s3,F,hn,ks,hks⟩
  simp only [za0,qs0,qs1]
  first|exact ⟨(by first|rfl|trivial),n3,kvs,ks,rfl,s3,F,hn,hks,g⟩|exact ⟨n3,kvs,ks,rfl,s3,F,hn,hks,g⟩
 rintro l S2 ⟨n3,kvs,ks,rfl,s3,F,hn3,hks,g2⟩
 refine za1 (fun l S'=>∃m4,l=[some (.ref 1),some (mD asks rs),some (.int (rs.length:Int)),some (.ref n3),some (.ref m4),none,none,none,none,none,none]/\S'[n3]? = some (.ftdct kvs)/\S'[m4]? = some (.lst ((sL asks rs).map L3.pD))/\Gr S S') ?_ ?_
 ·rw [zby]
  refine yev ok hN rfl s3 F hks fun m S' hm g=>?_
  simp only [za0,qs0,qs1]
  first|exact ⟨(by first|rfl|trivial),m,rfl,g.get (zcj s3),hm,(g2.set hn3 _).trans g⟩|exact ⟨m,rfl,g.get (zcj s3),hm,(g2.set hn3 _).trans g⟩
 rintro l S3 ⟨m4,rfl,t3,t4,g3⟩
 refine za1 (fun l S'=>∃x5 x6,l=[some (.ref 1),some (mD asks rs),some (.int (rs.length:Int)),some (.ref n3),some (.ref m4),x5,x6,none,none,none,none]/\S'[n3]? = some (.ftdct kvs)/\Gr S S') ?_ ?_
 ·refine zh7 (fun c l S'=>∃x5 x6,l=[some (.ref 1),some (mD asks rs),some (.int (rs.length:Int)),some (.ref n3),some (.ref m4),x5,x6,none,none,none,none]/\S'[n3]? = some (.ftdct kvs)/\S'[m4]? = some (.lst ((sL asks rs).map L3.pD))/\Gr S S') (fun _ _=>False) (n:=2) rfl (by decide) ⟨_,_,rfl,t3,t4,g3⟩ ?_ (fun l' S' ⟨x5,x6,e,a,_,b⟩=>⟨rfl,x5,x6,e,a,b⟩) (fun d l' S' z=>z.elim)
  rintro c l S4 hc ⟨x5,x6,rfl,t3,t4,g4⟩
  simp only [za0,qs0,qs1]
  have l3:=(qlt t3)
  have l4:=(qlt t4)
  refine za1 (fun l S'=>∃m6,l=[some (.ref 1),some (mD asks rs),some (.int (rs.length:Int)),some (.ref n3),some (.ref m4),some (.int (c:Int)),some (.ref m6),none,none,none,none]/\S'[m6]? = some (.lst ((sL asks rs).map L3.pD))/\Gr S4 S'/\S4.length<=m6) ?_ ?_
  ·simp only [zby,zbd,zba,za7,zap,qg0,qg1,zbb]
   refine Wo.mono (zm2 ok hN) ?_
   rintro v S' ⟨m,rfl,a,b,d⟩
   simp only [za0,qs0,qs1]
   first|exact ⟨(by first|rfl|trivial),m,rfl,a,b,d⟩|exact ⟨m,rfl,a,b,d⟩
  rintro l S5 ⟨m6,rfl,t6,g5,hm6⟩
  have g45:=g4.len
  refine zaw (l':=[some (.ref 1),some (mD asks rs),some (.int (rs.length:Int)),some (.ref n3),some (.ref m4),some (.int (c:Int)),some (.ref m6),none,none,none,none]) (S':=S5) ?_ ?_
  ·refine zc3 (fun b S'=>b=false/\S' = S5) ?_ (fun S z=>absurd z.1 (by simp)) ?_
   ·obtain ⟨pd,hz,hp1,hp2⟩:=zm6 hN t6 (g5.get t4)
    simp only [zgc,zgd,zd5,zi2,zdp,zbd,zba,za7,zap,qg0,qg1,zbb]
    rw [yew t6]
    refine ⟨true,rfl,?_⟩
    rw [if_neg (by simp),zjs hp1 (by omega),zjs hp2 (by omega),zhp]
    exact ⟨_,rfl,by simp,rfl⟩
   ·rintro S ⟨_,rfl⟩
    rw [zc8]
    first|exact ⟨(by first|rfl|trivial),(by first|rfl|trivial),(by first|rfl|trivial)⟩|exact ⟨(by first|rfl|trivial),(by first|rfl|trivial)⟩
  have hl:=zsq (asks:=asks) hN
  refine zaw (l':=[some (.ref 1),some (mD asks rs),some (.int (rs.length:Int)),some (.ref n3),some (.ref m4),some (.int (c:Int)),some (.ref m6),none,none,none,none]) (S':=S5.set m6 (.lst ((sL asks rs).map L3.pD++[.tup [.int 0,.int 0]]))) ?_ ?_
  ·rw [zc9,zc1]
   simp only [zbd,zba,za7,zap,zd4,qg0,qg1,zbb,zdq,List.length_cons,List.length_nil]
   refine ⟨⟨_,zdv t6⟩,by omega,?_⟩
   rw [zem t6 (by rw [List.length_map];omega)]
   first|done|trivial|rfl|exact ⟨(by first|rfl|trivial),(by first|rfl|trivial),(by first|rfl|trivial)⟩|exact And.intro (by first|rfl|trivial) (by first|rfl|trivial)
  rw [zc9,zc1]
  simp only [za7,zap,qg0,qg1,zbb]
  refine ⟨⟨_,zdv (zcj t6)⟩,?_⟩
  rw [yex (zcj t6)]
  exact .inl ⟨.inl (by first|rfl|trivial),_,_,rfl,zbc (zbc (g5.get t3) (by omega)) (by omega),zbc (zbc (g5.get t4) (by omega)) (by omega),((g4.trans g5).set (by omega) _).set (by omega) _⟩
 rintro l S4 ⟨x5,x6,rfl,t3,g4⟩
 obtain ⟨R,pR,back,keep⟩:=(p.gr g4).hold
 refine za1 (fun l S'=>Pn ns rest (k+12) S') ?_ ?_
 ·refine zh7 (fun c l S'=>(∃x7 x8 x9 x10,l=[some (.ref 1),some (mD asks rs),some (.int (rs.length:Int)),some (.ref n3),some (.ref m4),x5,x6,x7,x8,x9,x10])/\Pn ns R (k+2*(c:Int)) S') (fun _ _=>False) (n:=6) rfl (by decide) ⟨⟨_,_,_,_,rfl⟩,by simpa using pR⟩ ?_ (fun l' S' ⟨_,b⟩=>⟨rfl,back _ _ (b.mono (by omega))⟩) (fun d l' S' z=>z.elim)
  rintro c l S5 hc ⟨⟨x7,x8,x9,x10,rfl⟩,p5⟩
  simp only [za0,qs0,qs1]
  refine Wr.mono (ye0 ok hN p5 (by omega) F fun k' S' q=>keep k' S' q n3 _ (by omega) t3) ?_
  rintro f l' S' ⟨rfl,⟨y8,y9,y10,rfl⟩,p6⟩
  exact .inl ⟨.inl rfl,⟨_,_,_,_,rfl⟩,p6.mono (by omega)⟩
 rintro l S5 p5
 simp! only [zap]
 first|exact ⟨(by first|rfl|trivial),p5⟩|exact ⟨p5⟩
noncomputable def opn (rs:List (List Cl)):List (List Cl):=rs.map fun cs=>cs.map fun c=>(c.1,none)
theorem zs0 (rs:List (List Cl)) (r a:Nat):(cell (opn rs) r a).2=none:=by
 unfold cell opn
 rw [List.getElem?_map]
 cases rs[r]? with
 | none=>rfl
 | some cs =>
  show (((cs.map fun c:Cl=>((c.1,none):Cl))[a]?).getD (none,none)).2=none
  rw [List.getElem?_map]
  cases cs[a]? with
  | none=>rfl
  | some c=>rfl
theorem ye2 {asks:Nat}{rs:List (List Cl)}(h:OkM asks rs):OkM asks (opn rs):=by
 have hl:(opn rs).length=rs.length:=List.length_map _
 refine ⟨h.a1,h.a4,by rw [hl];exact h.r1,by rw [hl];exact h.r24,fun cs hcs=>?_,fun cs hcs c hc g hg=>?_⟩
 ·obtain ⟨ds,hd,rfl⟩:=List.mem_map.mp hcs
  rw [List.length_map];exact h.len ds hd
 ·obtain ⟨ds,hd,rfl⟩:=List.mem_map.mp hcs
  obtain ⟨d,hd2,rfl⟩:=List.mem_map.mp hc
  rw [hl];exact h.go ds hd d hd2 g hg
theorem ye3 (asks:Nat) (rs:List (List Cl)):sL asks (opn rs)=[]:=by
 have:ptL asks (opn rs)=[]:=by
  rw [List.eq_nil_iff_forall_not_mem]
  intro p hp
  obtain ⟨_,w,u,b,q,_,_,_,_,hf⟩:=mem_pt.mp hp
  unfold fl at hf
  rw [zs0,zs0] at hf
  cases hf
 have e:=(SP.sortP_perm ((ptL asks (opn rs)).map zP)).length_eq
 unfold sL
 apply List.eq_nil_of_length_eq_zero
 rw [e,this];rfl
noncomputable def opC:D->D
 | .tup [g,_]=>.tup [g,.non]
 | x=>x
noncomputable def opR:D->D
 | .tup cs=>.tup (cs.map opC)
 | x=>x
theorem ye4 (rs:List (List Cl)):(rs.map rD).map opR=(opn rs).map rD:=by
 unfold opn
 rw [List.map_map,List.map_map]
 apply List.map_congr_left
 intro cs _
 show D.tup ((cs.map cD).map opC)=D.tup ((cs.map fun c=>(c.1,none)).map cD)
 rw [List.map_map,List.map_map]
 rfl
theorem ye5 {asks:Nat}{rs:List (List Cl)}{l:Lo}{S:Sto}{Q:D->Sto->Prop}(h:OkM asks rs) (l3:l[3]? = some (some (mD asks rs))) (q:∀S',Gr S S'->Q (mD asks (opn rs)) S') :
  We (zaf za2 (zac (eOp zaj (zaa 3) (eC (.int 0))) (zac (zaf zdm (zac (zbo (zcn (eOp zaj (zaa 3) (eC (.int 1)))) [none] (zag 0) (zay) (zaf zdm (zac (zbo (zcn (zaa 0)) [none,none] (zc6 2 (zb4 (zag 0) (zb4 (zag 1) (zc5)))) (zay) (zaf za2 (zac (zaa 0) (zac (eC .non) (zae))))) (zae)))) (zae))) (zae)))) l S Q:=by
 have sz:=zb6
 have r24:=h.r24
 have a4:=h.a4
 have h1:eOp zaj (zaa 3) (eC (.int 1)) l S=some (.tup (rs.map rD),S):=by
  unfold eOp zaa eC
  rw [l3];rfl
 have h0:eOp zaj (zaa 3) (eC (.int 0)) l S=some (.int (asks:Int),S):=by
  unfold eOp zaa eC
  rw [l3];rfl
 have him:zcn (eOp zaj (zaa 3) (eC (.int 1))) l S=some (itX (rs.map rD),(rs.map rD).length+1,S):=by
  unfold zcn;rw [h1];rfl
 rw [zbd,zba]
 refine ⟨_,_,h0,?_⟩
 simp only [zba,za7]
 rw [zbd,zba]
 refine zgq (rs.map rD) opR (fun T=>Gr S T) (fun l=>∃x0,l=[x0]) him (Gr.refl S) ⟨none,rfl⟩ (fun i T _=>rfl) (by rw [List.length_map];omega) ?_ ?_
 ·rintro x l T hx ⟨x0,rfl⟩ hT
  obtain ⟨cs,hcs,rfl⟩:=List.mem_map.mp hx
  have hcl:=h.len cs hcs
  simp only [za0,qs0]
  refine ⟨hT,⟨_,rfl⟩,?_⟩
  rw [zbd,zba]
  refine zgq (cs.map cD) opC (fun T'=>T' = T) (fun l=>∃x0 x1,l=[x0,x1]) (S1:=T) (it:=itX (cs.map cD)) rfl rfl ⟨none,none,rfl⟩ (fun i T _=>rfl) (by rw [List.length_map];omega) ?_ ?_
  ·rintro x l T' hx ⟨x0,x1,rfl⟩ hT'
   obtain ⟨c,hc,rfl⟩:=List.mem_map.mp hx
   unfold cD
   simp only [zew,zey,zex,za0,List.length_cons,List.length_nil,qs0,qs1]
   refine ⟨(by first|rfl|trivial),hT',⟨_,_,rfl⟩,?_⟩
   simp only [zbd,zba,za7,zap,zd4,qg0,qg1,zbb,zdq,List.length_cons,List.length_nil]
   exact ⟨by omega,rfl,hT'⟩
  ·rintro T' rfl
   rw [za7,zge]
   exact ⟨_,zdu,rfl,hT.trans ⟨_,rfl⟩⟩
 ·intro T hT
  rw [za7,zge]
  refine ⟨_,zdu,?_⟩
  rw [ye4,zdq]
  exact ⟨by simp;omega,q _ (hT.trans ⟨_,rfl⟩)⟩
theorem law_true (ns:List Int) (hl:ns.length<=63):∃S',ze5 [.ref 0] [.flst (ns.map D.int)]=some (.bl true,S'):=by
 have sz:=zb6
 suffices h:Wo (ze5 [.ref 0] [.flst (ns.map D.int)]) fun v S'=>v=.bl true by
  obtain ⟨v,S',e,rfl⟩:=h
  exact ⟨S',e⟩
 unfold ze5 zrz
 simp only [zb2,List.map_cons,List.map_nil,List.length_cons,List.length_nil,Nat.reduceAdd,Nat.reduceSub,List.replicate,List.cons_append,List.nil_append]
 refine za1 (fun l S=>l=[some (.ref 0),some (.ref 1),none,none,none,none,none]/\Pn ns [] 0 S) ?_ ?_
 ·simp! only [zap]
  refine ⟨by omega,(by first|rfl|trivial),(by first|rfl|trivial),0,0,[],?_,by omega,by omega,by omega⟩
  rfl
 rintro l S ⟨rfl,p0⟩
 refine zh9 (fun l S=>True) (fun d S=>False) ?_ ?_ (fun d l1 S1 o=>o.elim)
 ·refine zh7 (fun c l S1=>∃x2 x3 x4 x5 x6,l=[some (.ref 0),some (.ref 1),x2,x3,x4,x5,x6]/\Pn ns [] (1100*(c:Int)) S1) (fun _ _=>False) (n:=3) rfl (by decide) ⟨_,_,_,_,_,rfl,by simpa using p0⟩ ?_ (fun l' S' _=>.inl ⟨rfl,trivial⟩) (fun d l' S' z=>z.elim)
  rintro c l S1 hc ⟨x2,x3,x4,x5,x6,rfl,p⟩
  simp only [za0,qs0,qs1]
  refine za1 (fun l S2=>∃asks rs,l=[some (.ref 0),some (.ref 1),some (.int (c:Int)),some (mD asks rs),x4,x5,x6]/\OkM asks rs/\rs.length<=10/\Pn ns [] (1100*(c:Int)+1000) S2) ?_ ?_
  ·simp only [zby,zbd,zba,za7,zap,zd4,qg0,qg1,zbb]
   refine (ydd ns [] S1 (1100*(c:Int)) 10 p (by omega) (by omega) (by decide) (by decide)).mono ?_
   rintro v S2 ⟨⟨many,asks,hm,hm7⟩,p2⟩
   obtain ⟨rs,rfl,ok,hlen⟩:=yde hm (by omega)
   simp only [za0,qs0,qs1]
   first|exact ⟨(by first|rfl|trivial),asks,rs,rfl,ok,by omega,p2⟩|exact ⟨asks,rs,rfl,ok,by omega,p2⟩
  rintro l S2 ⟨asks,rs,rfl,ok,hN,p2⟩
  have hNo:(opn rs).length<=10:=by unfold opn;rw [List.length_map];exact hN
  refine za1 (fun l S3=>l=[some (.ref 0),some (.ref 1),some (.int (c:Int)),some (mD asks rs),some (mD asks (opn rs)),x5,x6]/\Pn ns [] (1100*(c:Int)+1000) S3) ?_ ?_
  ·rw [zby]
   refine ye5 ok rfl fun S' g=>?_
   simp only [za0,qs0,qs1]
   first|exact ⟨(by first|rfl|trivial),(by first|rfl|trivial),p2.gr g⟩|exact ⟨(by first|rfl|trivial),p2.gr g⟩
  rintro l S3 ⟨rfl,p3⟩
  have hl3:=p3.len
  refine za1 (fun l S4=>∃m5,l=[some (.ref 0),some (.ref 1),some (.int (c:Int)),some (mD asks rs),some (mD asks (opn rs)),some (.ref m5),x6]/\S4[m5]? = some (.lst ((sL asks rs).map L3.pD))/\2<=m5/\Pn ns [] (1100*(c:Int)+1000) S4) ?_ ?_
  ·simp only [zby,zbd,zba,za7,zap,qg0,qg1,zbb]
   refine Wo.mono (zm2 ok hN) ?_
   rintro v S' ⟨m,rfl,a,b,d⟩
   simp only [za0,qs0,qs1]
   first|exact ⟨(by first|rfl|trivial),m,rfl,a,by omega,p3.gr b⟩|exact ⟨m,rfl,a,by omega,p3.gr b⟩
  rintro l S4 ⟨m5,rfl,t5,hm5,p4⟩
  obtain ⟨pd,hz,hpy,_⟩:=zm6 hN t5 t5
  refine zaw (l':=[some (.ref 0),some (.ref 1),some (.int (c:Int)),some (mD asks rs),some (mD asks (opn rs)),some (.ref m5),some (.str pd.shown)]) (S':=S4) ?_ ?_
  ·simp only [zby,zbd,zba,za7,zap,qg0,qg1,zbb]
   rw [zjs hpy (by omega)]
   simp only [za0,qs0,qs1]
   all_goals first|trivial|exact ⟨(by first|rfl|trivial),(by first|rfl|trivial),(by first|rfl|trivial)⟩
  obtain ⟨R,pR,back,keep⟩:=p4.hold
  refine zc3 (fun b S'=>b=false/\Pn ns [] (1100*(c:Int)+1012) S') ?_ (fun S1 z=>absurd z.1 (by simp)) ?_
  ·simp only [zgc,zgd,zd5,zbd,zba,za7,zap,qg0,qg1,zbb]
   refine Wo.mono (ye1 ok hN pR (by omega)) ?_
   rintro v S6 ⟨rfl,p6⟩
   refine ⟨true,rfl,?_⟩
   rw [if_neg (by simp)]
   simp only [zdp,zbd,zba,za7,zap,qg0,qg1,zbb]
   refine Wo.mono (zm2 (ye2 ok) hNo) ?_
   rintro v S7 ⟨m,rfl,a,g7,_⟩
   rw [ye3] at a
   have p8:=p6.gr (g7.trans (C:=S7++[.lst []]) ⟨_,rfl⟩)
   rw [zi7]
   refine ⟨Nat.zero_le _,?_⟩
   rw [zmi (zb3 a) zbz]
   refine ⟨false,rfl,?_⟩
   rw [if_neg (by simp)]
   obtain ⟨pd2,hz2,h1,h2⟩:=zm6 hN t5 (keep _ _ p8 m5 _ hm5 t5)
   rw [hpy] at h1
   cases h1
   rw [zjs h2 (by omega),zhp]
   exact ⟨_,rfl,by simp,back _ _ (p8.mono (by omega))⟩
  ·rintro S6 ⟨_,p6⟩
   rw [zc8]
   exact .inl ⟨.inl rfl,_,_,_,_,_,rfl,p6.mono (by omega)⟩
 ·rintro l S1 _
  simp! only [zap]
end M
noncomputable def PySem.W.Fast.tw9370558246716608514 : Nat := 0
noncomputable def PySem.W.Fast.tw6195168018261148900 : Nat := 0
noncomputable def PySem.W.Fast.tw16175016820976256302 : Nat := 0
noncomputable def PySem.W.Fast.tw17637699817771131559 : Nat := 0
noncomputable def PySem.W.Fast.tw1230954945965290360 : Nat := 0
noncomputable def PySem.W.Fast.tw5114145529231005912 : Nat := 0
noncomputable def PySem.W.Fast.tw1783638834683073075 : Nat := 0
noncomputable def PySem.W.Fast.tw6083541737870382181 : Nat := 0
noncomputable def PySem.W.Fast.tw737527533391524977 : Nat := 0
noncomputable def PySem.W.Fast.tw13491159491763132106 : Nat := 0
noncomputable def PySem.W.Fast.tw11685464894482990827 : Nat := 0
noncomputable def PySem.W.Fast.tw6348559147772084352 : Nat := 0
open PySem PySem.W PyProof.Rows
theorem PySem.Challenge.cw_opencells_k07_rooms_that_part_holds : PySem.Challenge.rw_opencells_k07_rooms_that_part.Holds := by
 w_on;o_law;k_head;(case hw=>w_witness2)
 k_fill
 refine G.walk (l:=PySem.Challenge.rw_opencells_k07_rooms_that_part) rfl rfl (fun w h Y=>PySem.W.kIn_of Y) ?F (fun ns hl=>M.law_true ns hl)
 case F =>
  intro w mg fa h KX GN hmg
  refine' G.all_mk KX GN hmg ?a0 ?l0 ?c0 ?k0 ?a1 ?l1 ?c1 ?k1 ?a2 ?l2 ?c2 ?k2 ?a3 ?l3 ?c3 ?k3 ?a4 ?l4 ?c4 ?k4 ?a5 ?l5 ?c5 ?k5 ?a6 ?l6 ?c6 ?k6 ?a7 ?l7 ?c7 ?k7 ?a8 ?l8 ?c8 ?k8 ?a9 ?l9 ?c9 ?k9 ?a10 ?l10 ?c10 ?k10 ?a11 ?l11 ?c11 ?k11 ?a12 ?l12 ?c12 ?k12 ?a13 ?l13 ?c13 ?k13 ?a14 ?l14 ?c14 ?k14 ?a15 ?l15 ?c15 ?k15 ?a16 ?l16 ?c16 ?k16 ?a17 ?l17 ?c17 ?k17 ?a18 ?l18 ?c18 ?k18 ?a19 ?l19 ?c19 ?k19 ?z_len ?z_isinstance ?z_tuple ?z_range ?z_abs ?z_max ?z_min ?z_any ?z_sorted ?z_list ?z_repr
  (case a0=>k_is)
  (case l0=>k_is)
  (case c0=>k_is)
  (case k0=>k_is)
  (case a1=>k_is)
  (case l1=>k_is)
  (case c1=>k_is)
  (case k1=>k_is)
  (case a2=>k_is)
  (case l2=>k_is)
  (case c2=>k_is)
  (case k2=>k_is)
  (case a3=>k_is)
  (case l3=>k_is)
  (case c3=>k_is)
  (case k3=>k_is)
  (case a4=>k_is)
  (case l4=>k_is)
  (case c4=>k_is)
  (case k4=>k_is)
  (case a5=>k_is)
  (case l5=>k_is)
  (case c5=>k_is)
  (case k5=>k_is)
  (case a6=>k_is)
  (case l6=>k_is)
  (case c6=>k_is)
  (case k6=>k_is)
  (case a7=>k_is)
  (case l7=>k_is)
  (case c7=>k_is)
  (case k7=>k_is)
  (case a8=>k_is)
  (case l8=>k_is)
  (case c8=>k_is)
  (case k8=>k_is)
  (case a9=>k_is)
  (case l9=>k_is)
  (case c9=>k_is)
  (case k9=>k_is)
  (case a10=>k_is)
  (case l10=>k_is)
  (case c10=>k_is)
  (case k10=>k_is)
  (case a11=>k_is)
  (case l11=>k_is)
  (case c11=>k_is)
  (case k11=>k_is)
  (case a12=>k_is)
  (case l12=>k_is)
  (case c12=>k_is)
  (case k12=>k_is)
  (case a13=>k_is)
  (case l13=>k_is)
  (case c13=>k_is)
  (case k13=>k_is)
  (case a14=>k_is)
  (case l14=>k_is)
  (case c14=>k_is)
  (case k14=>k_is)
  (case a15=>k_is)
  (case l15=>k_is)
  (case c15=>k_is)
  (case k15=>k_is)
  (case a16=>k_is)
  (case l16=>k_is)
  (case c16=>k_is)
  (case k16=>k_is)
  (case a17=>k_is)
  (case l17=>k_is)
  (case c17=>k_is)
  (case k17=>k_is)
  (case a18=>k_is)
  (case l18=>k_is)
  (case c18=>k_is)
  (case k18=>k_is)
  (case a19=>k_is)
  (case l19=>k_is)
  (case c19=>k_is)
  (case k19=>k_is)
  (case z_len=>k_is)
  (case z_isinstance=>k_is)
  (case z_tuple=>k_is)
  (case z_range=>k_is)
  (case z_abs=>k_is)
  (case z_max=>k_is)
  (case z_min=>k_is)
  (case z_any=>k_is)
  (case z_sorted=>k_is)
  (case z_list=>k_is)
  (case z_repr=>k_is)
#print axioms PySem.Challenge.cw_opencells_k07_rooms_that_part_holds